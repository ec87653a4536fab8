import PyProof.Rows.All
import Wide.All
import OpenK.AllK
import Wide.FinOn
import Lean
import PyProof.EqAt
import PyProof.EqKinds
import PyProof.TupleCall
import KE.KTryMore
import KE.KIsAll
import KE.KRevSl
import PyProof.ExcArgsOwn
import PyProof.NeKinds
import KE.KIntText
import PyProof.CompFree
import PyProof.ConsumeWalk
import PyProof.DictCopy
import PySem.Challenge.RW_chessclock_k10_whole_clock
set_option Elab.async false
set_option linter.all false
set_option maxRecDepth 100000
namespace L2
open PySem PySem.Spec PyProof.Rows
abbrev Key := Sum Int Str
def keyIs : Key → Value → Bool
  | .inl k, v => Value.isInt k v
  | .inr x, v => Value.isStrOf x v
def keyH (w : World) : Key → Int
  | .inl k => hashInt k
  | .inr x => hashStr w x
theorem keyIs_shape : ∀ {k : Key} {v : Value}, keyIs k v = true → (∃ i t, k = Sum.inl i ∧ v = Value.int i t) ∨ (∃ x t, k = Sum.inr x ∧ v = Value.str x t)
  | .inl i, v, h => by
    obtain ⟨t, e⟩ := Value.isInt_shape (k := i) (v := v) h
    exact .inl ⟨i, t, rfl, e⟩
  | .inr x, v, h => by
    obtain ⟨t, e⟩ := Value.isStrOf_shape (x := x) (v := v) h
    exact .inr ⟨x, t, rfl, e⟩
theorem keyIs_int (i : Int) (t : Tok) : keyIs (.inl i) (.int i t) = true := by simp [keyIs, Value.isInt]
theorem keyIs_str (x : Str) (t : Tok) : keyIs (.inr x) (.str x t) = true := by simp [keyIs, Value.isStrOf]
theorem key_ll (a b : Int) : decide ((Sum.inl a : Key) = Sum.inl b) = (a == b) := by
  by_cases e : a = b
  · subst e; simp
  · have h : ¬ (Sum.inl a : Key) = Sum.inl b := fun q => e (Sum.inl.inj q)
    rw [decide_eq_false h]
    exact (beq_eq_false_iff_ne.mpr e).symm
theorem key_rr (a b : Str) : decide ((Sum.inr a : Key) = Sum.inr b) = decide (a = b) := by
  by_cases e : a = b
  · subst e; simp
  · have h : ¬ (Sum.inr a : Key) = Sum.inr b := fun q => e (Sum.inr.inj q)
    rw [decide_eq_false h, decide_eq_false e]
theorem key_lr (a : Int) (b : Str) : decide ((Sum.inl a : Key) = Sum.inr b) = false := decide_eq_false (fun q => nomatch q)
theorem key_rl (a : Str) (b : Int) : decide ((Sum.inr a : Key) = Sum.inl b) = false := decide_eq_false (fun q => nomatch q)
def mixKind (prog : Program) (w : World) : PySem.KeyKind prog w Key where
  is := keyIs
  hash := keyH w
  inj := fun v a b ha hb => by
    rcases keyIs_shape ha with ⟨i, t, rfl, rfl⟩ | ⟨x, t, rfl, rfl⟩
    · rcases keyIs_shape hb with ⟨j, u, rfl, e⟩ | ⟨y, u, rfl, e⟩
      · injection e with e1 _; rw [e1]
      · exact nomatch e
    · rcases keyIs_shape hb with ⟨j, u, rfl, e⟩ | ⟨y, u, rfl, e⟩
      · exact nomatch e
      · injection e with e1 _; rw [e1]
  byValue := fun k v h => by
    rcases keyIs_shape h with ⟨i, t, rfl, rfl⟩ | ⟨x, t, rfl, rfl⟩ <;> rfl
  pyHash := fun hv h => by
    rcases keyIs_shape hv with ⟨i, t, rfl, rfl⟩ | ⟨x, t, rfl, rfl⟩
    · exact wpAny_pyHash_int h
    · exact wpAny_pyHash_str h
  eqBool := fun hu hv h => by
    rcases keyIs_shape hu with ⟨i, t, rfl, rfl⟩ | ⟨x, t, rfl, rfl⟩
    · rcases keyIs_shape hv with ⟨j, u, rfl, rfl⟩ | ⟨y, u, rfl, rfl⟩
      · rw [key_ll] at h; exact wpAny_eqBool_int h
      · rw [key_lr] at h; exact SeqAt.EqAt.int_str i t y u _ _ _ _ h
    · rcases keyIs_shape hv with ⟨j, u, rfl, rfl⟩ | ⟨y, u, rfl, rfl⟩
      · rw [key_rl] at h; exact SeqAt.EqAt.str_int x t j u _ _ _ _ h
      · rw [key_rr] at h; exact wpAny_eqBool_str h
  «strs» := fun k x t v h => by
    rcases keyIs_shape h with ⟨i, u, rfl, e⟩ | ⟨y, u, rfl, e⟩
    · exact nomatch e
    · injection e with e1 _
      subst e1
      cases v <;> rfl
theorem mixKind_int (prog : Program) (w : World) (i : Int) (t : Tok) : (mixKind prog w).is (.inl i) (.int i t) = true := keyIs_int i t
theorem mixKind_str (prog : Program) (w : World) (x : Str) (t : Tok) : (mixKind prog w).is (.inr x) (.str x t) = true := keyIs_str x t
end L2
namespace L2
open PySem PySem.Spec PyProof.Rows
inductive V where
  | non | bl (b : Bool) | int (i : Int) | str (x : Str) | byt (b : Array UInt8) | flt (b : UInt64) | ref (a : Addr) | ty (n : String)
  deriving DecidableEq
def RelV : V → Value → Prop
  | .non, u => u = Value.none
  | .bl b, u => u = Value.bool b
  | .int i, u => ∃ t, u = Value.int i t
  | .str x, u => ∃ t, u = Value.str x t
  | .byt b, u => ∃ t, u = Value.bytes b t
  | .flt b, u => ∃ t, u = Value.float b t
  | .ref a, u => u = Value.ref a
  | .ty n, u => u = Value.type n
abbrev Vals : List V → List Value → Prop := Paired RelV
theorem Vals.length {xs : List V} {us : List Value} (r : Vals xs us) : xs.length = us.length := Paired.length r
theorem Vals.get : ∀ {xs : List V} {us : List Value} {i : Nat} {x : V}, Vals xs us → xs[i]? = some x → ∃ u, us[i]? = some u ∧ RelV x u
  | _, _, _, _, .nil, e => by simp at e
  | _, _, 0, _, .cons r _, e => by simp at e; subst e; exact ⟨_, rfl, r⟩
  | _, _, i + 1, x, .cons _ t, e => by
    obtain ⟨u, h1, h2⟩ := Vals.get (i := i) (x := x) t (by simpa using e)
    exact ⟨u, by simpa using h1, h2⟩
theorem Vals.append : ∀ {xs ys : List V} {us ws : List Value}, Vals xs us → Vals ys ws → Vals (xs ++ ys) (us ++ ws)
  | _, _, _, _, .nil, s => s
  | _, _, _, _, .cons r t, s => .cons r (Vals.append t s)
def RelO : Option V → Option Value → Prop
  | some v, some u => RelV v u
  | none, none => True
  | _, _ => False
def KV {κ : Type} : List (κ × V) → List (κ × Value) → Prop := Paired fun (p : κ × V) (q : κ × Value) => p.1 = q.1 ∧ RelV p.2 q.2
def kV : Key → V
  | .inl i => .int i
  | .inr x => .str x
inductive HO where
  | lst (xs : List V)
  | tup (xs : List V)
  | dK (kvs : List (Key × V)) | dT (kvs : List (List Key × V))
  | set (S : Int → Bool) (n : Nat)
  | ins (C dx : Addr) (fs : List (Str × V))
  | own (x : Addr)
  | xd (fs : List (Str × V))
  | met (f x : Addr)
  | rng (lo hi : Int)
  | frz (o : Obj) (u : HO)
  | tbl (ps : Array Value)
  | ext (φ : Heap → Prop)
abbrev Hp := Addr → Option HO
def upd (H : Hp) (a : Addr) (o : HO) : Hp := fun b => if b = a then some o else H b
theorem upd_same {H : Hp} {a : Addr} {o : HO} : upd H a o a = some o := by unfold upd; rw [if_pos rfl]
theorem upd_ne {H : Hp} {a b : Addr} {o : HO} (h : b ≠ a) : upd H a o b = H b := by unfold upd; rw [if_neg h]
theorem upd_upd {H : Hp} {a : Addr} {o u : HO} : upd (upd H a o) a u = upd H a u := by
  funext b; unfold upd; split <;> rfl
theorem ne_of {H : Hp} {a b : Addr} {o u : HO} (h : H a = some o) (h' : H b = some u) (d : o ≠ u) : a ≠ b := by
  intro e; subst e; rw [h] at h'; exact d (Option.some.inj h')
theorem ne_of_none {H : Hp} {a b : Addr} {o : HO} (h : H a = some o) (h' : H b = none) : a ≠ b := by
  intro e; subst e; rw [h] at h'; cases h'
section
variable (P : Program) (w : World)
def ObjOk (H : Hp) (h : Heap) (a : Addr) : HO → Prop
  | .lst xs => xs.length ≤ sizeLine ∧ ∃ (its : List Value) (n : Nat), Vals xs its ∧ h.get? a = some { cls := .type "list", data := .seq its.toArray n }
  | .tup xs => xs.length ≤ sizeLine ∧ ∃ its : List Value, Vals xs its ∧ IsTup h a its.toArray
  | .dK kvs => kvs.length ≤ sizeLine ∧ (a == sysModules) = false ∧ ∃ vs, KV kvs vs ∧ h.DictOf (mixKind P w) a vs
  | .dT kvs => kvs.length ≤ sizeLine ∧ (a == sysModules) = false ∧ ∃ xs : List (List Key × Addr × Value),
      Paired (fun (p : List Key × V) (q : List Key × Addr × Value) => p.1 = q.1 ∧ H q.2.1 = some (.tup (p.1.map kV)) ∧ RelV p.2 q.2.2) kvs xs ∧
      ∃ o es ep, h.get? a = some o ∧ o.ExactDict ∧ o.data = .dict es ep ∧ es.toList = xs.map (entryOfKey (tupleKind (mixKind P w))) ∧ (xs.map (·.1)).Nodup
  | .set S n => h.SetOf (intKind P w) a S n
  | .ins C dx fs => H dx = some (.own a) ∧ fs.length ≤ 1000 ∧ dx ≠ a ∧ h.get? a = some (PySem.W.instObj C dx) ∧
      ∃ mA, h.Ns1 dx mA ∧ (∀ f, RelO (fs.lookup f) (mA f)) ∧ PySem.Within mA (fs.map (·.1))
  | .own _ => ∃ o, h.get? a = some o
  | .xd fs => ∃ mA, h.Ns1 a mA ∧ ∀ f, RelO (fs.lookup f) (mA f)
  | .rng lo hi => ∃ t u v, h.get? a = some { cls := .type "range", data := .fields #[.int lo t, .int hi u, .int 1 v] }
  | .frz o u => h.get? a = some o ∧ ObjOk H h a u
  | .tbl ps => h.get? a = some { cls := .none, data := .fields ps }
  | .met f x => h.get? a = some (PySem.W.methodObj (.ref f) (.ref x))
  | .ext φ => φ h ∧ (∃ o, h.get? a = some o) ∧ ∀ h1 h2 : Heap, φ h1 → (∀ o, h1.get? a = some o → h2.get? a = some o) → φ h2
def HOk (H : Hp) (h : Heap) : Prop := ∀ a o, H a = some o → ObjOk P w H h a o
end
section
variable {P : Program} {w : World} {H H' : Hp} {h h' : Heap} {a : Addr} {o : HO}
theorem ObjOk.lt (x : ObjOk P w H h a o) : a < h.objs.size := by
  cases o with
  | lst xs => obtain ⟨_, _, _, _, e⟩ := x; exact Heap.lt_size e
  | tup xs => obtain ⟨_, _, _, p⟩ := x; exact p.lt
  | dK kvs => obtain ⟨_, _, _, _, o, _, _, e, _⟩ := x; exact Heap.lt_size e
  | dT kvs => obtain ⟨_, _, _, _, o, _, _, e, _⟩ := x; exact Heap.lt_size e
  | set S n => obtain ⟨o, _, _, _, e, _⟩ := x; exact Heap.lt_size e
  | ins C dx fs => obtain ⟨_, _, _, e, _⟩ := x; exact Heap.lt_size e
  | own y => obtain ⟨_, e⟩ := x; exact Heap.lt_size e
  | xd fs => obtain ⟨_, ⟨_, _, _, e, _⟩, _⟩ := x; exact Heap.lt_size e
  | rng lo hi => obtain ⟨_, _, _, e⟩ := x; exact Heap.lt_size e
  | frz ob u => obtain ⟨e, _⟩ := x; exact Heap.lt_size e
  | tbl ps => exact Heap.lt_size (show h.get? a = some _ from x)
  | met f y => exact Heap.lt_size (show h.get? a = some _ from x)
  | ext φ => obtain ⟨_, ⟨_, e⟩, _⟩ := x; exact Heap.lt_size e
theorem Paired.mapP {α β : Type} {F G : α → β → Prop} : ∀ {l₁ : List α} {l₂ : List β}, Paired F l₁ l₂ → (∀ a b, F a b → G a b) → Paired G l₁ l₂
  | _, _, .nil, _ => .nil
  | _, _, .cons r t, f => .cons (f _ _ r) (Paired.mapP t f)
theorem ObjOk.stay (x : ObjOk P w H h a o) (k : ∀ b u, (b = a ∨ H b = some (.own a)) → h.get? b = some u → h'.get? b = some u)
    (ho : ∀ b, H b = some (.own a) → H' b = some (.own a)) (ht : ∀ b xs, H b = some (.tup xs) → H' b = some (.tup xs)) : ObjOk P w H' h' a o := by
  induction o with
  | lst xs => obtain ⟨z, its, n, r, e⟩ := x; exact ⟨z, its, n, r, k _ _ (.inl rfl) e⟩
  | tup xs => obtain ⟨z, its, r, ob, e, c⟩ := x; exact ⟨z, its, r, ob, k _ _ (.inl rfl) e, c⟩
  | dK kvs => obtain ⟨z, y, vs, r, ob, es, ep, e, c⟩ := x; exact ⟨z, y, vs, r, ob, es, ep, k _ _ (.inl rfl) e, c⟩
  | dT kvs =>
    obtain ⟨z, y, xs, r, ob, es, ep, e, c⟩ := x
    exact ⟨z, y, xs, Paired.mapP r fun p q z => ⟨z.1, ht _ _ z.2.1, z.2.2⟩, ob, es, ep, k _ _ (.inl rfl) e, c⟩
  | set S n => obtain ⟨ob, es, ep, t, e, c⟩ := x; exact ⟨ob, es, ep, t, k _ _ (.inl rfl) e, c⟩
  | ins C dx fs =>
    obtain ⟨d, z, ne, e, mA, ⟨od, es, ep, e2, c⟩, r⟩ := x
    exact ⟨ho _ d, z, ne, k _ _ (.inl rfl) e, mA, ⟨od, es, ep, k _ _ (.inr d) e2, c⟩, r⟩
  | own y => obtain ⟨ob, e⟩ := x; exact ⟨ob, k _ _ (.inl rfl) e⟩
  | xd fs => obtain ⟨mA, ⟨od, es, ep, e, c⟩, r⟩ := x; exact ⟨mA, ⟨od, es, ep, k _ _ (.inl rfl) e, c⟩, r⟩
  | rng lo hi => obtain ⟨t, u, v, e⟩ := x; exact ⟨t, u, v, k _ _ (.inl rfl) e⟩
  | frz ob u ih => obtain ⟨e, q⟩ := x; exact ⟨k _ _ (.inl rfl) e, ih q⟩
  | tbl ps =>
    have e : h.get? a = some { cls := .none, data := .fields ps } := x
    show h'.get? a = some { cls := .none, data := .fields ps }
    exact k a _ (.inl rfl) e
  | met f y =>
    have e : h.get? a = some (PySem.W.methodObj (.ref f) (.ref y)) := x
    show h'.get? a = some (PySem.W.methodObj (.ref f) (.ref y))
    exact k a _ (.inl rfl) e
  | ext φ => obtain ⟨p, ⟨o, e⟩, st⟩ := x; exact ⟨st _ _ p fun o q => k _ _ (.inl rfl) q, ⟨o, k _ _ (.inl rfl) e⟩, st⟩
theorem HOk.lt (x : HOk P w H h) (e : H a = some o) : a < h.objs.size := (x a o e).lt
theorem HOk.fresh (x : HOk P w H h) (e : h.objs.size ≤ a) : H a = none := by
  cases q : H a with
  | none => rfl
  | some u => exact absurd (Nat.lt_of_lt_of_le (x.lt q) e) (Nat.lt_irrefl _)
theorem HOk.kept (x : HOk P w H h) (k : ∀ b u, h.get? b = some u → h'.get? b = some u) : HOk P w H h' := fun a o e =>
  (x a o e).stay (fun b u _ q => k b u q) (fun _ q => q) fun _ _ q => q
theorem HOk.laid (x : HOk P w H h) (k : ∀ b u, h.get? b = some u → h'.get? b = some u) (hp : h.objs.size ≤ a) (new : ObjOk P w (upd H a o) h' a o) : HOk P w (upd H a o) h' := fun b u e => by
  have hn := x.fresh hp
  by_cases hb : b = a
  · subst hb; rw [upd_same] at e; cases e; exact new
  · rw [upd_ne hb] at e
    exact (x b u e).stay (fun c v _ q => k c v q) (fun c q => by rw [upd_ne (ne_of_none q hn)]; exact q) fun c xs q => by rw [upd_ne (ne_of_none q hn)]; exact q
end
def Rd (H : Hp) (a : Addr) (u : HO) : Prop := H a = some u ∨ ∃ o, H a = some (.frz o u)
theorem Rd.ok {P : Program} {w : World} {H : Hp} {h : Heap} {a : Addr} {u : HO} (r : Rd H a u) (x : HOk P w H h) : ObjOk P w H h a u := by
  rcases r with r | ⟨o, r⟩
  · exact x a u r
  · obtain ⟨_, q⟩ := x a _ r
    exact q
def Mut : Option HO → Prop
  | some (.lst _) => True
  | some (.dK _) => True
  | some (.dT _) => True
  | some (.set _ _) => True
  | some (.ins _ _ _) => True
  | some (.ext _) => True
  | _ => False
section
variable {P : Program} {w : World} {H : Hp} {h h' : Heap} {x e : Addr} {o' : HO}
theorem HOk.write (ok : HOk P w H h) (mu : Mut (H x)) (he : e = x ∨ H e = some (.own x)) (k : ∀ b u, b ≠ e → h.get? b = some u → h'.get? b = some u) (heo : ∃ u, h'.get? e = some u)
    (new : ObjOk P w (upd H x o') h' x o') : HOk P w (upd H x o') h' := fun b u q => by
  have nown : ∀ c y, H c = some (.own y) → c ≠ x := fun c y r z => by subst z; rw [r] at mu; exact mu
  have ntup : ∀ c xs, H c = some (.tup xs) → c ≠ x := fun c xs r z => by subst z; rw [r] at mu; exact mu
  by_cases hb : b = x
  · subst hb; rw [upd_same] at q; cases q; exact new
  · rw [upd_ne hb] at q
    by_cases hbe : b = e
    · have q' : H b = some (.own x) := by
        rcases he with z | z
        · exact absurd (hbe.trans z) hb
        · rw [hbe]; exact z
      rw [q] at q'; cases q'
      obtain ⟨v, hv⟩ := heo
      exact ⟨v, by rw [hbe]; exact hv⟩
    · refine (ok b u q).stay (fun c v hc r => k c v ?_ r) (fun c r => by rw [upd_ne (nown c b r)]; exact r) fun c xs r => by rw [upd_ne (ntup c xs r)]; exact r
      rcases hc with rfl | hc
      · exact hbe
      · rintro rfl
        rcases he with z | z
        · exact nown c b hc z
        · rw [hc] at z; cases z; exact hb rfl
end
structure Un (fs ex : List Addr) (H H' : Hp) (h h' : Heap) : Prop where
  keep : ∀ b o, h.get? b = some o → H b = none → b ∉ fs → b ∉ ex → h'.get? b = some o
  slot : ∀ b o, h.get? b = some o → H b = none → b ∈ fs → b ∉ ex → ∃ sl, h'.get? b = some { o with slots := sl }
  free : ∀ b o, h.get? b = some o → H b = none → b ∉ ex → H' b = none
  there : ∀ b o, h.get? b = some o → b ∉ ex → ∃ o', h'.get? b = some o'
  tups : ∀ b xs, H b = some (.tup xs) → H' b = some (.tup xs)
  frzs : ∀ b o u, H b = some (.frz o u) → H' b = some (.frz o u)
  tbls : ∀ b ps, H b = some (.tbl ps) → ∃ more, H' b = some (.tbl (ps ++ more))
section
variable {fs fs' ex ex' : List Addr} {H H1 H2 : Hp} {h h1 h2 h' : Heap} {a x e : Addr} {o : HO}
theorem Un.any (u : Un fs ex H H1 h h1) {b : Addr} {ob : Obj} (q : h.get? b = some ob) (n : H b = none) (hx : b ∉ ex) : ∃ sl, h1.get? b = some { ob with slots := sl } := by
  by_cases hb : b ∈ fs
  · exact u.slot b ob q n hb hx
  · exact ⟨ob.slots, u.keep b ob q n hb hx⟩
theorem Un.kept (k : ∀ b u, h.get? b = some u → h'.get? b = some u) : Un fs ex H H h h' :=
  ⟨fun b ob q _ _ _ => k b ob q, fun b ob q _ _ _ => ⟨ob.slots, k b ob q⟩, fun _ _ _ n _ => n, fun b ob q _ => ⟨ob, k b ob q⟩, fun _ _ q => q, fun _ _ _ q => q, fun _ ps q => ⟨#[], by rw [q]; simp⟩⟩
theorem Un.refl : Un fs ex H H h h := Un.kept fun _ _ q => q
theorem Un.laid (k : ∀ b u, h.get? b = some u → h'.get? b = some u) (hp : h.objs.size ≤ a) (hn : H a = none) : Un fs ex H (upd H a o) h h' where
  keep := fun b u q _ _ _ => k b u q
  slot := fun b u q _ _ _ => ⟨u.slots, k b u q⟩
  free := fun b u q n _ => by rw [upd_ne (Nat.ne_of_lt (Nat.lt_of_lt_of_le (Heap.lt_size q) hp))]; exact n
  there := fun b u q _ => ⟨u, k b u q⟩
  tups := fun b xs q => by rw [upd_ne (ne_of_none q hn)]; exact q
  frzs := fun b u xs q => by rw [upd_ne (ne_of_none q hn)]; exact q
  tbls := fun b ps q => ⟨#[], by rw [upd_ne (ne_of_none q hn), q]; simp⟩
theorem Un.write (mu : Mut (H x)) (he : e = x ∨ H e = some (.own x)) (k : ∀ b u, b ≠ e → h.get? b = some u → h'.get? b = some u) (heo : ∃ u, h'.get? e = some u) : Un fs ex H (upd H x o) h h' := by
  have hx : ∀ b, H b = none → b ≠ x := fun b n z => by subst z; rw [n] at mu; exact mu
  have hb : ∀ b, H b = none → b ≠ e := fun b n z => by
    subst z
    rcases he with r | r
    · exact hx b n r
    · rw [n] at r; cases r
  have hm : ∀ b u, H b = some u → ¬ Mut (some u) → b ≠ x := fun b u q nm z => by subst z; rw [q] at mu; exact nm mu
  refine ⟨fun b u q n _ _ => k b u (hb b n) q, fun b u q n _ _ => ⟨u.slots, k b u (hb b n) q⟩, fun b u q n _ => by rw [upd_ne (hx b n)]; exact n, fun b u q _ => ?_,
    fun b xs q => by rw [upd_ne (hm b _ q fun z => z)]; exact q, fun b u xs q => by rw [upd_ne (hm b _ q fun z => z)]; exact q, fun b ps q => ⟨#[], by rw [upd_ne (hm b _ q fun z => z), q]; simp⟩⟩
  by_cases hbe : b = e
  · subst hbe; exact heo
  · exact ⟨u, k b u hbe q⟩
end
def trk (h : Heap) (H : Hp) : List Addr := (List.range h.objs.size).filter fun a => (H a).isSome
def hidT (h : Heap) (H : Hp) : Heap := PySem.W.hideAll h (trk h H)
theorem hidT_size (h : Heap) (H : Hp) : (hidT h H).objs.size = h.objs.size := PySem.W.hideAll_size _ _
theorem hidT_get {h : Heap} {H : Hp} {b : Addr} {o : Obj} (e : h.get? b = some o) (n : H b = none) : (hidT h H).get? b = some o :=
  PySem.W.hideAll_get _ e fun hm => by
    have q : (H b).isSome = true := (List.mem_filter.mp hm).2
    rw [n] at q; simp at q
theorem of_hidT {h : Heap} {H : Hp} {b : Addr} {o : Obj} (e : (hidT h H).get? b = some o) : h.get? b = some o ∧ H b = none := by
  have e' : h.get? b = some o := PySem.W.of_hideAll (trk h H) e
  refine ⟨e', ?_⟩
  cases q : H b with
  | none => rfl
  | some x =>
    have hm : b ∈ trk h H := List.mem_filter.mpr ⟨List.mem_range.mpr (Heap.lt_size e'), by simp [q]⟩
    have z : (hidT h H).get? b = none := PySem.W.hideAll_none (trk h H) hm
    rw [z] at e; cases e
end L2
namespace L2
open PySem PySem.Spec PyProof.Rows
structure Mod (K : PySem.W.Frag) (mg : Str → Option Value) (base : Heap) : Prop where
  kin : K.In base
  glob : base.Ns mainGlobals mg
  blt : ∃ mb, base.Ns builtinsNs mb ∧ ∀ x : Str, x ≠ "__name__" → mb x = bootBuiltins x
  nolimit : base.NoLimit
structure Cx where
  prog : Program
  w : World
  K : PySem.W.Frag
  mg : Str → Option Value
  base : Heap
  A : Around
  N : List Str
  s₀ : Shared
  H₀ : Hp
  env : Env
  outer : List Env
  stack : List Env
  ex : List Addr
  fn : Str → Bool
  calm : Bool
  pn : List (Addr × Obj)
  xe : Value → Shared → Prop
def frs (l : List Env) : List Addr := l.filterMap (·.frame)
abbrev Cx.fs (X : Cx) : List Addr := frs X.outer
def Vis (sc : Scope) (x : Str) : Prop := sc.names.lookup x = some .local ∨ sc.names.lookup x = some .cell ∨ sc.names.lookup x = some .free
def Loc (sc : Scope) (x : Str) : Prop := sc.names.lookup x = some .local ∨ sc.names.lookup x = some .cell
def Look (env : Env) (h : Heap) (m : Str → Option Value) (x : Str) (u : Value) : Prop :=
  (env.kindOf x = some .local ∧ m x = some u) ∨ ((env.kindOf x = some .cell ∨ env.kindOf x = some .free) ∧ ∃ c, env.cells.lookup x = some c ∧ h.IsCell c (some u))
structure Cx.Ok (X : Cx) : Prop where
  mod : Mod X.K X.mg X.base
  kind : X.env.scope.kind = .function
  glob : X.env.globals = mainGlobals
  blt : X.env.builtins = builtinsNs
  above : X.s₀.heap.objs.size ≤ X.env.locals
  inj : ∀ x y c, X.env.cells.lookup x = some c → X.env.cells.lookup y = some c → x = y
  has : ∀ x, (X.env.kindOf x = some .cell ∨ X.env.kindOf x = some .free) → ∃ c, X.env.cells.lookup x = some c
  cab : ∀ x c, X.fn x = true → X.env.cells.lookup x = some c → X.s₀.heap.objs.size ≤ c
  hd : X.calm = true → X.A.handled = none
  frames : X.A.frames = some X.stack
  stk : X.stack = X.outer ∨ (X.stack = X.env :: X.outer ∧ X.env.frame = some X.env.locals)
  exf : ∀ b ∈ X.ex, b ≠ X.env.locals ∧ ∀ x c, X.env.cells.lookup x = some c → c ≠ b
  bs : ∀ b o, X.base.get? b = some o → X.s₀.heap.get? b = some o ∧ X.H₀ b = none
  bsz : X.base.objs.size ≤ X.s₀.heap.objs.size
  noex : ∀ b o, X.base.get? b = some o → b ∉ X.ex
  exfs : ∀ b ∈ X.ex, b ∉ X.fs
  funs : X.s₀.heap.FunFrames X.base X.outer
  frf : ∀ b ∈ X.fs, X.H₀ b = none
structure Inv (X : Cx) (pins : List (Addr × Obj)) (σ : List (Option V)) (H : Hp) (s : Shared) : Prop where
  ok : X.Ok
  os : s.os = X.s₀.os
  bare : AllBare s.gens
  base : Un X.fs X.ex X.H₀ H X.s₀.heap s.heap
  loc : ∃ m, s.heap.Ns X.env.locals m ∧ ∀ (i : Nat) (x : Str) (v : V), X.N[i]? = some x → σ[i]? = some (some v) → Vis X.env.scope x → ∃ u, RelV v u ∧ Look X.env s.heap m x u
  cell : ∀ x c, X.env.cells.lookup x = some c → ∃ v, s.heap.IsCell c v
  free : H X.env.locals = none
  freeC : ∀ x c, X.env.cells.lookup x = some c → H c = none
  pin : ∀ p ∈ X.pn ++ pins, s.heap.get? p.1 = some p.2 ∧ H p.1 = none ∧ p.1 ≠ X.env.locals ∧ p.1 ∉ X.fs ∧ ∀ v, p.2.data ≠ .cell v
  hok : HOk X.prog X.w H s.heap
  len : σ.length = X.N.length
section
variable {X : Cx} {pins : List (Addr × Obj)} {σ : List (Option V)} {H H' : Hp} {s : Shared} {h' : Heap}
theorem Cx.Ok.nofr (ok : X.Ok) {b : Addr} {o : Obj} (e : X.base.get? b = some o) : b ∉ X.fs := fun hb => by
  have := (ok.funs.mem hb).1
  rw [e] at this; cases this
theorem Inv.bs (I : Inv X pins σ H s) : ∀ b o, X.base.get? b = some o → s.heap.get? b = some o ∧ H b = none := fun b o e =>
  ⟨I.base.keep b o (I.ok.bs b o e).1 (I.ok.bs b o e).2 (I.ok.nofr e) (I.ok.noex b o e), I.base.free b o (I.ok.bs b o e).1 (I.ok.bs b o e).2 (I.ok.noex b o e)⟩
theorem Inv.bk (I : Inv X pins σ H s) : ∀ b o, X.base.get? b = some o → s.heap.get? b = some o := fun b o e => (I.bs b o e).1
theorem Inv.mod (I : Inv X pins σ H s) : Mod X.K X.mg X.base := I.ok.mod
theorem Inv.kIn (I : Inv X pins σ H s) : X.K.In s.heap := I.ok.mod.kin.keeps I.bk
theorem Inv.lt (I : Inv X pins σ H s) : X.env.locals < s.heap.objs.size := let ⟨_, hn, _⟩ := I.loc; hn.lt
theorem Inv.sz (I : Inv X pins σ H s) : X.s₀.heap.objs.size ≤ s.heap.objs.size := Nat.le_trans I.ok.above (Nat.le_of_lt I.lt)
theorem Inv.nofs (I : Inv X pins σ H s) {a : Addr} (h : s.heap.objs.size ≤ a) : a ∉ X.fs := fun hb => by
  obtain ⟨_, o, ho, _⟩ := I.ok.funs.mem hb
  exact absurd (Nat.lt_of_lt_of_le (Heap.lt_size ho) (Nat.le_trans I.sz h)) (Nat.lt_irrefl _)
theorem Inv.cne (I : Inv X pins σ H s) : ∀ x c, X.env.cells.lookup x = some c → c ≠ X.env.locals := fun x c e z => by
  obtain ⟨v, o, ho, hd⟩ := I.cell x c e
  obtain ⟨m, ⟨o', es, ep, ho', hd', _⟩, _⟩ := I.loc
  rw [z, ho'] at ho; cases ho; rw [hd'] at hd; cases hd
theorem Inv.funs (I : Inv X pins σ H s) : s.heap.FunFrames X.base X.outer := by
  have all : ∀ (l : List Env), (∀ b ∈ frs l, b ∈ X.fs) → X.s₀.heap.FunFrames X.base l → s.heap.FunFrames X.base l := by
    intro l
    induction l with
    | nil => intro _ _; trivial
    | cons env r ih =>
      intro hs hl
      obtain ⟨hk, ⟨L, o, hf, hn, ho, hd⟩, hr⟩ := hl
      have hL : L ∈ X.fs := hs L (by unfold frs; rw [List.filterMap_cons, hf]; exact List.mem_cons_self)
      obtain ⟨sl, e⟩ := I.base.slot L o ho (I.ok.frf L hL) hL fun z => I.ok.exfs L z hL
      exact ⟨hk, ⟨L, _, hf, hn, e, hd⟩, ih (fun b hb => hs b (by unfold frs; rw [List.filterMap_cons, hf]; exact List.mem_cons_of_mem _ hb)) hr⟩
  exact all X.outer (fun _ hb => hb) I.ok.funs
theorem Inv.stack (I : Inv X pins σ H s) : s.heap.FunFrames X.base X.stack := by
  rcases I.ok.stk with e | ⟨e, hf⟩
  · rw [e]; exact I.funs
  · rw [e]
    obtain ⟨m, hn, _⟩ := I.loc
    refine .cons (by rw [I.ok.kind]; decide) hf hn ?_ I.funs
    exact Heap.get?_none_of_le (Nat.le_trans I.ok.bsz I.ok.above)
theorem Inv.stkSub (I : Inv X pins σ H s) : ∀ b ∈ frs X.stack, b ∈ X.env.locals :: X.fs := fun b hb => by
  rcases I.ok.stk with e | ⟨e, hf⟩
  · rw [e] at hb; exact List.mem_cons_of_mem _ hb
  · rw [e] at hb
    unfold frs at hb
    rw [List.filterMap_cons, hf] at hb
    exact hb
theorem Inv.stkFree (I : Inv X pins σ H s) : ∀ b ∈ frs X.stack, H b = none := fun b hb => by
  rcases List.mem_cons.mp (I.stkSub b hb) with e | hb
  · rw [e]; exact I.free
  · obtain ⟨_, o, ho, _⟩ := I.ok.funs.mem hb
    exact I.base.free b o ho (I.ok.frf b hb) fun z => I.ok.exfs b z hb
theorem Inv.step {g' : Array GenState} {t' : Nat} {d' : Drawn} {ch : List Addr} (I : Inv X pins σ H s)
    (hch : ∀ b ∈ ch, (b ∈ X.ex ∨ X.s₀.heap.objs.size ≤ b) ∧ b ≠ X.env.locals ∧ (∀ x c, X.env.cells.lookup x = some c → c ≠ b) ∧ ∀ p ∈ X.pn ++ pins, p.1 ≠ b)
    (keep : ∀ b o, b ≠ X.env.locals → b ∉ X.fs → b ∉ ch → s.heap.get? b = some o → H b = none → h'.get? b = some o)
    (slot : ∀ b o, b ≠ X.env.locals → b ∈ X.fs → b ∉ ch → s.heap.get? b = some o → H b = none → ∃ sl, h'.get? b = some { o with slots := sl }) (free : ∀ b o, b ∉ ch → s.heap.get? b = some o → H b = none → H' b = none)
    (there : ∀ b o, b ∉ ch → s.heap.get? b = some o → ∃ o', h'.get? b = some o')
    (tups : ∀ b xs, H b = some (.tup xs) → H' b = some (.tup xs)) (frzs : ∀ b o u, H b = some (.frz o u) → H' b = some (.frz o u)) (tbls : ∀ b ps, H b = some (.tbl ps) → ∃ more, H' b = some (.tbl (ps ++ more)))
    (ns : ∀ m, s.heap.Ns X.env.locals m → h'.Ns X.env.locals m) (hok : HOk X.prog X.w H' h') (hg : AllBare g') :
    Inv X pins σ H' { s with heap := h', gens := g', drawn := d', toks := t' } := by
  have neL : ∀ b o, X.s₀.heap.get? b = some o → b ≠ X.env.locals := fun b o e => Nat.ne_of_lt (Nat.lt_of_lt_of_le (Heap.lt_size e) I.ok.above)
  have neC : ∀ b o, X.s₀.heap.get? b = some o → b ∉ X.ex → b ∉ ch := fun b o e hx hb => by
    rcases (hch b hb).1 with z | z
    · exact hx z
    · exact absurd (Nat.lt_of_lt_of_le (Heap.lt_size e) z) (Nat.lt_irrefl _)
  have cellK : ∀ x c, X.env.cells.lookup x = some c → ∀ v, s.heap.IsCell c v → h'.IsCell c v := fun x c e v ⟨o, ho, hd⟩ => by
    have nch : c ∉ ch := fun z => (hch c z).2.2.1 x c e rfl
    by_cases hc : c ∈ X.fs
    · obtain ⟨sl, q⟩ := slot c o (I.cne x c e) hc nch ho (I.freeC x c e)
      exact ⟨_, q, hd⟩
    · exact ⟨o, keep c o (I.cne x c e) hc nch ho (I.freeC x c e), hd⟩
  refine ⟨I.ok, I.os, hg, ⟨fun b o e n hb hx => ?_, fun b o e n hb hx => ?_, fun b o e n hx => ?_, fun b o e hx => ?_, fun b xs e => tups b xs (I.base.tups b xs e), fun b o xs e => frzs b o xs (I.base.frzs b o xs e), fun b ps e => ?_⟩, ?_, fun x c e => ?_, ?_, fun x c e => ?_, fun p hp => ?_, hok, I.len⟩
  · exact keep b o (neL b o e) hb (neC b o e hx) (I.base.keep b o e n hb hx) (I.base.free b o e n hx)
  · obtain ⟨sl, e1⟩ := I.base.slot b o e n hb hx
    obtain ⟨sl', e2⟩ := slot b _ (neL b o e) hb (neC b o e hx) e1 (I.base.free b o e n hx)
    exact ⟨sl', e2⟩
  · obtain ⟨o', e1⟩ := I.base.there b o e hx
    exact free b o' (neC b o e hx) e1 (I.base.free b o e n hx)
  · obtain ⟨o', e1⟩ := I.base.there b o e hx
    exact there b o' (neC b o e hx) e1
  · obtain ⟨m1, e1⟩ := I.base.tbls b ps e
    obtain ⟨m2, e2⟩ := tbls b _ e1
    exact ⟨m1 ++ m2, by rw [e2, Array.append_assoc]⟩
  · obtain ⟨m, hn, hl⟩ := I.loc
    refine ⟨m, ns m hn, fun i x v e1 e2 e3 => ?_⟩
    obtain ⟨u, r, l⟩ := hl i x v e1 e2 e3
    refine ⟨u, r, ?_⟩
    rcases l with l | ⟨k, c, e, z⟩
    · exact .inl l
    · exact .inr ⟨k, c, e, cellK x c e _ z⟩
  · obtain ⟨v, z⟩ := I.cell x c e
    exact ⟨v, cellK x c e v z⟩
  · obtain ⟨m, ⟨o, _, _, ho, _⟩, _⟩ := I.loc
    exact free _ o (fun z => (hch _ z).2.1 rfl) ho I.free
  · obtain ⟨v, o, ho, hd⟩ := I.cell x c e
    exact free c o (fun z => (hch c z).2.2.1 x c e rfl) ho (I.freeC x c e)
  · obtain ⟨e, n, ne, nf, d⟩ := I.pin p hp
    have nch : p.1 ∉ ch := fun z => (hch p.1 z).2.2.2 p hp rfl
    exact ⟨keep p.1 p.2 ne nf nch e n, free p.1 p.2 nch e n, ne, nf, d⟩
theorem Inv.un {t' : Nat} (I : Inv X pins σ H s) (u : Un X.fs [] H H' s.heap h') (hok : HOk X.prog X.w H' h') : Inv X pins σ H' { s with heap := h', toks := t' } := by
  obtain ⟨m, ⟨o, es, ep, ho, r⟩, _⟩ := id I.loc
  obtain ⟨sl, hL⟩ := u.any ho I.free (by simp)
  exact I.step (g' := s.gens) (d' := s.drawn) (ch := []) (fun _ z => nomatch z) (fun b o _ hb _ e n => u.keep b o e n hb (by simp)) (fun b o _ hb _ e n => u.slot b o e n hb (by simp)) (fun b o _ e n => u.free b o e n (by simp)) (fun b o _ e => u.there b o e (by simp)) u.tups u.frzs u.tbls (fun m' hm => by
    obtain ⟨o', es', ep', ho', r'⟩ := hm
    rw [ho] at ho'; cases ho'
    exact ⟨_, es', ep', hL, r'⟩) hok I.bare
theorem Inv.call {g' : Array GenState} {t' : Nat} {d' : Drawn} {ch : List Addr} (I : Inv X pins σ H s) (u : Un (frs X.stack) ch H H' s.heap h') (hok : HOk X.prog X.w H' h') (hg : AllBare g')
    (hch : ∀ b ∈ ch, (b ∈ X.ex ∨ X.s₀.heap.objs.size ≤ b) ∧ b ≠ X.env.locals ∧ (∀ x c, X.env.cells.lookup x = some c → c ≠ b) ∧ ∀ p ∈ X.pn ++ pins, p.1 ≠ b) :
    Inv X pins σ H' { s with heap := h', gens := g', drawn := d', toks := t' } := by
  obtain ⟨m, ⟨o, es, ep, ho, r⟩, _⟩ := id I.loc
  obtain ⟨sl, hL⟩ := u.any ho I.free fun z => (hch _ z).2.1 rfl
  exact I.step (ch := ch) hch (fun b o hL hb hc e n => u.keep b o e n (fun z => (List.mem_cons.mp (I.stkSub b z)).elim hL hb) hc) (fun b o _ _ hc e n => u.any e n hc) (fun b o hc e n => u.free b o e n hc) (fun b o hc e => u.there b o e hc) u.tups u.frzs u.tbls (fun m' hm => by
    obtain ⟨o', es', ep', ho', r'⟩ := hm
    rw [ho] at ho'; cases ho'
    exact ⟨_, es', ep', hL, r'⟩) hok hg
theorem Inv.turned {t' : Nat} {it : Addr} (I : Inv X pins σ H s) (k : ∀ b o, b ≠ it → s.heap.get? b = some o → h'.get? b = some o) (hn : H it = none) (hL : it ≠ X.env.locals)
    (h1 : it ∈ X.ex ∨ X.s₀.heap.objs.size ≤ it) (h2 : ∀ x c, X.env.cells.lookup x = some c → c ≠ it) (h3 : ∀ p ∈ X.pn ++ pins, p.1 ≠ it) : Inv X pins σ H { s with heap := h', toks := t' } := by
  have nit : ∀ b u, H b = some u → b ≠ it := fun b u e z => by rw [z, hn] at e; cases e
  refine I.step (g' := s.gens) (d' := s.drawn) (ch := [it]) (fun b hb => ?_) (fun b o _ _ hc e _ => k b o (fun z => hc (by simp [z])) e) (fun b o _ _ hc e _ => ⟨o.slots, k b o (fun z => hc (by simp [z])) e⟩) (fun _ _ _ _ n => n)
    (fun b o hc e => ⟨o, k b o (fun z => hc (by simp [z])) e⟩) (fun _ _ e => e) (fun _ _ _ e => e) (fun b ps e => ⟨#[], by rw [e]; simp⟩) (fun m hm => ?_) (fun b u e => ?_) I.bare
  · have e : b = it := by simpa using hb
    subst e
    exact ⟨h1, hL, h2, h3⟩
  · obtain ⟨o, es, ep, ho, r⟩ := hm
    exact ⟨o, es, ep, k _ o (Ne.symm hL) ho, r⟩
  · refine (I.hok b u e).stay (fun c v hc q => k c v ?_ q) (fun _ q => q) fun _ _ q => q
    rcases hc with z | z
    · rw [z]; exact nit b u e
    · exact nit c _ z
theorem Inv.tok (I : Inv X pins σ H s) (t : Nat) : Inv X pins σ H { s with toks := t } := I.un (h' := s.heap) (t' := t) Un.refl I.hok
theorem Inv.kept {t' : Nat} (I : Inv X pins σ H s) (k : ∀ b u, s.heap.get? b = some u → h'.get? b = some u) : Inv X pins σ H { s with heap := h', toks := t' } := I.un (Un.kept k) (I.hok.kept k)
theorem Inv.laid {a : Addr} {o : HO} {t' : Nat} (I : Inv X pins σ H s) (k : ∀ b u, s.heap.get? b = some u → h'.get? b = some u) (hp : s.heap.objs.size ≤ a) (new : ObjOk X.prog X.w (upd H a o) h' a o) :
    Inv X pins σ (upd H a o) { s with heap := h', toks := t' } := I.un (Un.laid k hp (I.hok.fresh hp)) (I.hok.laid k hp new)
theorem Inv.write {x e : Addr} {o : HO} {t' : Nat} (I : Inv X pins σ H s) (mu : Mut (H x)) (he : e = x ∨ H e = some (.own x)) (k : ∀ b u, b ≠ e → s.heap.get? b = some u → h'.get? b = some u) (heo : ∃ u, h'.get? e = some u)
    (new : ObjOk X.prog X.w (upd H x o) h' x o) : Inv X pins σ (upd H x o) { s with heap := h', toks := t' } := I.un (Un.write mu he k heo) (I.hok.write mu he k heo new)
theorem Inv.pins_of {pins' : List (Addr × Obj)} (I : Inv X pins σ H s) (h : ∀ p ∈ pins', s.heap.get? p.1 = some p.2 ∧ H p.1 = none ∧ p.1 ≠ X.env.locals ∧ p.1 ∉ X.fs ∧ ∀ v, p.2.data ≠ .cell v) : Inv X pins' σ H s :=
  ⟨I.ok, I.os, I.bare, I.base, I.loc, I.cell, I.free, I.freeC, fun p hp => (List.mem_append.mp hp).elim (fun z => I.pin p (List.mem_append_left _ z)) (h p), I.hok, I.len⟩
theorem nodup_ix {N : List Str} (hN : N.Nodup) {i j : Nat} {x : Str} (a : N[i]? = some x) (b : N[j]? = some x) : i = j := by
  obtain ⟨h1, e1⟩ := List.getElem?_eq_some_iff.mp a
  obtain ⟨h2, e2⟩ := List.getElem?_eq_some_iff.mp b
  exact (List.getElem_inj hN).mp (e1.trans e2.symm)
theorem store_ok2 {M : Model} {A : Around} {E : Value → Shared → Prop} {i : Nat} {x : Str} {v : V} {u : Value} {Q : Unit → Shared → Prop} (I : Inv X pins σ H s) (hN : X.N.Nodup) (hi : X.N[i]? = some x) (hx : Loc X.env.scope x) (r : RelV v u)
    (h : ∀ s', Inv X pins (σ.set i (some v)) H s' → (∃ a, Heap.SameBut a s.heap s'.heap ∧ (a = X.env.locals ∨ X.env.cells.lookup x = some a)) → Q () s') (hf : X.fn x = true ∨ X.env.scope.names.lookup x = some .local := by first | exact .inl rfl | exact .inr rfl | assumption) : wpAny M A (storeName X.env x u) Q E s := by
  obtain ⟨m, hn, hl⟩ := id I.loc
  have hcls : (X.env.scope.kind == .class || (X.env.scope.kind == .module && X.env.locals != X.env.globals)) = false := by rw [I.ok.kind]; rfl
  have hiσ : i < σ.length := by rw [I.len]; exact (List.getElem?_eq_some_iff.mp hi).1
  have cne := I.cne
  have tracked : ∀ {a : Addr} {h' : Heap}, (∃ o, s.heap.get? a = some o ∧ H a = none) → Heap.SameBut a s.heap h' → HOk X.prog X.w H h' := fun {a h'} ha hs b ob e => by
    obtain ⟨_, _, hfree⟩ := ha
    refine (I.hok b ob e).stay (fun c w' hc q => (hs.2 c ?_).trans q) (fun _ q => q) fun _ _ q => q
    rintro rfl
    rcases hc with rfl | hc
    · rw [hfree] at e; cases e
    · rw [hfree] at hc; cases hc
  rcases hx with hk | hk
  · refine wpAny_storeName_local hk hn (fun h' hn' hs => ?_) hcls
    obtain ⟨oL, _, _, hoL, _⟩ := id hn
    refine h _ ⟨I.ok, I.os, I.bare, ⟨fun b o e n hb hx => ?_, fun b o e n hb hx => ?_, I.base.free, fun b o e hx => ?_, I.base.tups, I.base.frzs, I.base.tbls⟩, ⟨_, hn', fun j y v' e1 e2 e3 => ?_⟩, fun y c e => ?_, I.free, I.freeC, fun p hp => ?_, tracked ⟨oL, hoL, I.free⟩ hs, by simpa using I.len⟩ ⟨_, hs, .inl rfl⟩
    · exact (hs.2 b (Nat.ne_of_lt (Nat.lt_of_lt_of_le (Heap.lt_size e) I.ok.above))).trans (I.base.keep b o e n hb hx)
    · obtain ⟨sl, e1⟩ := I.base.slot b o e n hb hx
      exact ⟨sl, (hs.2 b (Nat.ne_of_lt (Nat.lt_of_lt_of_le (Heap.lt_size e) I.ok.above))).trans e1⟩
    · obtain ⟨o', e1⟩ := I.base.there b o e hx
      exact ⟨o', (hs.2 b (Nat.ne_of_lt (Nat.lt_of_lt_of_le (Heap.lt_size e) I.ok.above))).trans e1⟩
    · by_cases hj : j = i
      · subst hj
        rw [hi] at e1; cases e1
        rw [List.getElem?_set_self hiσ] at e2
        cases e2
        exact ⟨u, r, .inl ⟨hk, by simp⟩⟩
      · rw [List.getElem?_set_ne (Ne.symm hj)] at e2
        obtain ⟨u', r', q⟩ := hl j y v' e1 e2 e3
        refine ⟨u', r', ?_⟩
        rcases q with ⟨k, e⟩ | ⟨k, c, e, z⟩
        · refine .inl ⟨k, ?_⟩
          have : y ≠ x := fun e => hj (nodup_ix hN e1 (e ▸ hi))
          simp [this, e]
        · exact .inr ⟨k, c, e, z.sameBut hs (cne y c e)⟩
    · obtain ⟨w', z⟩ := I.cell y c e
      exact ⟨w', z.sameBut hs (cne y c e)⟩
    · obtain ⟨e, n, ne, nf, d⟩ := I.pin p hp
      exact ⟨(hs.2 p.1 ne).trans e, n, ne, nf, d⟩
  · have hfn : X.fn x = true := by
      rcases hf with z | z
      · exact z
      · rw [z] at hk; cases hk
    obtain ⟨c, hc⟩ := I.ok.has x (.inl hk)
    obtain ⟨w', z⟩ := I.cell x c hc
    refine wpAny_storeName_cell I.ok.kind hk hc z (fun h' hc' hs => ?_)
    obtain ⟨oc, hoc, hocd⟩ := id z
    refine h { s with heap := h' } ⟨I.ok, I.os, I.bare, ⟨fun b o e n hb hx => ?_, fun b o e n hb hx => ?_, I.base.free, fun b o e hx => ?_, I.base.tups, I.base.frzs, I.base.tbls⟩, ⟨m, hn.sameBut hs (Ne.symm (cne x c hc)), fun j y v' e1 e2 e3 => ?_⟩, fun y c' e => ?_, I.free, I.freeC, fun p hp => ?_, tracked ⟨oc, hoc, I.freeC x c hc⟩ hs, by simpa using I.len⟩ ⟨c, hs, .inr hc⟩
    · exact (hs.2 b (Nat.ne_of_lt (Nat.lt_of_lt_of_le (Heap.lt_size e) (I.ok.cab x c hfn hc)))).trans (I.base.keep b o e n hb hx)
    · obtain ⟨sl, e1⟩ := I.base.slot b o e n hb hx
      exact ⟨sl, (hs.2 b (Nat.ne_of_lt (Nat.lt_of_lt_of_le (Heap.lt_size e) (I.ok.cab x c hfn hc)))).trans e1⟩
    · obtain ⟨o', e1⟩ := I.base.there b o e hx
      exact ⟨o', (hs.2 b (Nat.ne_of_lt (Nat.lt_of_lt_of_le (Heap.lt_size e) (I.ok.cab x c hfn hc)))).trans e1⟩
    · by_cases hj : j = i
      · subst hj
        rw [hi] at e1; cases e1
        rw [List.getElem?_set_self hiσ] at e2
        cases e2
        exact ⟨u, r, .inr ⟨.inl hk, c, hc, hc'⟩⟩
      · rw [List.getElem?_set_ne (Ne.symm hj)] at e2
        obtain ⟨u', r', q⟩ := hl j y v' e1 e2 e3
        refine ⟨u', r', ?_⟩
        rcases q with q | ⟨k, c', e, z'⟩
        · exact .inl q
        · refine .inr ⟨k, c', e, z'.sameBut hs ?_⟩
          rintro rfl
          exact hj (nodup_ix hN e1 (I.ok.inj _ _ _ e hc ▸ hi))
    · by_cases hcc : c' = c
      · subst hcc; exact ⟨_, hc'⟩
      · obtain ⟨w2, z2⟩ := I.cell y c' e
        exact ⟨w2, z2.sameBut hs hcc⟩
    · obtain ⟨e, n, ne, nf, d⟩ := I.pin p hp
      refine ⟨(hs.2 p.1 ?_).trans e, n, ne, nf, d⟩
      intro q
      rw [q, hoc] at e
      have q' : oc = p.2 := Option.some.inj e
      exact d w' (by rw [← q']; exact hocd)
theorem store_ok {M : Model} {A : Around} {E : Value → Shared → Prop} {i : Nat} {x : Str} {v : V} {u : Value} {Q : Unit → Shared → Prop} (I : Inv X pins σ H s) (hN : X.N.Nodup) (hi : X.N[i]? = some x) (hx : Loc X.env.scope x) (r : RelV v u)
    (h : ∀ s', Inv X pins (σ.set i (some v)) H s' → Q () s') (hf : X.fn x = true ∨ X.env.scope.names.lookup x = some .local := by first | exact .inl rfl | exact .inr rfl | assumption) : wpAny M A (storeName X.env x u) Q E s :=
  store_ok2 I hN hi hx r (fun s' I' _ => h s' I') hf
theorem Inv.call' {s' : Shared} {ch : List Addr} (I : Inv X pins σ H s) (ho : s'.os = s.os) (u : Un (frs X.stack) ch H H' s.heap s'.heap) (hok : HOk X.prog X.w H' s'.heap) (hg : AllBare s'.gens)
    (hch : ∀ b ∈ ch, (b ∈ X.ex ∨ X.s₀.heap.objs.size ≤ b) ∧ b ≠ X.env.locals ∧ (∀ x c, X.env.cells.lookup x = some c → c ≠ b) ∧ ∀ p ∈ X.pn ++ pins, p.1 ≠ b) : Inv X pins σ H' s' := by
  obtain ⟨h', g', d', t', o'⟩ := s'
  have e : o' = s.os := ho
  subst e
  exact I.call (g' := g') (t' := t') (d' := d') u hok hg hch
end
abbrev XK := Value → Option Addr → Hp → Prop
abbrev St := List (Option V)
abbrev VK := V → Hp → Prop
abbrev TE := St → Hp → VK → Prop
abbrev TT := St → Hp → (Bool → Hp → Prop) → Prop
abbrev TA := St → Hp → (List V → Hp → Prop) → Prop
structure Ends where
  nx : St → Hp → Prop
  rt : VK
  bk : St → Hp → Prop := fun _ _ => False
  ct : St → Hp → Prop := fun _ _ => False
abbrev TS := Ends → St → Hp → Prop
def EP (X : Cx) (pins : List (Addr × Obj)) (σ : St) (Q : VK) (u : Value) (s' : Shared) : Prop := ∃ v H', Inv X pins σ H' s' ∧ RelV v u ∧ Q v H'
def TP (X : Cx) (pins : List (Addr × Obj)) (σ : St) (Q : Bool → Hp → Prop) (b : Bool) (s' : Shared) : Prop := ∃ H', Inv X pins σ H' s' ∧ Q b H'
def AP (X : Cx) (pins : List (Addr × Obj)) (σ : St) (Q : List V → Hp → Prop) (us : List Value) (s' : Shared) : Prop := ∃ vs H', Inv X pins σ H' s' ∧ Vals vs us ∧ Q vs H'
def SP (X : Cx) (pins : List (Addr × Obj)) (D : Ends) (f : Flow) (s' : Shared) : Prop :=
  match f with
  | .next => ∃ σ' H', Inv X pins σ' H' s' ∧ D.nx σ' H'
  | .brk => ∃ σ' H', Inv X pins σ' H' s' ∧ D.bk σ' H'
  | .cont => ∃ σ' H', Inv X pins σ' H' s' ∧ D.ct σ' H'
  | .ret u => ∃ v σ' H', Inv X pins σ' H' s' ∧ RelV v u ∧ D.rt v H'
def PE (X : Cx) (e : Expr) (t : TE) : Prop :=
  ∀ (pins : List (Addr × Obj)) (s : Shared) (σ : St) (H : Hp) (Q : VK), Inv X pins σ H s → t σ H Q → wpAny (model X.prog X.w) X.A (eval e X.env) (EP X pins σ Q) X.xe s
def PT (X : Cx) (e : Expr) (t : TT) : Prop :=
  ∀ (pins : List (Addr × Obj)) (s : Shared) (σ : St) (H : Hp) (Q : Bool → Hp → Prop), Inv X pins σ H s → t σ H Q → wpAny (model X.prog X.w) X.A (isTrue e X.env (eval e X.env)) (TP X pins σ Q) X.xe s
def PW (X : Cx) (e : Expr) (t : TT) : Prop :=
  ∀ (whole : Sem Value) (pins : List (Addr × Obj)) (s : Shared) (σ : St) (H : Hp) (Q : Bool → Hp → Prop), Inv X pins σ H s → t σ H Q → wpAny (model X.prog X.w) X.A (isTrue e X.env whole) (TP X pins σ Q) X.xe s
theorem PW.pt {X : Cx} {e : Expr} {t : TT} (h : PW X e t) : PT X e t := h _
def PA (X : Cx) (es : List Expr) (t : TA) : Prop :=
  ∀ (pos : Pos) (pins : List (Addr × Obj)) (s : Shared) (σ : St) (H : Hp) (Q : List V → Hp → Prop), Inv X pins σ H s → t σ H Q → wpAny (model X.prog X.w) X.A (spliced (backTo pos (starEach es X.env))) (AP X pins σ Q) X.xe s
def PS (X : Cx) (st : Stmt) (t : TS) : Prop :=
  ∀ (pins : List (Addr × Obj)) (s : Shared) (σ : St) (H : Hp) (D : Ends), Inv X pins σ H s → t D σ H → wpAny (model X.prog X.w) X.A (exec st X.env) (SP X pins D) X.xe s
def PSs (X : Cx) (st : List Stmt) (t : TS) : Prop :=
  ∀ (pins : List (Addr × Obj)) (s : Shared) (σ : St) (H : Hp) (D : Ends), Inv X pins σ H s → t D σ H → wpAny (model X.prog X.w) X.A (execs st X.env) (SP X pins D) X.xe s
theorem thn {α : Type} {t : Sem α} {Q Q' : α → Shared → Prop} {M : Model} {A : Around} {E : Value → Shared → Prop} {s : Shared} (h : wpAny M A t Q E s) (hQ : ∀ a s, Q a s → Q' a s) : wpAny M A t Q' E s := wpAny_mono h hQ fun _ _ x => x
end L2
namespace L2
open PySem PySem.Spec PyProof.Rows
section
variable {X : Cx}
def tVar (i : Nat) : TE := fun σ H Q => ∃ v, σ[i]? = some (some v) ∧ Q v H
def tC (v : V) : TE := fun _ H Q => Q v H
theorem pe_var {i : Nat} {x : Str} {pos : Pos} (hN : X.N[i]? = some x) (hv : Vis X.env.scope x) (hd : (x == ("__debug__" : Str)) = false := by decide) (hcd : (x == ("__classdict__" : Str)) = false := by decide) : PE X (.Name x pos) (tVar i) := by
  intro pins s σ H Q I h
  obtain ⟨v, e, h⟩ := h
  obtain ⟨m, hn, hl⟩ := I.loc
  obtain ⟨u, r, l⟩ := hl i x v hN e hv
  have fin : EP X pins σ Q u s := ⟨v, H, I, r, h⟩
  rcases l with ⟨hk, hm⟩ | ⟨hk, c, hc, hcell⟩
  · exact wpAny_Name (wpAny_loadName_local I.ok.kind hk hn hm fin) hd
  · rcases hk with hk | hk
    · exact wpAny_Name (wpAny_loadName_cell I.ok.kind hk hc hcell fin) hd
    · exact wpAny_Name (wpAny_loadName_free I.ok.kind hk hc hcell fin hcd) hd
theorem pe_int {i j pos} : PE X (.Constant (.int i) j pos) (tC (.int i)) := fun _ _ _ H _ I h => wpAny_Constant_int ⟨.int i, H, I.tok _, ⟨_, rfl⟩, h⟩
theorem pe_bl {b j pos} : PE X (.Constant (.bool b) j pos) (tC (.bl b)) := fun _ _ _ H _ I h => Constant_bool ⟨.bl b, H, I, rfl, h⟩
theorem pe_non {j pos} : PE X (.Constant .none j pos) (tC .non) := fun _ _ _ H _ I h => Constant_none ⟨.non, H, I, rfl, h⟩
theorem pe_str {x j pos} : PE X (.Constant (.str x) j pos) (tC (.str x)) := fun _ _ _ H _ I h => Calls.Constant_str ⟨.str x, H, I.tok _, ⟨_, rfl⟩, h⟩
def Gl (X : Cx) (x : Str) : Prop := X.env.kindOf x = some .globalImplicit
theorem ld_glob {E : Value → Shared → Prop} {pins : List (Addr × Obj)} {s : Shared} {σ : St} {H : Hp} {x : Str} {u : Value} {pos : Pos} {Q : Value → Shared → Prop} (I : Inv X pins σ H s) (hg : Gl X x) (hm : X.mg x = some u) (h : Q u s)
    (hd : (x == ("__debug__" : Str)) = false := by decide) : wpAny (model X.prog X.w) X.A (eval (.Name x pos) X.env) Q E s :=
  Calls.Name_function_global I.ok.kind hg (Calls.loadGlobal_global (by rw [I.ok.glob]; exact I.mod.glob.keeps I.bk) hm h) hd
theorem ld_blt {E : Value → Shared → Prop} {pins : List (Addr × Obj)} {s : Shared} {σ : St} {H : Hp} {x : Str} {u : Value} {pos : Pos} {Q : Value → Shared → Prop} (I : Inv X pins σ H s) (hg : Gl X x) (hm : X.mg x = none) (hv : bootBuiltins x = some u) (h : Q u s)
    (hn : x ≠ "__name__" := by decide) (hd : (x == ("__debug__" : Str)) = false := by decide) : wpAny (model X.prog X.w) X.A (eval (.Name x pos) X.env) Q E s := by
  obtain ⟨mb, h1, h2⟩ := I.mod.blt
  exact Calls.Name_function_global I.ok.kind hg (Calls.loadGlobal_builtin (by rw [I.ok.glob]; exact I.mod.glob.keeps I.bk) hm (by rw [I.ok.blt]; exact h1.keeps I.bk) ((h2 x hn).trans hv) h) hd
theorem pe_glob {x : Str} {v : V} {u : Value} {pos : Pos} (hg : Gl X x) (hm : X.mg x = some u) (r : RelV v u) (hd : (x == ("__debug__" : Str)) = false := by decide) : PE X (.Name x pos) (tC v) :=
  fun _ _ _ H _ I h => ld_glob I hg hm ⟨v, H, I, r, h⟩ hd
theorem pe_bltn {x : Str} {v : V} {u : Value} {pos : Pos} (hg : Gl X x) (hm : X.mg x = none) (hv : bootBuiltins x = some u) (r : RelV v u) (hn : x ≠ "__name__" := by decide) (hd : (x == ("__debug__" : Str)) = false := by decide) : PE X (.Name x pos) (tC v) :=
  fun _ _ _ H _ I h => ld_blt I hg hm hv ⟨v, H, I, r, h⟩ hn hd
variable {a b : Expr} {ta tb : TE} {pos : Pos}
def tB (t : TE) : TT := fun σ H Q => t σ H fun x H1 => ∃ c, x = .bl c ∧ Q c H1
theorem pt_val {e : Expr} {t : TE} (h : PE X e t) (he : ∀ whole, isTrue e X.env whole = (do let v ← whole; standAt e.pos; holding [v] (truthy v)) := by intro _; rfl) : PT X e (tB t) := by
  intro pins s σ H Q I hw
  refine isTrue_plain (thn (h pins s σ H _ I hw) fun v s1 ⟨x, H1, I1, r1, q1⟩ => ?_) (he _)
  obtain ⟨d, rfl, q⟩ := q1
  cases r1
  exact wpAny_truthy_bool ⟨H1, I1, q⟩
variable {tA tB' : TT} {rest : List Expr}
def tAnd (t u : TT) : TT := fun σ H Q => t σ H fun c H1 => if c = true then u σ H1 Q else Q false H1
def tOr (t u : TT) : TT := fun σ H Q => t σ H fun c H1 => if c = true then Q true H1 else u σ H1 Q
def tNot (t : TT) : TT := fun σ H Q => t σ H fun c H1 => Q (!c) H1
theorem pw_and1 (ha : PT X a tA) : PW X (.BoolOp .And [a] pos) tA := by
  intro wh pins s σ H Q I h
  refine isTrue_and (thn (ha pins s σ H Q I h) fun c s1 e => ?_)
  cases c with
  | true => exact isTrue_and_nil e
  | false => exact e
theorem pw_or1 (ha : PT X a tA) : PW X (.BoolOp .Or [a] pos) tA := by
  intro wh pins s σ H Q I h
  refine isTrue_or (thn (ha pins s σ H Q I h) fun c s1 e => ?_)
  cases c with
  | false => exact isTrue_or_nil e
  | true => exact e
theorem pw_and (ha : PT X a tA) (hb : PW X (.BoolOp .And (b :: rest) pos) tB') : PW X (.BoolOp .And (a :: b :: rest) pos) (tAnd tA tB') := by
  intro wh pins s σ H Q I h
  refine isTrue_and (thn (ha pins s σ H _ I h) fun c s1 ⟨H1, I1, q1⟩ => ?_)
  cases c with
  | true => exact hb wh pins s1 σ H1 Q I1 q1
  | false => exact ⟨H1, I1, q1⟩
theorem pw_or (ha : PT X a tA) (hb : PW X (.BoolOp .Or (b :: rest) pos) tB') : PW X (.BoolOp .Or (a :: b :: rest) pos) (tOr tA tB') := by
  intro wh pins s σ H Q I h
  refine isTrue_or (thn (ha pins s σ H _ I h) fun c s1 ⟨H1, I1, q1⟩ => ?_)
  cases c with
  | true => exact ⟨H1, I1, q1⟩
  | false => exact hb wh pins s1 σ H1 Q I1 q1
theorem pt_not (ha : PT X a tA) : PT X (.UnaryOp .Not a pos) (tNot tA) := by
  intro pins s σ H Q I h
  exact isTrue_not (ha pins s σ H (fun c H1 => Q (!c) H1) I h)
def tAndV (ta tb : TE) : TE := fun σ H Q => ta σ H fun x H1 => ∃ c, x = .bl c ∧ if c = true then tb σ H1 Q else Q (.bl false) H1
def tOrV (ta tb : TE) : TE := fun σ H Q => ta σ H fun x H1 => ∃ c, x = .bl c ∧ if c = true then Q (.bl true) H1 else tb σ H1 Q
def tNotV (ta : TE) : TE := fun σ H Q => ta σ H fun x H1 => ∃ c, x = .bl c ∧ Q (.bl (!c)) H1
theorem pe_one {op} {t : TE} (h : PE X a t) : PE X (.BoolOp op [a] pos) t := fun pins s σ H Q I hw => BoolOp_one (h pins s σ H Q I hw)
theorem pe_and (ha : PE X a ta) (hb : PE X (.BoolOp .And (b :: rest) pos) tb) : PE X (.BoolOp .And (a :: b :: rest) pos) (tAndV ta tb) := by
  intro pins s σ H Q I h
  refine BoolOp_and (thn (ha pins s σ H _ I h) fun v s1 ⟨x, H1, I1, r1, q1⟩ => ?_)
  obtain ⟨c, rfl, q1⟩ := q1
  cases r1
  refine wpAny_truthy_bool ?_
  cases c with
  | true => exact hb pins s1 σ H1 Q I1 q1
  | false => exact ⟨.bl false, H1, I1, rfl, q1⟩
theorem pe_or (ha : PE X a ta) (hb : PE X (.BoolOp .Or (b :: rest) pos) tb) : PE X (.BoolOp .Or (a :: b :: rest) pos) (tOrV ta tb) := by
  intro pins s σ H Q I h
  refine BoolOp_or (thn (ha pins s σ H _ I h) fun v s1 ⟨x, H1, I1, r1, q1⟩ => ?_)
  obtain ⟨c, rfl, q1⟩ := q1
  cases r1
  refine wpAny_truthy_bool ?_
  cases c with
  | false => exact hb pins s1 σ H1 Q I1 q1
  | true => exact ⟨.bl true, H1, I1, rfl, q1⟩
theorem pe_not (ha : PE X a ta) : PE X (.UnaryOp .Not a pos) (tNotV ta) := by
  intro pins s σ H Q I h
  refine UnaryOp_ (thn (ha pins s σ H _ I h) fun v s1 ⟨x, H1, I1, r1, q1⟩ => ?_)
  obtain ⟨c, rfl, q1⟩ := q1
  cases r1
  exact not_of (wpAny_truthy_bool ⟨.bl (!c), H1, I1, rfl, q1⟩)
def tIf (t : TT) (ta tb : TE) : TE := fun σ H Q => t σ H fun c H1 => if c = true then ta σ H1 Q else tb σ H1 Q
theorem pe_ifExp {c : Expr} (hc : PT X c tA) (ha : PE X a ta) (hb : PE X b tb) : PE X (.IfExp c a b pos) (tIf tA ta tb) := by
  intro pins s σ H Q I h
  refine wpAny_IfExp (thn (hc pins s σ H _ I h) fun d s1 ⟨H1, I1, q1⟩ => ?_)
  cases d with
  | true => exact ha pins s1 σ H1 Q I1 q1
  | false => exact hb pins s1 σ H1 Q I1 q1
end
end L2
namespace L2
open PySem PySem.Spec PyProof.Rows
def SqL (K : PySem.W.Frag) (H : Hp) (a : Addr) (xs : List V) : Prop :=
  Rd H a (.lst xs) ∨
    ∃ (o : Obj) (its : Array Value) (n : Nat), K.lookup a = some o ∧ o.cls = .type "list" ∧ o.dict = none ∧ o.data = .seq its n ∧ its.size ≤ sizeLine ∧ Vals xs its.toList
def SqT (K : PySem.W.Frag) (H : Hp) (a : Addr) (xs : List V) : Prop :=
  Rd H a (.tup xs) ∨
    ∃ (o : Obj) (its : Array Value) (n : Nat), K.lookup a = some o ∧ o.cls = .type "tuple" ∧ o.data = .seq its n ∧ its.size ≤ sizeLine ∧ Vals xs its.toList
def absV : Value → Option V
  | .none => some .non
  | .bool b => some (.bl b)
  | .int i _ => some (.int i)
  | .str x _ => some (.str x)
  | .bytes b _ => some (.byt b)
  | .float b _ => some (.flt b)
  | .ref a => some (.ref a)
  | .type n => some (.ty n)
  | _ => none
theorem RelV.abs {x : V} {u : Value} (r : RelV x u) : absV u = some x := by
  cases x with
  | non => cases r; rfl
  | bl _ => cases r; rfl
  | int _ => obtain ⟨t, rfl⟩ := r; rfl
  | str _ => obtain ⟨t, rfl⟩ := r; rfl
  | byt _ => obtain ⟨t, rfl⟩ := r; rfl
  | flt _ => obtain ⟨t, rfl⟩ := r; rfl
  | ref _ => cases r; rfl
  | ty _ => cases r; rfl
theorem RelV.inj {x y : V} {u : Value} (r : RelV x u) (q : RelV y u) : x = y := Option.some.inj (r.abs.symm.trans q.abs)
theorem Vals.inj : ∀ {xs ys : List V} {us : List Value}, Vals xs us → Vals ys us → xs = ys
  | _, _, _, .nil, .nil => rfl
  | _, _, _, .cons r t, .cons r' t' => by rw [r.inj r', Vals.inj t t']
section
variable {X : Cx} {pins : List (Addr × Obj)} {σ : St} {H : Hp} {s : Shared} {a : Addr} {xs ys : List V}
theorem SqL.of {K : PySem.W.Frag} (h : H a = some (.lst xs)) : SqL K H a xs := .inl (.inl h)
theorem SqT.of {K : PySem.W.Frag} (h : H a = some (.tup xs)) : SqT K H a xs := .inl (.inl h)
theorem Inv.list (I : Inv X pins σ H s) (h : SqL X.K H a xs) : ∃ its : List Value, Vals xs its ∧ PlainL s.heap a its.toArray ∧ xs.length ≤ sizeLine := by
  rcases h with h | ⟨o, its, n, hk, hc, hd, hs, hz, r⟩
  · obtain ⟨z, its, n, r, e⟩ := h.ok I.hok
    exact ⟨its, r, ⟨_, n, e, rfl, rfl, rfl⟩, z⟩
  · refine ⟨its.toList, r, ⟨o, n, I.kIn a o hk, hc, hd, by simpa using hs⟩, ?_⟩
    have e := r.length
    simp only [Array.length_toList] at e
    omega
theorem Inv.tuple (I : Inv X pins σ H s) (h : SqT X.K H a xs) : ∃ its : List Value, Vals xs its ∧ IsTup s.heap a its.toArray ∧ xs.length ≤ sizeLine := by
  rcases h with h | ⟨o, its, n, hk, hc, hs, hz, r⟩
  · obtain ⟨z, its, r, p⟩ := h.ok I.hok
    exact ⟨its, r, p, z⟩
  · refine ⟨its.toList, r, ⟨o, I.kIn a o hk, hc, n, by simpa using hs⟩, ?_⟩
    have e := r.length
    simp only [Array.length_toList] at e
    omega
theorem Inv.list_inj (I : Inv X pins σ H s) (h : SqL X.K H a xs) (h' : SqL X.K H a ys) : xs = ys := by
  obtain ⟨its, r, ⟨o, n, e, _, _, d⟩, _⟩ := I.list h
  obtain ⟨its', r', ⟨o', n', e', _, _, d'⟩, _⟩ := I.list h'
  rw [e] at e'; cases e'
  rw [d] at d'
  injection d' with d1 _
  have : its = its' := by simpa using congrArg Array.toList d1
  subst this
  exact r.inj r'
end
abbrev Cx.wish (X : Cx) (E : Value → Shared → Prop) : Cx := { X with xe := E }
abbrev Cx.nox (X : Cx) : Cx := X.wish fun _ _ => False
theorem Cx.Ok.wish {X : Cx} (ok : X.Ok) (E : Value → Shared → Prop) : (X.wish E).Ok :=
  ⟨ok.mod, ok.kind, ok.glob, ok.blt, ok.above, ok.inj, ok.has, ok.cab, ok.hd, ok.frames, ok.stk, ok.exf, ok.bs, ok.bsz, ok.noex, ok.exfs, ok.funs, ok.frf⟩
theorem Cx.Ok.unwish {X : Cx} {E : Value → Shared → Prop} (ok : (X.wish E).Ok) : X.Ok :=
  ⟨ok.mod, ok.kind, ok.glob, ok.blt, ok.above, ok.inj, ok.has, ok.cab, ok.hd, ok.frames, ok.stk, ok.exf, ok.bs, ok.bsz, ok.noex, ok.exfs, ok.funs, ok.frf⟩
section
variable {X : Cx} {pins : List (Addr × Obj)} {σ : St} {H : Hp} {s : Shared} {E : Value → Shared → Prop}
theorem Inv.wish (I : Inv X pins σ H s) (E : Value → Shared → Prop) : Inv (X.wish E) pins σ H s := ⟨I.ok.wish E, I.os, I.bare, I.base, I.loc, I.cell, I.free, I.freeC, I.pin, I.hok, I.len⟩
theorem Inv.unwish (I : Inv (X.wish E) pins σ H s) : Inv X pins σ H s := ⟨I.ok.unwish, I.os, I.bare, I.base, I.loc, I.cell, I.free, I.freeC, I.pin, I.hok, I.len⟩
theorem SP.unwish {D : Ends} {f : Flow} {s' : Shared} (h : SP (X.wish E) pins D f s') : SP X pins D f s' := by
  cases f with
  | next => obtain ⟨σ', H', I, q⟩ := h; exact ⟨σ', H', I.unwish, q⟩
  | brk => obtain ⟨σ', H', I, q⟩ := h; exact ⟨σ', H', I.unwish, q⟩
  | cont => obtain ⟨σ', H', I, q⟩ := h; exact ⟨σ', H', I.unwish, q⟩
  | ret u => obtain ⟨v, σ', H', I, r, q⟩ := h; exact ⟨v, σ', H', I.unwish, r, q⟩
theorem PSs.nox {st : List Stmt} {t : TS} (h : PSs X.nox st t) : PSs X st t := fun pins s σ H D I hw =>
  wpAny_mono (h pins s σ H D (I.wish _) hw) (fun _ _ q => q.unwish) fun _ _ z => False.elim z
end
section
variable {X : Cx} {st : Stmt} {rest : List Stmt} {t u : TS} {e : Expr} {te : TE} {pos : Pos}
def tNext : TS := fun D σ H => D.nx σ H
def tSeq (t u : TS) : TS := fun D σ H => t { D with nx := u D } σ H
theorem pss_nil : PSs X [] tNext := fun _ _ σ H _ I h => wpAny_execs_nil ⟨σ, H, I, h⟩
theorem pss_cons (h1 : PS X st t) (h2 : PSs X rest u) : PSs X (st :: rest) (tSeq t u) := by
  intro pins s σ H D I h
  refine wpAny_execs_cons (thn (h1 pins s σ H { D with nx := u D } I h) fun f s1 q => ?_)
  cases f with
  | next =>
    obtain ⟨σ', H', I', q⟩ := q
    exact h2 pins s1 σ' H' D I' q
  | ret v => exact q
  | brk => exact q
  | cont => exact q
theorem pss_one (h1 : PS X st t) : PSs X [st] t := by
  intro pins s σ H D I h
  refine wpAny_execs_cons (thn (h1 pins s σ H D I h) fun f s1 q => ?_)
  cases f with
  | next => exact wpAny_execs_nil q
  | ret v => exact q
  | brk => exact q
  | cont => exact q
theorem Inv.quiet {pins : List (Addr × Obj)} {σ : St} {H : Hp} {s : Shared} (I : Inv X pins σ H s) : interactive X.env = false := by simp [interactive, I.ok.kind]
def tDrop (te : TE) : TS := fun D σ H => te σ H fun _ H1 => D.nx σ H1
theorem ps_expr (he : PE X e te) (hs : swapsWith e none pos.line X.env = pure false := by rfl) : PS X (.Expr e pos) (tDrop te) := by
  intro pins s σ H D I h
  exact wpAny_Expr_any (thn (he pins s σ H _ I h) fun v s1 ⟨x, H1, I1, r1, q1⟩ => ⟨σ, H1, I1, q1⟩) I.quiet hs
def tRet (te : TE) : TS := fun D σ H => te σ H D.rt
theorem ps_ret (he : PE X e te) : PS X (.Return (some e) pos) (tRet te) := by
  intro pins s σ H D I h
  exact wpAny_Return_some (thn (he pins s σ H _ I h) fun v s1 ⟨x, H1, I1, r1, q1⟩ => ⟨x, σ, H1, I1, r1, q1⟩)
def tRetN : TS := fun D _ H => D.rt .non H
theorem ps_retN : PS X (.Return none pos) tRetN := fun _ _ σ H _ I h => wpAny_Return_none ⟨.non, σ, H, I, rfl, h⟩
def tIfS (c : TT) (t u : TS) : TS := fun D σ H => c σ H fun b H1 => if b = true then t D σ H1 else u D σ H1
theorem ps_if {c : Expr} {a b : List Stmt} {tc : TT} (hc : PT X c tc) (ha : PSs X a t) (hb : PSs X b u) : PS X (.If c a b pos) (tIfS tc t u) := by
  intro pins s σ H D I h
  refine wpAny_If (thn (hc pins s σ H _ I h) fun d s1 ⟨H1, I1, q1⟩ => ?_)
  cases d with
  | true => exact ha pins s1 σ H1 D I1 q1
  | false => exact hb pins s1 σ H1 D I1 q1
end
abbrev TG := V → St → Hp → (St → Hp → Prop) → Prop
abbrev TGs := List V → St → Hp → (St → Hp → Prop) → Prop
def PG (X : Cx) (target : Expr) (t : TG) : Prop :=
  ∀ (pins : List (Addr × Obj)) (s : Shared) (σ : St) (H : Hp) (v : V) (u : Value) (Q : St → Hp → Prop), Inv X pins σ H s → RelV v u → t v σ H Q →
    wpAny (model X.prog X.w) X.A (assign target X.env u) (fun _ s' => ∃ σ' H', Inv X pins σ' H' s' ∧ Q σ' H') X.xe s
def PGs (X : Cx) (ts : List Expr) (t : TGs) : Prop :=
  ∀ (pins : List (Addr × Obj)) (s : Shared) (σ : St) (H : Hp) (vs : List V) (us : List Value) (Q : St → Hp → Prop), Inv X pins σ H s → Vals vs us → t vs σ H Q →
    wpAny (model X.prog X.w) X.A (assignInOrder ((assignEach ts X.env).map (·.2)) us) (fun _ s' => ∃ σ' H', Inv X pins σ' H' s' ∧ Q σ' H') X.xe s
abbrev TIp := V → V → Hp → VK → Prop
def PIp (X : Cx) (op : Operator) (t : TIp) : Prop :=
  ∀ (pins : List (Addr × Obj)) (s : Shared) (σ : St) (H : Hp) (x y : V) (v u : Value) (Q : VK), Inv X pins σ H s → RelV x v → RelV y u → t x y H Q →
    wpAny (model X.prog X.w) X.A (inplaceOp op v u) (EP X pins σ Q) X.xe s
section
variable {X : Cx} {pos : Pos}
def gName (i : Nat) : TG := fun v σ H Q => Q (σ.set i (some v)) H
theorem pg_name {i : Nat} {x : Str} (hN : X.N.Nodup) (hi : X.N[i]? = some x) (hx : Loc X.env.scope x) (hf : X.fn x = true ∨ X.env.scope.names.lookup x = some .local := by first | exact .inl rfl | exact .inr rfl | assumption) : PG X (.Name x pos) (gName i) := by
  intro pins s σ H v u Q I r h
  exact wpAny_assign_Name (store_ok I hN hi hx r (fun s' I' => ⟨_, H, I', h⟩) hf)
def gNil : TGs := fun vs σ H Q => vs = [] ∧ Q σ H
def gCons (t : TG) (u : TGs) : TGs := fun vs σ H Q => ∃ v r, vs = v :: r ∧ t v σ H fun σ' H' => u r σ' H' Q
theorem pgs_nil : PGs X [] gNil := by
  intro pins s σ H vs us Q I r h
  obtain ⟨e, h⟩ := h
  subst e
  cases r
  exact assignInOrder_nil ⟨σ, H, I, h⟩
theorem pgs_cons {e : Expr} {es : List Expr} {t : TG} {u : TGs} (h1 : PG X e t) (h2 : PGs X es u)
    (hs : (assignEach (e :: es) X.env).map (·.2) = assign e X.env :: (assignEach es X.env).map (·.2) := by rfl) : PGs X (e :: es) (gCons t u) := by
  intro pins s σ H vs us Q I r h
  obtain ⟨v, vr, e1, h⟩ := h
  subst e1
  cases r with
  | cons r rr =>
    rw [hs]
    refine assignInOrder_cons (thn (h1 pins s σ H _ _ _ I r h) fun _ s1 ⟨σ1, H1, I1, q1⟩ => ?_)
    exact h2 pins s1 σ1 H1 _ _ Q I1 rr q1
def gTup (K : PySem.W.Frag) (n : Nat) (t : TGs) : TG := fun v σ H Q => ∃ a xs, v = .ref a ∧ SqT K H a xs ∧ xs.length = n ∧ t xs σ H Q
theorem pg_tup {es : List Expr} {k : Nat} {t : TGs} {n : Nat} (hc : X.calm = true) (h : PGs X es t)
    (hn : (assignEach es X.env).length = n := by rfl) (hst : (assignEach es X.env).findIdx? (·.1) = none := by rfl) : PG X (.Tuple es k pos) (gTup X.K n t) := by
  intro pins s σ H v u Q I r hw
  obtain ⟨a, xs, e1, hq, hl, hw⟩ := hw
  subst e1
  cases r
  obtain ⟨its, rv, ht, hz⟩ := I.tuple hq
  refine assign_Tuple_tuple (I.ok.hd hc) ht (by simp [hn, ← hl, rv.length]) hst fun h' hx => ?_
  have I1 : Inv X pins σ H { s with heap := h' } := I.kept (t' := s.toks) fun b o e => hx b o (Nat.ne_of_lt (Heap.lt_size e)) e
  exact h pins _ σ H xs _ Q I1 (by simpa using rv) hw
def tAsg (te : TE) (g : TG) : TS := fun D σ H => te σ H fun x H1 => g x σ H1 D.nx
theorem ps_set {i : Nat} {x : Str} {e : Expr} {te : TE} {pos' : Pos} (hN : X.N.Nodup) (hi : X.N[i]? = some x) (hx : Loc X.env.scope x) (he : PE X e te) (hs : swapsWith e (some (.Name x pos')) pos.line X.env = pure false := by rfl) (hf : X.fn x = true ∨ X.env.scope.names.lookup x = some .local := by first | exact .inl rfl | exact .inr rfl | assumption) :
    PS X (.Assign [.Name x pos'] e pos) (tAsg te (gName i)) := by
  intro pins s σ H D I h
  refine wpAny_Assign_Name (thn (he pins s σ H _ I h) fun v s1 ⟨y, H1, I1, r1, q1⟩ => ?_) hs
  exact store_ok I1 hN hi hx r1 (fun s2 I2 => ⟨_, H1, I2, q1⟩) hf
def tAug (i : Nat) (te : TE) (ti : TIp) : TS := fun D σ H => ∃ x, σ[i]? = some (some x) ∧ te σ H fun y H1 => ti x y H1 fun z H2 => D.nx (σ.set i (some z)) H2
theorem ps_aug {i : Nat} {x : Str} {e : Expr} {te : TE} {op : Operator} {ti : TIp} {pos' : Pos} (hN : X.N.Nodup) (hi : X.N[i]? = some x) (hx : Loc X.env.scope x) (he : PE X e te) (ho : PIp X op ti) (hf : X.fn x = true ∨ X.env.scope.names.lookup x = some .local := by first | exact .inl rfl | exact .inr rfl | assumption) :
    PS X (.AugAssign (.Name x pos') op e pos) (tAug i te ti) := by
  intro pins s σ H D I h
  obtain ⟨v, e1, h⟩ := h
  obtain ⟨m, hn, hl⟩ := I.loc
  have vis : Vis X.env.scope x := by rcases hx with k | k; exact .inl k; exact .inr (.inl k)
  obtain ⟨u, r, l⟩ := hl i x v hi e1 vis
  refine wpAny_AugAssign_Name ?_
  have go : wpAny (model X.prog X.w) X.A (eval e X.env) (fun w s₂ => wpAny (model X.prog X.w) X.A (inplaceOp op u w) (fun r s₃ => wpAny (model X.prog X.w) X.A (storeName X.env x r) (fun _ => SP X pins D .next) X.xe s₃) X.xe s₂) X.xe s := by
    refine thn (he pins s σ H _ I h) fun w s1 ⟨y, H1, I1, r1, q1⟩ => ?_
    refine thn (ho pins s1 σ H1 v y u w _ I1 r r1 q1) fun z s2 ⟨zv, H2, I2, r2, q2⟩ => ?_
    exact store_ok I2 hN hi hx r2 (fun s3 I3 => ⟨_, H2, I3, q2⟩) hf
  rcases l with ⟨hk, hm⟩ | ⟨hk, c, hc, hcell⟩
  · exact wpAny_loadName_local I.ok.kind hk hn hm go
  · rcases hk with hk | hk
    · exact wpAny_loadName_cell I.ok.kind hk hc hcell go
    · rcases hx with k | k
      · have : X.env.scope.names.lookup x = some .free := hk
        rw [k] at this; cases this
      · have : X.env.scope.names.lookup x = some .free := hk
        rw [k] at this; cases this
def ipI (f : Int → Int → Int) : TIp := fun x y H Q => ∃ i j, x = .int i ∧ y = .int j ∧ Q (.int (f i j)) H
theorem ip_add : PIp X .Add (ipI fun i j => i + j) := by
  intro pins s σ H x y v u Q I r1 r2 h
  obtain ⟨i, j, e1, e2, q⟩ := h
  subst e1; subst e2
  obtain ⟨t, rfl⟩ := r1
  obtain ⟨t', rfl⟩ := r2
  exact iadd_int ⟨.int _, H, I.tok _, ⟨_, rfl⟩, q⟩
end
section
variable {X : Cx} {pos : Pos}
def tWhile (c : TT) (tb : TS) : TS := fun D σ H => ∃ W : Nat → St → Hp → Prop, (∃ m, W m σ H) ∧ ∀ m σ H, W m σ H →
  c σ H fun b H1 => if b = true then ∃ N : St → Hp → Prop, (∀ σ' H', N σ' H' → ∃ m', m' < m ∧ W m' σ' H') ∧ tb { D with nx := N, ct := N, bk := D.nx } σ H1 else D.nx σ H1
theorem ps_while {c : Expr} {body : List Stmt} {tc : TT} {tb : TS} (hp : PassesOwn (model X.prog X.w) X.A X.env X.xe) (hc : PT X c tc) (hb : PSs X body tb) : PS X (.While c body [] pos) (tWhile tc tb) := by
  intro pins s σ H D I h
  obtain ⟨W, ⟨m0, w0⟩, turn⟩ := h
  refine wpAny_While (codeAny_whileLoop (fun n s' => ∃ σ' H', Inv X pins σ' H' s' ∧ W n σ' H') ?_ m0 ⟨σ, H, I, w0⟩)
  rintro n s1 ⟨σ1, H1, I1, w1⟩
  refine wpAny_passesOwn hp (thn (hc pins s1 σ1 H1 _ I1 (turn n σ1 H1 w1)) fun b s2 ⟨H2, I2, q2⟩ => ?_)
  cases b with
  | true =>
    obtain ⟨N, hN, q2⟩ := q2
    rw [if_pos rfl]
    refine wpAny_passesOwn hp (thn (hb pins s2 σ1 H2 _ I2 q2) fun f s3 q3 => ?_)
    cases f with
    | next =>
      obtain ⟨σ3, H3, I3, n3⟩ := q3
      obtain ⟨m', hm, w3⟩ := hN σ3 H3 n3
      exact ⟨m', hm, σ3, H3, I3, w3⟩
    | cont =>
      obtain ⟨σ3, H3, I3, n3⟩ := q3
      obtain ⟨m', hm, w3⟩ := hN σ3 H3 n3
      exact ⟨m', hm, σ3, H3, I3, w3⟩
    | brk => exact q3
    | ret v => exact q3
  | false =>
    rw [if_neg Bool.false_ne_true]
    exact wpAny_execs_nil ⟨σ1, H2, I2, q2⟩
end
structure It where
  go : Nat → Hp → Prop
  yld : Nat → Hp → V → Hp → Prop
  stop : Nat → Hp → Prop
def FpOk (X : Cx) (pins : List (Addr × Obj)) (H : Hp) (b : Addr) : Prop :=
  H b = none ∧ b ≠ X.env.locals ∧ b ∉ X.fs ∧ (b ∈ X.ex ∨ X.s₀.heap.objs.size ≤ b) ∧ (∀ x c, X.env.cells.lookup x = some c → c ≠ b) ∧ ∀ p ∈ X.pn ++ pins, p.1 ≠ b
theorem Inv.fpOk {X : Cx} {pins : List (Addr × Obj)} {σ : St} {H H' : Hp} {s : Shared} {b : Addr} (I : Inv X pins σ H s) (hb : s.heap.objs.size ≤ b) (hn : H' b = none) : FpOk X pins H' b := by
  refine ⟨hn, Nat.ne_of_gt (Nat.lt_of_lt_of_le I.lt hb), I.nofs hb, .inr (Nat.le_trans I.sz hb), fun x c e z => ?_, fun p hp z => ?_⟩
  · obtain ⟨v, q⟩ := I.cell x c e
    exact absurd (Nat.lt_of_lt_of_le q.lt (by rw [z]; exact hb)) (Nat.lt_irrefl _)
  · exact absurd (Nat.lt_of_lt_of_le (Heap.lt_size (I.pin p hp).1) (by rw [z]; exact hb)) (Nat.lt_irrefl _)
structure Turn (P : Program) (w : World) (K : PySem.W.Frag) (tg : Expr) (J : It) (fp : List Addr) (it : Addr) (tn : Nat → Heap → Prop) : Prop where
  mem : it ∈ fp
  obj : ∀ i h, tn i h → ∀ b ∈ fp, ∃ o, h.get? b = some o ∧ ∀ v, o.data ≠ .cell v
  keep : ∀ i h h', tn i h → (∀ b ∈ fp, ∀ o, h.get? b = some o → h'.get? b = some o) → tn i h'
  item : ∀ (X : Cx), X.prog = P → X.w = w → X.K = K → X.calm = true → ∀ (i : Nat) (pins : List (Addr × Obj)) (s : Shared) (σ : St) (H : Hp) (E : Value → Shared → Prop), Inv X pins σ H s → (∀ b ∈ fp, FpOk X pins H b) → tn i s.heap → J.go i H →
    wpAny (model P w) X.A (pyNext (.ref it)) (fun r s1 => ∃ u, r = some u ∧
      wpAny (model P w) X.A (letOwnedTupleGo tg (.ref it) u) (fun _ s2 => ∃ x H', Inv X pins σ H' s2 ∧ RelV x u ∧ J.yld i H x H' ∧ tn (i + 1) s2.heap ∧ ∀ b ∈ fp, H' b = none) E s1) E s
  done : ∀ (X : Cx), X.prog = P → X.w = w → X.K = K → X.calm = true → ∀ (i : Nat) (pins : List (Addr × Obj)) (s : Shared) (σ : St) (H : Hp) (E : Value → Shared → Prop), Inv X pins σ H s → (∀ b ∈ fp, FpOk X pins H b) → tn i s.heap → J.stop i H →
    wpAny (model P w) X.A (pyNext (.ref it)) (fun r s1 => r = none ∧ Inv X pins σ H s1) E s
  self : ∀ (A : Around) (i : Nat) (s : Shared) (Q : Value → Shared → Prop) (E : Value → Shared → Prop), tn i s.heap → Q (.ref it) s → wpAny (model P w) A (pyIter (.ref it)) Q E s
abbrev TI := St → Hp → (It → Hp → Prop) → Prop
def PIE (X : Cx) (pins : List (Addr × Obj)) (σ : St) (tg : Expr) (R : It → Hp → Prop) (itv : Value) (s2 : Shared) : Prop :=
  ∃ (it : Addr) (fp : List Addr) (tn : Nat → Heap → Prop) (J : It) (H' : Hp), itv = .ref it ∧ Inv X pins σ H' s2 ∧ Turn X.prog X.w X.K tg J fp it tn ∧ tn 0 s2.heap ∧ (∀ b ∈ fp, FpOk X pins H' b) ∧ R J H'
def PI (X : Cx) (tg iter : Expr) (wi : TI) : Prop :=
  ∀ (pins : List (Addr × Obj)) (s : Shared) (σ : St) (H : Hp) (R : It → Hp → Prop), Inv X pins σ H s → wi σ H R →
    wpAny (model X.prog X.w) X.A (eval iter X.env) (fun v s1 => wpAny (model X.prog X.w) X.A (pyIter v) (PIE X pins σ tg R) X.xe s1) X.xe s
theorem go_of {M : Model} {A : Around} {E : Value → Shared → Prop} {s : Shared} {tg : Expr} {it : Addr} {u : Value} {o : Obj} {n : String} {vs : Array Value} {Q : Unit → Shared → Prop} (ho : s.heap.get? it = some o) (hc : o.cls = .type n) (hd : o.data = .fields vs)
    (hn : ["enumerate", "zip", "dict_itemiterator", "dict_reverseitemiterator", "odict_iterator", "itertools.zip_longest", "itertools.pairwise"].contains n = false) (hQ : Q () s) : wpAny M A (letOwnedTupleGo tg (.ref it) u) Q E s := by
  unfold letOwnedTupleGo
  cases tg <;> first
    | exact wpAny_pure hQ
    | (cases u <;> first
        | exact wpAny_pure hQ
        | (refine wpAny_bind (wpAny_load ho ?_)
           rw [hc, hd]
           show wpAny M A (if (["enumerate", "zip", "dict_itemiterator", "dict_reverseitemiterator", "odict_iterator", "itertools.zip_longest", "itertools.pairwise"].contains n && vs[0]? == some (rawInt _)) = true then _ else _) Q E s
           rw [if_neg (by intro h; rw [hn, Bool.false_and] at h; cases h)]
           exact wpAny_pure hQ))
def Itl (K : PySem.W.Frag) (a : Addr) : It :=
  ⟨fun i H => ∃ xs x, SqL K H a xs ∧ xs[i]? = some x, fun i H x H' => H' = H ∧ ∀ xs, SqL K H a xs → xs[i]? = some x, fun i H => ∃ xs, SqL K H a xs ∧ xs.length ≤ i⟩
def Itr (lo : Int) (n : Nat) : It := ⟨fun i _ => i < n, fun i H x H' => H' = H ∧ x = .int (lo + i), fun i _ => n ≤ i⟩
theorem turn_list {P : Program} {w : World} {K : PySem.W.Frag} {tg : Expr} (a it : Addr) : Turn P w K tg (Itl K a) [it] it (fun i h => h.IsListIter it a i) where
  mem := by simp
  obj := fun i h st b hb => by
    have e : b = it := by simpa using hb
    subst e
    obtain ⟨o, e, c, d⟩ := st
    exact ⟨o, e, fun v z => by rw [d] at z; cases z⟩
  keep := fun i h h' st k => st.at fun o e => k it (by simp) o e
  item := by
    intro X hP hw hK hc i pins s σ H E I hf st hg
    subst hP hw hK
    obtain ⟨xs, x, hq, hx⟩ := hg
    obtain ⟨its, rv, p, hz⟩ := I.list hq
    obtain ⟨u, hu, ru⟩ := rv.get hx
    obtain ⟨f0, f1, f2, f3, f4, f5⟩ := hf it (by simp)
    refine wpAny_pyNext_list_item st p.isList (x := u) (by simpa using hu) fun h' st' sb => ?_
    have I1 : Inv X pins σ H { s with heap := h' } := I.turned (t' := s.toks) (fun b o hb e => (sb.2 b hb).trans e) f0 f1 f3 f4 f5
    obtain ⟨o, e, c, d⟩ := id st'
    exact ⟨u, rfl, go_of (s := { s with heap := h' }) e c d (by decide) ⟨x, H, I1, ru, ⟨rfl, fun ys hy => by rw [I.list_inj hy hq]; exact hx⟩, st', fun b hb => (hf b hb).1⟩⟩
  done := by
    intro X hP hw hK hc i pins s σ H E I hf st hg
    subst hP hw hK
    obtain ⟨xs, hq, hx⟩ := hg
    obtain ⟨its, rv, p, hz⟩ := I.list hq
    obtain ⟨f0, f1, f2, f3, f4, f5⟩ := hf it (by simp)
    have hl := rv.length
    exact wpAny_pyNext_list_end (I.ok.hd hc) st p.isList (by simp; omega) fun h' eb => ⟨rfl, I.turned (t' := s.toks) (fun b o hb e => eb b o hb e) f0 f1 f3 f4 f5⟩
  self := fun _ _ _ _ _ st h => wpAny_pyIter_listiter st h
theorem turn_range {P : Program} {w : World} {K : PySem.W.Frag} {tg : Expr} (it : Addr) (lo : Int) (n : Nat) : Turn P w K tg (Itr lo n) [it] it (fun i h => IsRangeIter h it (lo + (i : Nat) * 1) ((n : Int) - (i : Nat)) 1) where
  mem := by simp
  obj := fun i h st b hb => by
    have e : b = it := by simpa using hb
    subst e
    exact ⟨_, st, fun v z => by
      have z' : Data.fields _ = Data.cell v := z
      cases z'⟩
  keep := fun i h h' st k => k it (by simp) _ st
  item := by
    intro X hP hw hK hc i pins s σ H E I hf st hg
    subst hP hw hK
    obtain ⟨f0, f1, f2, f3, f4, f5⟩ := hf it (by simp)
    have W := Walks.range (prog := X.prog) (w := X.w) (I.ok.hd hc) it lo 1 n
    refine W.item i s _ _ hg st fun v h' tk hv st' kk => ?_
    obtain ⟨t, rfl⟩ := hv
    have I1 : Inv X pins σ H { s with heap := h', toks := tk } := I.turned (fun b o hb e => kk b o (by simpa using hb) e) f0 f1 f3 f4 f5
    refine ⟨_, rfl, go_of (s := { s with heap := h', toks := tk }) (n := "range_iterator") st' rfl rfl (by decide) ⟨.int (lo + i), H, I1, ⟨t, ?_⟩, ⟨rfl, rfl⟩, st', fun b hb => (hf b hb).1⟩⟩
    rw [Int.mul_one]
  done := by
    intro X hP hw hK hc i pins s σ H E I hf st hg
    subst hP hw hK
    obtain ⟨f0, f1, f2, f3, f4, f5⟩ := hf it (by simp)
    exact wpAny_pyNext_range_end (I.ok.hd hc) st (by have : n ≤ i := hg; omega) fun h' eb => ⟨rfl, I.turned (t' := s.toks) (fun b o hb e => eb b o hb e) f0 f1 f3 f4 f5⟩
  self := fun _ _ _ _ _ st h => wpAny_pyIter_rangeiter st h
end L2
namespace L2
open PySem PySem.Spec PyProof.Rows
section
variable {X : Cx} {tg : Expr}
def iList (K : PySem.W.Frag) (tl : TE) : TI := fun σ H R => tl σ H fun x H1 => ∃ a, x = .ref a ∧ (∃ xs, SqL K H1 a xs) ∧ R (Itl K a) H1
theorem pi_list {l : Expr} {tl : TE} (hl : PE X l tl) : PI X tg l (iList X.K tl) := by
  intro pins s σ H R I h
  refine thn (hl pins s σ H _ I h) fun v s1 ⟨x, H1, I1, r1, q1⟩ => ?_
  obtain ⟨a, e, ⟨xs, hq⟩, q⟩ := q1
  subst e
  cases r1
  obtain ⟨its, rv, p, hz⟩ := I1.list hq
  refine wpAny_pyIter_list p.isList ?_
  refine ⟨s1.heap.objs.size, [s1.heap.objs.size], _, _, H1, rfl, I1.kept (t' := s1.toks) fun b o e => Heap.get?_push_of_some _ e, turn_list a _, ⟨_, Heap.get?_push_size _ rfl, rfl, rfl⟩, fun b hb => ?_, q⟩
  have e : b = s1.heap.objs.size := by simpa using hb
  subst e
  exact I1.fpOk (Nat.le_refl _) (I1.hok.fresh (Nat.le_refl _))
theorem range_it {pins : List (Addr × Obj)} {σ : St} {H : Hp} {s : Shared} {R : It → Hp → Prop} {E : Value → Shared → Prop} {lo hi : Int} {t u v : Tok} {tk : Nat} (I : Inv X pins σ H s) (h1 : -(2 ^ 62) ≤ lo) (h2 : lo < 2 ^ 62) (h3 : -(2 ^ 62) ≤ hi) (h4 : hi < 2 ^ 62)
    (q : R (Itr lo (hi - lo).toNat) H) : wpAny (model X.prog X.w) X.A (pyIter (.ref s.heap.objs.size)) (PIE X pins σ tg R) E { s with heap := s.heap.push { cls := .type "range", data := .fields #[.int lo t, .int hi u, .int 1 v] }, toks := tk } := by
  refine wpAny_pyIter_range (IsRange.new ..) (small_one h1 h2 h3 h4) ?_
  have I1 : Inv X pins σ H { s with heap := s.heap.push { cls := .type "range", data := .fields #[.int lo t, .int hi u, .int 1 v] }, toks := tk } := I.kept fun b o e => Heap.get?_push_of_some _ e
  refine ⟨(s.heap.push { cls := .type "range", data := .fields #[.int lo t, .int hi u, .int 1 v] }).objs.size, [(s.heap.push { cls := .type "range", data := .fields #[.int lo t, .int hi u, .int 1 v] }).objs.size], _, _, H, rfl,
    I1.kept (t' := tk) fun b o e => Heap.get?_push_of_some _ e, turn_range _ lo (hi - lo).toNat, ?_, fun b hb => ?_, q⟩
  · have e1 : lo + ((0 : Nat) : Int) * 1 = lo := by simp
    have e2 : (((hi - lo).toNat : Nat) : Int) - ((0 : Nat) : Int) = Builtin.Range.rangeSize lo hi 1 := by rw [rangeSize_one]; split <;> omega
    show IsRangeIter _ _ (lo + ((0 : Nat) : Int) * 1) ((((hi - lo).toNat : Nat) : Int) - ((0 : Nat) : Int)) 1
    rw [e1, e2]
    exact Heap.get?_push_size _ rfl
  · have e : b = (s.heap.push { cls := .type "range", data := .fields #[.int lo t, .int hi u, .int 1 v] }).objs.size := by simpa using hb
    subst e
    exact I1.fpOk (Nat.le_refl _) (I1.hok.fresh (Nat.le_refl _))
def iRng1 (ta : TA) : TI := fun σ H R => ta σ H fun vs H1 => ∃ j : Int, vs = [.int j] ∧ -(2 ^ 62) ≤ j ∧ j < 2 ^ 62 ∧ R (Itr 0 j.toNat) H1
def iRng2 (ta : TA) : TI := fun σ H R => ta σ H fun vs H1 => ∃ i j : Int, vs = [.int i, .int j] ∧ (-(2 ^ 62) ≤ i ∧ i < 2 ^ 62 ∧ -(2 ^ 62) ≤ j ∧ j < 2 ^ 62) ∧ R (Itr i (j - i).toNat) H1
theorem pi_range1 {a : Expr} {ta : TA} {p pos : Pos} (hg : Gl X "range") (hm : X.mg "range" = none) (ha : PA X [a] ta) (hs : starEach [a] X.env = [(false, eval a X.env)] := by rfl) : PI X tg (.Call (.Name "range" p) [a] [] pos) (iRng1 ta) := by
  intro pins s σ H R I h
  refine Call_ (ld_blt I hg hm boot_range (PyProof.Rows.callWith_type1 (thn (ha pos pins s σ H _ I h) fun us s1 ⟨vs, H1, I1, r1, q1⟩ => ?_) hs rfl))
  obtain ⟨j, e, q1, q2, q⟩ := q1
  subst e
  cases r1 with
  | cons r rr =>
    cases rr
    obtain ⟨t, rfl⟩ := r
    exact call_range_1 (range_it I1 (by omega) (by omega) q1 q2 (by simpa using q))
theorem pi_range2 {a b : Expr} {ta : TA} {p pos : Pos} (hg : Gl X "range") (hm : X.mg "range" = none) (ha : PA X [a, b] ta) (hs : starEach [a, b] X.env = [(false, eval a X.env), (false, eval b X.env)] := by rfl) (hs2 : starEach [b] X.env = [(false, eval b X.env)] := by rfl) :
    PI X tg (.Call (.Name "range" p) [a, b] [] pos) (iRng2 ta) := by
  intro pins s σ H R I h
  refine Call_ (ld_blt I hg hm boot_range (PyProof.Rows.callWith_type1 (thn (ha pos pins s σ H _ I h) fun us s1 ⟨vs, H1, I1, r1, q1⟩ => ?_) (by rw [hs, hs2]) (by rw [hs2]; rfl)))
  obtain ⟨i, j, e, ⟨q1, q2, q3, q4⟩, q⟩ := q1
  subst e
  cases r1 with
  | cons r rr =>
    cases rr with
    | cons r' rr =>
      cases rr
      obtain ⟨t, rfl⟩ := r
      obtain ⟨t', rfl⟩ := r'
      exact call_range_2 (range_it I1 q1 q2 q3 q4 q)
def tFor (wi : TI) (g : TG) (tb : TS) : TS := fun D σ H => wi σ H fun J H1 => ∃ W : Nat → Nat → St → Hp → Prop, (∃ m, W 0 m σ H1) ∧ ∀ i m σ H, W i m σ H →
  (J.stop i H ∧ D.nx σ H) ∨ (J.go i H ∧ ∃ N : St → Hp → Prop, (∀ σ' H', N σ' H' → ∃ m', m' < m ∧ W (i + 1) m' σ' H') ∧ ∀ x H', J.yld i H x H' → g x σ H' fun σ2 H2 => tb { D with nx := N, ct := N, bk := D.nx } σ2 H2)
def pinsAt (fp : List Addr) (h : Heap) : List (Addr × Obj) := fp.filterMap fun b => (h.get? b).map fun o => (b, o)
theorem mem_pinsAt {fp : List Addr} {h : Heap} {b : Addr} {o : Obj} (hb : b ∈ fp) (e : h.get? b = some o) : (b, o) ∈ pinsAt fp h := List.mem_filterMap.mpr ⟨b, hb, by rw [e]; rfl⟩
theorem of_pinsAt {fp : List Addr} {h : Heap} {p : Addr × Obj} (hp : p ∈ pinsAt fp h) : p.1 ∈ fp ∧ h.get? p.1 = some p.2 := by
  obtain ⟨b, hb, e⟩ := List.mem_filterMap.mp hp
  cases q : h.get? b with
  | none => rw [q] at e; cases e
  | some o =>
    rw [q] at e
    have e' : (b, o) = p := Option.some.inj e
    subst e'
    exact ⟨hb, q⟩
theorem Inv.pinned {pins : List (Addr × Obj)} {σ : St} {H : Hp} {s : Shared} {fp : List Addr} (I : Inv X pins σ H s) (hf : ∀ b ∈ fp, FpOk X pins H b) (ho : ∀ b ∈ fp, ∃ o, s.heap.get? b = some o ∧ ∀ v, o.data ≠ .cell v) : Inv X (pins ++ pinsAt fp s.heap) σ H s :=
  I.pins_of fun p hp => (List.mem_append.mp hp).elim (fun z => I.pin p (List.mem_append_right _ z)) fun z => by
    obtain ⟨hb, e⟩ := of_pinsAt z
    obtain ⟨f0, f1, f2, _⟩ := hf p.1 hb
    obtain ⟨o, e', d⟩ := ho p.1 hb
    rw [e] at e'; cases e'
    exact ⟨e, f0, f1, f2, d⟩
theorem Inv.unpinned {pins pl : List (Addr × Obj)} {σ : St} {H : Hp} {s : Shared} (I : Inv X (pins ++ pl) σ H s) : Inv X pins σ H s := I.pins_of fun p hp => I.pin p (List.mem_append_right _ (List.mem_append_left _ hp))
theorem ps_for {iter : Expr} {body : List Stmt} {wi : TI} {g : TG} {tb : TS} {pos : Pos} (hp : PassesOwn (model X.prog X.w) X.A X.env X.xe) (hc : X.calm = true) (hi : PI X tg iter wi) (hg : PG X tg g) (hb : PSs X body tb)
    (hs : ∀ x, foldedSetIterable iter X.env x = pure x := by intro _; rfl) : PS X (.For tg iter body [] pos) (tFor wi g tb) := by
  intro pins s σ H D I h
  refine wpAny_For (thn (hi pins s σ H _ I h) fun v s1 h1 => thn h1 fun itv s2 h2 => ?_) hs
  obtain ⟨it, fp, tn, J, H2, e, I2, T, st2, f2, W, ⟨m0, w0⟩, turn⟩ := h2
  subst e
  have stat : ∀ {H' : Hp}, (∀ b ∈ fp, H' b = none) → ∀ b ∈ fp, FpOk X pins H' b := fun hn b hb => ⟨hn b hb, (f2 b hb).2⟩
  refine codeAny_forLoop_any (fun n s' => ∃ i σ' H', Inv X pins σ' H' s' ∧ tn i s'.heap ∧ (∀ b ∈ fp, H' b = none) ∧ W i n σ' H') ?_ m0 ⟨0, σ, H2, I2, st2, fun b hb => (f2 b hb).1, w0⟩
  rintro n s3 ⟨i, σ3, H3, I3, st3, fr3, w3⟩
  rcases turn i n σ3 H3 w3 with ⟨stop, qn⟩ | ⟨go, N, hN, step⟩
  · refine wpAny_passesOwn hp (thn (T.done X rfl rfl rfl hc i pins s3 σ3 H3 X.xe I3 (stat fr3) st3 stop) fun r s4 ⟨hr, I4⟩ => ?_)
    subst hr
    exact wpAny_execs_nil ⟨σ3, H3, I4, qn⟩
  · refine wpAny_passesOwn hp (thn (T.item X rfl rfl rfl hc i pins s3 σ3 H3 X.xe I3 (stat fr3) st3 go) fun r s4 ⟨u, hr, h4⟩ => ?_)
    subst hr
    refine wpAny_passesOwn hp (thn h4 fun _ s5 ⟨x, H5, I5, r5, y5, st5, fr5⟩ => ?_)
    have I5' := I5.pinned (stat fr5) (T.obj _ _ st5)
    refine wpAny_passesOwn hp (thn (hg _ s5 σ3 H5 x u _ I5' r5 (step x H5 y5)) fun _ s6 ⟨σ6, H6, I6, q6⟩ => ?_)
    refine wpAny_passesOwn hp (thn (hb _ s6 σ6 H6 _ I6 q6) fun f s7 q7 => ?_)
    have again : ∀ {σ7 : St} {H7 : Hp}, Inv X (pins ++ pinsAt fp s5.heap) σ7 H7 s7 → N σ7 H7 → ∃ m, m < n ∧ ∃ i σ' H', Inv X pins σ' H' s7 ∧ tn i s7.heap ∧ (∀ b ∈ fp, H' b = none) ∧ W i m σ' H' := fun {σ7 H7} I7 n7 => by
      obtain ⟨m', hm, w7⟩ := hN σ7 H7 n7
      refine ⟨m', hm, i + 1, σ7, H7, I7.unpinned, T.keep _ _ _ st5 fun b hb o e => (I7.pin (b, o) (List.mem_append_right _ (List.mem_append_right _ (mem_pinsAt hb e)))).1, fun b hb => ?_, w7⟩
      obtain ⟨o, e, d⟩ := T.obj _ _ st5 b hb
      exact (I7.pin (b, o) (List.mem_append_right _ (List.mem_append_right _ (mem_pinsAt hb e)))).2.1
    cases f with
    | next => obtain ⟨σ7, H7, I7, n7⟩ := q7; exact again I7 n7
    | cont => obtain ⟨σ7, H7, I7, n7⟩ := q7; exact again I7 n7
    | brk => obtain ⟨σ7, H7, I7, q7⟩ := q7; exact ⟨σ7, H7, I7.unpinned, q7⟩
    | ret v => obtain ⟨x7, σ7, H7, I7, r7, q7⟩ := q7; exact ⟨x7, σ7, H7, I7.unpinned, r7, q7⟩
end
theorem for_list {K : PySem.W.Frag} {a : Addr} {xs : List V} {g : TG} {tb : TS} {D : Ends} {σ : St} {H : Hp} (Pv : Nat → St → Hp → Prop) (h0 : Pv 0 σ H) (hl : ∀ i σ H, i ≤ xs.length → Pv i σ H → SqL K H a xs)
    (hs : ∀ i x σ H, xs[i]? = some x → Pv i σ H → g x σ H fun σ2 H2 => tb { D with nx := Pv (i + 1), ct := Pv (i + 1), bk := D.nx } σ2 H2) (hd : ∀ σ H, Pv xs.length σ H → D.nx σ H) :
    ∃ W : Nat → Nat → St → Hp → Prop, (∃ m, W 0 m σ H) ∧ ∀ i m σ H, W i m σ H →
      ((Itl K a).stop i H ∧ D.nx σ H) ∨ ((Itl K a).go i H ∧ ∃ N : St → Hp → Prop, (∀ σ' H', N σ' H' → ∃ m', m' < m ∧ W (i + 1) m' σ' H') ∧ ∀ x H', (Itl K a).yld i H x H' → g x σ H' fun σ2 H2 => tb { D with nx := N, ct := N, bk := D.nx } σ2 H2) := by
  refine ⟨fun i m σ H => m = xs.length - i ∧ i ≤ xs.length ∧ Pv i σ H, ⟨xs.length, by simp, Nat.zero_le _, h0⟩, ?_⟩
  rintro i m σ H ⟨rfl, hi, p⟩
  have q := hl i σ H hi p
  by_cases hlt : i < xs.length
  · refine .inr ⟨⟨xs, xs[i], q, by simp [hlt]⟩, Pv (i + 1), fun σ' H' p' => ⟨xs.length - (i + 1), by omega, rfl, hlt, p'⟩, fun x H' y => ?_⟩
    obtain ⟨e, y⟩ := y
    subst e
    exact hs i x σ _ (y xs q) p
  · have e : i = xs.length := by omega
    subst e
    exact .inl ⟨⟨xs, q, Nat.le_refl _⟩, hd σ H p⟩
theorem for_range {lo : Int} {n : Nat} {g : TG} {tb : TS} {D : Ends} {σ : St} {H : Hp} (Pv : Nat → St → Hp → Prop) (h0 : Pv 0 σ H)
    (hs : ∀ i σ H, i < n → Pv i σ H → g (.int (lo + i)) σ H fun σ2 H2 => tb { D with nx := Pv (i + 1), ct := Pv (i + 1), bk := D.nx } σ2 H2) (hd : ∀ σ H, Pv n σ H → D.nx σ H) :
    ∃ W : Nat → Nat → St → Hp → Prop, (∃ m, W 0 m σ H) ∧ ∀ i m σ H, W i m σ H →
      ((Itr lo n).stop i H ∧ D.nx σ H) ∨ ((Itr lo n).go i H ∧ ∃ N : St → Hp → Prop, (∀ σ' H', N σ' H' → ∃ m', m' < m ∧ W (i + 1) m' σ' H') ∧ ∀ x H', (Itr lo n).yld i H x H' → g x σ H' fun σ2 H2 => tb { D with nx := N, ct := N, bk := D.nx } σ2 H2) := by
  refine ⟨fun i m σ H => m = n - i ∧ i ≤ n ∧ Pv i σ H, ⟨n, by simp, Nat.zero_le _, h0⟩, ?_⟩
  rintro i m σ H ⟨rfl, hi, p⟩
  by_cases hlt : i < n
  · refine .inr ⟨hlt, Pv (i + 1), fun σ' H' p' => ⟨n - (i + 1), by omega, rfl, hlt, p'⟩, fun x H' y => ?_⟩
    obtain ⟨e, y⟩ := y
    subst e y
    exact hs i σ _ hlt p
  · have e : i = n := by omega
    subst e
    exact .inl ⟨Nat.le_refl _, hd σ H p⟩
end L2
namespace L2
open PySem PySem.Spec PyProof.Rows
abbrev R2 := V → V → Hp → VK → Prop
def OpR (X : Cx) (f : Value → Value → Sem Value) (r : R2) : Prop :=
  ∀ (pins : List (Addr × Obj)) (s : Shared) (σ : St) (H : Hp) (x y : V) (v u : Value) (Q : VK), Inv X pins σ H s → RelV x v → RelV y u → r x y H Q →
    wpAny (model X.prog X.w) X.A (f v u) (EP X pins σ Q) X.xe s
def UnR (X : Cx) (f : Value → Sem Value) (r : V → Hp → VK → Prop) : Prop :=
  ∀ (pins : List (Addr × Obj)) (s : Shared) (σ : St) (H : Hp) (x : V) (v : Value) (Q : VK), Inv X pins σ H s → RelV x v → r x H Q →
    wpAny (model X.prog X.w) X.A (f v) (EP X pins σ Q) X.xe s
def CallR (X : Cx) (f : Value) (r : List V → Hp → VK → Prop) : Prop :=
  ∀ (pins : List (Addr × Obj)) (s : Shared) (σ : St) (H : Hp) (xs : List V) (us : List Value) (Q : VK), Inv X pins σ H s → Vals xs us → r xs H Q →
    wpAny (model X.prog X.w) X.A (call f us) (EP X pins σ Q) X.xe s
def TruR (X : Cx) (r : V → Hp → (Bool → Hp → Prop) → Prop) : Prop :=
  ∀ (pins : List (Addr × Obj)) (s : Shared) (σ : St) (H : Hp) (x : V) (v : Value) (Q : Bool → Hp → Prop), Inv X pins σ H s → RelV x v → r x H Q →
    wpAny (model X.prog X.w) X.A (truthy v) (TP X pins σ Q) X.xe s
def tOp (r : R2) (ta tb : TE) : TE := fun σ H Q => ta σ H fun x H1 => tb σ H1 fun y H2 => r x y H2 Q
def tUn (r : V → Hp → VK → Prop) (ta : TE) : TE := fun σ H Q => ta σ H fun x H1 => r x H1 Q
def rI (C : Int → Int → Prop) (g : Int → Int → V) : R2 := fun x y H Q => ∃ i j, x = .int i ∧ y = .int j ∧ C i j ∧ Q (g i j) H
def rI0 (g : Int → Int → V) : R2 := fun x y H Q => ∃ i j, x = .int i ∧ y = .int j ∧ Q (g i j) H
def rU (g : Int → V) : V → Hp → VK → Prop := fun x H Q => ∃ i, x = .int i ∧ Q (g i) H
section
variable {X : Cx} {a b c : Expr} {ta tb tc : TE} {pos : Pos}
theorem binT (ha : PE X a ta) (hb : PE X b tb) {pins : List (Addr × Obj)} {s : Shared} {σ : St} {H : Hp} {R : V → V → Hp → Prop} (I : Inv X pins σ H s)
    (h : ta σ H fun x H1 => tb σ H1 fun y H2 => R x y H2) {Q : Value → Shared → Prop} {f : Value → Value → Sem Value}
    (hf : ∀ v u s2 x y H2, Inv X pins σ H2 s2 → RelV x v → RelV y u → R x y H2 → wpAny (model X.prog X.w) X.A (f v u) Q X.xe s2) :
    wpAny (model X.prog X.w) X.A (eval a X.env) (fun v s₁ => wpAny (model X.prog X.w) X.A (eval b X.env) (fun u s₂ => wpAny (model X.prog X.w) X.A (f v u) Q X.xe s₂) X.xe s₁) X.xe s := by
  refine thn (ha pins s σ H _ I h) fun v s1 ⟨x, H1, I1, r1, q1⟩ => ?_
  refine thn (hb pins s1 σ H1 _ I1 q1) fun u s2 ⟨y, H2, I2, r2, q2⟩ => ?_
  exact hf v u s2 x y H2 I2 r1 r2 q2
theorem pe_op {op : Operator} {r : R2} (ho : OpR X (binaryOp op) r) (ha : PE X a ta) (hb : PE X b tb) : PE X (.BinOp a op b pos) (tOp r ta tb) := by
  intro pins s σ H Q I h
  exact wpAny_BinOp (binT ha hb I h fun v u s2 x y H2 I2 rx ry q => ho pins s2 σ H2 x y v u Q I2 rx ry q)
theorem pe_un {op : UnaryOp} {r : V → Hp → VK → Prop} (ho : UnR X (unaryOp op) r) (ha : PE X a ta) : PE X (.UnaryOp op a pos) (tUn r ta) := by
  intro pins s σ H Q I h
  exact UnaryOp_ (thn (ha pins s σ H _ I h) fun v s1 ⟨x, H1, I1, r1, q1⟩ => ho pins s1 σ H1 x v Q I1 r1 q1)
theorem opI {f : Value → Value → Sem Value} {C : Int → Int → Prop} {g : Int → Int → Int}
    (rule : ∀ (i j : Int) (t u : Tok) (s : Shared) (Q : Value → Shared → Prop) (E : Value → Shared → Prop), C i j → Q (.int (g i j) s.toks) { s with toks := s.toks + 1 } → wpAny (model X.prog X.w) X.A (f (.int i t) (.int j u)) Q E s) :
    OpR X f (rI C fun i j => .int (g i j)) := by
  intro pins s σ H x y v u Q I rx ry h
  obtain ⟨i, j, rfl, rfl, hc, q⟩ := h
  obtain ⟨t, rfl⟩ := rx
  obtain ⟨t', rfl⟩ := ry
  exact rule i j t t' s _ _ hc ⟨.int (g i j), H, I.tok _, ⟨_, rfl⟩, q⟩
theorem opI0 {f : Value → Value → Sem Value} {g : Int → Int → Int}
    (rule : ∀ (i j : Int) (t u : Tok) (s : Shared) (Q : Value → Shared → Prop) (E : Value → Shared → Prop), Q (.int (g i j) s.toks) { s with toks := s.toks + 1 } → wpAny (model X.prog X.w) X.A (f (.int i t) (.int j u)) Q E s) :
    OpR X f (rI0 fun i j => .int (g i j)) := by
  intro pins s σ H x y v u Q I rx ry h
  obtain ⟨i, j, rfl, rfl, q⟩ := h
  obtain ⟨t, rfl⟩ := rx
  obtain ⟨t', rfl⟩ := ry
  exact rule i j t t' s _ _ ⟨.int (g i j), H, I.tok _, ⟨_, rfl⟩, q⟩
theorem opB0 {f : Value → Value → Sem Value} {g : Int → Int → Bool}
    (rule : ∀ (i j : Int) (t u : Tok) (s : Shared) (Q : Value → Shared → Prop) (E : Value → Shared → Prop), Q (.bool (g i j)) s → wpAny (model X.prog X.w) X.A (f (.int i t) (.int j u)) Q E s) :
    OpR X f (rI0 fun i j => .bl (g i j)) := by
  intro pins s σ H x y v u Q I rx ry h
  obtain ⟨i, j, rfl, rfl, q⟩ := h
  obtain ⟨t, rfl⟩ := rx
  obtain ⟨t', rfl⟩ := ry
  exact rule i j t t' s _ _ ⟨.bl (g i j), H, I, rfl, q⟩
def CDiv (i j : Int) : Prop := 0 < j ∧ j < 1073741824
def CMul (i j : Int) : Prop := (-(2 ^ 64) < i ∧ i < 2 ^ 64) ∨ (-(2 ^ 64) < j ∧ j < 2 ^ 64)
theorem CMul.ok {i j : Int} (h : CMul i j) : IntMulOk i j := by
  rcases h with ⟨h1, h2⟩ | ⟨h1, h2⟩
  · exact .of_left (intBits_le_64 h1 h2)
  · exact .of_right (intBits_le_64 h1 h2)
theorem op_add : OpR X (binaryOp .Add) (rI0 fun i j => .int (i + j)) := opI0 fun _ _ _ _ _ _ _ q => add_int q
theorem op_sub : OpR X (binaryOp .Sub) (rI0 fun i j => .int (i - j)) := opI0 fun _ _ _ _ _ _ _ q => sub_int q
theorem op_mul : OpR X (binaryOp .Mult) (rI CMul fun i j => .int (i * j)) := opI fun _ _ _ _ _ _ _ hc q => mul_int q hc.ok
theorem op_fdiv : OpR X (binaryOp .FloorDiv) (rI CDiv fun i j => .int (i / j)) := opI fun i j _ _ _ _ _ hc q => by
  have h1 : (0 : Int) < j := hc.1
  have h2 : j < 1073741824 := hc.2
  exact floordiv_int (by omega) (by rw [Int.fdiv_eq_ediv_of_nonneg i (by omega)]; exact q) (.inl (PyProof.noPylong_small (by omega)))
theorem op_mod : OpR X (binaryOp .Mod) (rI (fun _ j => 0 < j) fun i j => .int (i % j)) := opI fun i j _ _ _ _ _ hc q => by
  have h1 : (0 : Int) < j := hc
  exact mod_int' (by omega) (by rw [Int.fmod_eq_emod_of_nonneg i (by omega)]; exact q)
theorem unI {f : Value → Sem Value} {g : Int → Int}
    (rule : ∀ (i : Int) (t : Tok) (s : Shared) (Q : Value → Shared → Prop) (E : Value → Shared → Prop), Q (.int (g i) s.toks) { s with toks := s.toks + 1 } → wpAny (model X.prog X.w) X.A (f (.int i t)) Q E s) :
    UnR X f (rU fun i => .int (g i)) := by
  intro pins s σ H x v Q I rx h
  obtain ⟨i, rfl, q⟩ := h
  obtain ⟨t, rfl⟩ := rx
  exact rule i t s _ _ ⟨.int (g i), H, I.tok _, ⟨_, rfl⟩, q⟩
theorem un_neg : UnR X (unaryOp .USub) (rU fun i => .int (-i)) := unI fun _ _ _ _ _ q => neg_int q
end
def scal : V → V → Bool
  | .non, .non => true | .non, .int _ => true | .int _, .non => true | .non, .bl _ => true | .bl _, .non => true | .non, .str _ => true | .str _, .non => true
  | .int _, .int _ => true | .bl _, .bl _ => true | .str _, .str _ => true | .byt _, .byt _ => true
  | .int _, .str _ => true | .str _, .int _ => true | .bl _, .str _ => true | .str _, .bl _ => true
  | _, _ => false
def rEq : R2 := fun x y H Q => scal x y = true ∧ Q (.bl (decide (x = y))) H
def rNe : R2 := fun x y H Q => scal x y = true ∧ Q (.bl (!decide (x = y))) H
theorem dec_int {i j : Int} : decide (V.int i = V.int j) = (i == j) := by
  rw [Bool.eq_iff_iff]
  simp
theorem dec_bl {i j : Bool} : decide (V.bl i = V.bl j) = (i == j) := by
  rw [Bool.eq_iff_iff]
  simp
theorem dec_str {i j : Str} : decide (V.str i = V.str j) = (i == j) := by
  rw [Bool.eq_iff_iff]
  simp
theorem dec_byt {i j : Array UInt8} : decide (V.byt i = V.byt j) = (i.toList == j.toList) := by
  rw [Bool.eq_iff_iff]
  cases i
  cases j
  simp
section
variable {X : Cx} {a b c : Expr} {ta tb tc : TE} {pos : Pos}
theorem fin_bl {pins : List (Addr × Obj)} {σ : St} {H : Hp} {s : Shared} {Q : VK} {k k' : Bool} (I : Inv X pins σ H s) (q : Q (.bl k) H) (e : k = k') : EP X pins σ Q (.bool k') s := by
  subst e
  exact ⟨.bl k, H, I, rfl, q⟩
theorem op_eq : OpR X (compareOp .Eq) rEq := by
  intro pins s σ H x y v u Q I rx ry h
  obtain ⟨hs, q⟩ := h
  cases x with
  | non =>
    cases rx
    cases y with
    | non => cases ry; exact PySem.EqNone.eq_none_none (fin_bl I q (by simp))
    | bl j => cases ry; exact PySem.EqNone.eq_none_bool (fin_bl I q (by simp))
    | int j => obtain ⟨t', rfl⟩ := ry; exact PySem.EqNone.eq_none_int (fin_bl I q (by simp))
    | str j => obtain ⟨t', rfl⟩ := ry; exact PySem.EqNone.eq_none_str (fin_bl I q (by simp))
    | _ => exact absurd (show false = true from hs) Bool.false_ne_true
  | bl i =>
    cases rx
    cases y with
    | non => cases ry; exact PySem.EqNone.eq_bool_none (fin_bl I q (by simp))
    | bl j => cases ry; exact eq_bool (fin_bl I q dec_bl)
    | str j => obtain ⟨t', rfl⟩ := ry; exact PySem.EqMixed.eq_bool_str (fin_bl I q (by simp))
    | _ => exact absurd (show false = true from hs) Bool.false_ne_true
  | int i =>
    obtain ⟨t, rfl⟩ := rx
    cases y with
    | non => cases ry; exact PySem.EqNone.eq_int_none (fin_bl I q (by simp))
    | int j => obtain ⟨t', rfl⟩ := ry; exact eq_int (fin_bl I q dec_int)
    | str j => obtain ⟨t', rfl⟩ := ry; exact PySem.EqMixed.eq_int_str (fin_bl I q (by simp))
    | _ => exact absurd (show false = true from hs) Bool.false_ne_true
  | str i =>
    obtain ⟨t, rfl⟩ := rx
    cases y with
    | non => cases ry; exact PySem.EqNone.eq_str_none (fin_bl I q (by simp))
    | bl j => cases ry; exact PySem.EqMixed.eq_str_bool (fin_bl I q (by simp))
    | int j => obtain ⟨t', rfl⟩ := ry; exact PySem.EqMixed.eq_str_int (fin_bl I q (by simp))
    | str j => obtain ⟨t', rfl⟩ := ry; exact eq_str (fin_bl I q dec_str)
    | _ => exact absurd (show false = true from hs) Bool.false_ne_true
  | byt i =>
    obtain ⟨t, rfl⟩ := rx
    cases y with
    | byt j => obtain ⟨t', rfl⟩ := ry; exact PySem.W.eq_bytes (fin_bl I q dec_byt)
    | _ => exact absurd (show false = true from hs) Bool.false_ne_true
  | _ => cases y <;> exact absurd (show false = true from hs) Bool.false_ne_true
theorem op_ne : OpR X (compareOp .NotEq) rNe := by
  intro pins s σ H x y v u Q I rx ry h
  obtain ⟨hs, q⟩ := h
  cases x with
  | non =>
    cases rx
    cases y with
    | non => cases ry; exact PySem.EqNone.ne_none_none (fin_bl I q (by simp))
    | bl j => cases ry; exact PySem.EqNone.ne_none_bool (fin_bl I q (by simp))
    | int j => obtain ⟨t', rfl⟩ := ry; exact PySem.EqNone.ne_none_int (fin_bl I q (by simp))
    | str j => obtain ⟨t', rfl⟩ := ry; exact PySem.EqNone.ne_none_str (fin_bl I q (by simp))
    | _ => exact absurd (show false = true from hs) Bool.false_ne_true
  | bl i =>
    cases rx
    cases y with
    | non => cases ry; exact PySem.EqNone.ne_bool_none (fin_bl I q (by simp))
    | bl j => cases ry; exact ne_bool (fin_bl I q (congrArg not dec_bl))
    | str j => obtain ⟨t', rfl⟩ := ry; exact PySem.EqMixed.ne_bool_str (fin_bl I q (by simp))
    | _ => exact absurd (show false = true from hs) Bool.false_ne_true
  | int i =>
    obtain ⟨t, rfl⟩ := rx
    cases y with
    | non => cases ry; exact PySem.EqNone.ne_int_none (fin_bl I q (by simp))
    | int j => obtain ⟨t', rfl⟩ := ry; exact ne_int (fin_bl I q (congrArg not dec_int))
    | str j => obtain ⟨t', rfl⟩ := ry; exact PySem.EqMixed.ne_int_str (fin_bl I q (by simp))
    | _ => exact absurd (show false = true from hs) Bool.false_ne_true
  | str i =>
    obtain ⟨t, rfl⟩ := rx
    cases y with
    | non => cases ry; exact PySem.EqNone.ne_str_none (fin_bl I q (by simp))
    | bl j => cases ry; exact PySem.EqMixed.ne_str_bool (fin_bl I q (by simp))
    | int j => obtain ⟨t', rfl⟩ := ry; exact PySem.EqMixed.ne_str_int (fin_bl I q (by simp))
    | str j => obtain ⟨t', rfl⟩ := ry; exact ne_str (fin_bl I q (congrArg not dec_str))
    | _ => exact absurd (show false = true from hs) Bool.false_ne_true
  | byt i =>
    obtain ⟨t, rfl⟩ := rx
    cases y with
    | byt j => obtain ⟨t', rfl⟩ := ry; exact PySem.W.ne_bytes (fin_bl I q (congrArg not dec_byt))
    | _ => exact absurd (show false = true from hs) Bool.false_ne_true
  | _ => cases y <;> exact absurd (show false = true from hs) Bool.false_ne_true
theorem op_lt : OpR X (compareOp .Lt) (rI0 fun i j => .bl (decide (i < j))) := opB0 fun _ _ _ _ _ _ _ q => lt_int q
theorem op_le : OpR X (compareOp .LtE) (rI0 fun i j => .bl (decide (i ≤ j))) := opB0 fun _ _ _ _ _ _ _ q => le_int q
theorem op_gt : OpR X (compareOp .Gt) (rI0 fun i j => .bl (decide (j < i))) := opB0 fun _ _ _ _ _ _ _ q => gt_int q
theorem op_isN : OpR X (compareOp .Is) (fun x y H Q => y = .non ∧ Q (.bl (decide (x = .non))) H) := by
  intro pins s σ H x y v u Q I rx ry h
  obtain ⟨rfl, q⟩ := h
  cases ry
  refine is_none_gen (fin_bl I q ?_)
  cases x <;> first
    | (cases rx; rfl)
    | (obtain ⟨t, rfl⟩ := rx; rfl)
theorem op_notN : OpR X (compareOp .IsNot) (fun x y H Q => y = .non ∧ Q (.bl (!decide (x = .non))) H) := by
  intro pins s σ H x y v u Q I rx ry h
  obtain ⟨rfl, q⟩ := h
  cases ry
  refine isnot_none_gen (fin_bl I q ?_)
  cases x <;> first
    | (cases rx; rfl)
    | (obtain ⟨t, rfl⟩ := rx; rfl)
theorem nomark (b : Expr) {op : CmpOp} (h : op ≠ .In := by decide) (h2 : op ≠ .NotIn := by decide) : behindInMarks op b = false := by
  have e1 : (op == CmpOp.In) = false := by cases op <;> first | rfl | exact absurd rfl h
  have e2 : (op == CmpOp.NotIn) = false := by cases op <;> first | rfl | exact absurd rfl h2
  cases b <;> simp [behindInMarks, e1, e2]
theorem pe_cmpR {op : CmpOp} {r : R2} (ho : OpR X (compareOp op) r) (ha : PE X a ta) (hb : PE X b tb) (hm : behindInMarks op b = false) : PE X (.Compare a [op] [b] pos) (tOp r ta tb) := by
  intro pins s σ H Q I h
  exact wpAny_Compare1 (binT ha hb I h fun v u s2 x y H2 I2 rx ry q => ho pins s2 σ H2 x y v u Q I2 rx ry q) hm
def tTest (t : TE) : TT := fun σ H Q => t σ H fun x H' => ∃ k, x = .bl k ∧ Q k H'
theorem pt_cmpR {op : CmpOp} {r : R2} (ho : OpR X (compareOp op) r) (ha : PE X a ta) (hb : PE X b tb) (hm : behindInMarks op b = false) : PT X (.Compare a [op] [b] pos) (tTest (tOp r ta tb)) := by
  intro pins s σ H Q I h
  refine wpAny_isTrue_Compare1 (thn (ha pins s σ H _ I h) fun v s1 ⟨x, H1, I1, r1, q1⟩ => thn (hb pins s1 σ H1 _ I1 q1) fun u s2 ⟨y, H2, I2, r2, q2⟩ =>
    thn (ho pins s2 σ H2 x y v u _ I2 r1 r2 q2) fun c s3 ⟨z, H3, I3, r3, k, e, q3⟩ => ?_) hm
  subst e
  cases r3
  exact wpAny_truthy_bool ⟨H3, I3, q3⟩
def tChain (r r' : R2) (ta tb tc : TE) : TE := fun σ H Q => ta σ H fun x H1 => tb σ H1 fun y H2 => r x y H2 fun z H3 => ∃ k, z = .bl k ∧
  (if k = true then tc σ H3 fun w' H4 => r' y w' H4 Q else Q (.bl false) H3)
theorem pe_chain {op op' : CmpOp} {r r' : R2} (ho : OpR X (compareOp op) r) (ho' : OpR X (compareOp op') r') (ha : PE X a ta) (hb : PE X b tb) (hc : PE X c tc)
    (hm : lastMarks [op, op'] [b, c] = false := by with_unfolding_all rfl) : PE X (.Compare a [op, op'] [b, c] pos) (tChain r r' ta tb tc) := by
  intro pins s σ H Q I h
  refine Compare_chain (thn (ha pins s σ H _ I h) fun v s1 ⟨x, H1, I1, r1, q1⟩ => chain_link (thn (hb pins s1 σ H1 _ I1 q1) fun u s2 ⟨y, H2, I2, r2, q2⟩ =>
    thn (ho pins s2 σ H2 x y v u _ I2 r1 r2 q2) fun d s3 ⟨z, H3, I3, r3, k, e, q3⟩ => ?_)) hm
  subst e
  cases r3
  refine wpAny_truthy_bool ?_
  cases k with
  | false => exact ite_ff ⟨.bl false, H3, I3, rfl, q3⟩
  | true => exact ite_tt (chain_last (thn (hc pins s3 σ H3 _ I3 q3) fun w' s4 ⟨z', H4, I4, r4, q4⟩ => ho' pins s4 σ H4 y z' u w' Q I4 r2 r4 q4))
theorem pt_chain {op op' : CmpOp} {r r' : R2} (ho : OpR X (compareOp op) r) (ho' : OpR X (compareOp op') r') (ha : PE X a ta) (hb : PE X b tb) (hc : PE X c tc)
    (hm : lastMarks [op, op'] [b, c] = false := by with_unfolding_all rfl) : PT X (.Compare a [op, op'] [b, c] pos) (tTest (tChain r r' ta tb tc)) := by
  intro pins s σ H Q I h
  refine isTrue_chain (thn (ha pins s σ H _ I h) fun v s1 ⟨x, H1, I1, r1, q1⟩ => test_link (thn (hb pins s1 σ H1 _ I1 q1) fun u s2 ⟨y, H2, I2, r2, q2⟩ =>
    thn (ho pins s2 σ H2 x y v u _ I2 r1 r2 q2) fun d s3 ⟨z, H3, I3, r3, k, e, q3⟩ => ?_)) hm
  subst e
  cases r3
  refine wpAny_truthy_bool ?_
  cases k with
  | false =>
    obtain ⟨k', e', q'⟩ := q3
    cases e'
    exact ite_ff ⟨H3, I3, q'⟩
  | true =>
    refine ite_tt (test_last (thn (hc pins s3 σ H3 _ I3 q3) fun w' s4 ⟨z', H4, I4, r4, q4⟩ => thn (ho' pins s4 σ H4 y z' u w' _ I4 r2 r4 q4) fun d' s5 ⟨z2, H5, I5, r5, k2, e2, q5⟩ => ?_))
    subst e2
    cases r5
    exact wpAny_truthy_bool ⟨H5, I5, q5⟩
def TruV (K : PySem.W.Frag) (x : V) (H : Hp) (k : Bool) : Prop :=
  match x with
  | .non => k = false
  | .bl b => k = b
  | .int i => k = (i != 0)
  | .str y => y.length ≤ sizeLine ∧ k = ((y.length : Int) != 0)
  | .byt y => y.size ≤ sizeLine ∧ k = ((y.size : Int) != 0)
  | .ref p => (∃ xs, SqL K H p xs ∧ k = !xs.isEmpty) ∨ (∃ xs, SqT K H p xs ∧ k = !xs.isEmpty) ∨ ∃ kvs, H p = some (.dK kvs) ∧ k = !kvs.isEmpty
  | _ => False
theorem isEmpty_kv {κ : Type} {kvs : List (κ × V)} {vs : List (κ × Value)} (r : KV kvs vs) : (!vs.isEmpty) = !kvs.isEmpty := by
  cases r <;> rfl
theorem isEmpty_of {xs : List V} {its : List Value} (r : Vals xs its) : (!its.toArray.isEmpty) = !xs.isEmpty := by
  cases r <;> simp
theorem line63 : (sizeLine : Nat) < 2 ^ 63 := by rw [sizeLine_eq]; decide
theorem tru_ok : TruR X (fun x H Q => ∃ k, TruV X.K x H k ∧ Q k H) := by
  intro pins s σ H x v Q I rx h
  obtain ⟨k, e, q⟩ := h
  have hl := line63
  have hs : sizeLine = 16777216 := sizeLine_eq
  cases x with
  | non =>
    cases rx
    have e' : k = false := e
    subst e'
    exact truthy_none ⟨H, I, q⟩
  | bl b =>
    cases rx
    have e' : k = b := e
    subst e'
    exact wpAny_truthy_bool ⟨H, I, q⟩
  | int i =>
    obtain ⟨t, rfl⟩ := rx
    have e' : k = (i != 0) := e
    subst e'
    exact PySem.P.truthy_int ⟨H, I, q⟩
  | str y =>
    obtain ⟨t, rfl⟩ := rx
    obtain ⟨hy, e'⟩ : y.length ≤ sizeLine ∧ k = ((y.length : Int) != 0) := e
    subst e'
    exact PySem.P.truthy_str (by omega) ⟨H, I.tok _, q⟩
  | byt y =>
    obtain ⟨t, rfl⟩ := rx
    obtain ⟨hy, e'⟩ : y.size ≤ sizeLine ∧ k = ((y.size : Int) != 0) := e
    subst e'
    exact PySem.W.truthy_bytes (by omega) ⟨H, I.tok _, q⟩
  | ref p =>
    cases rx
    have e' : (∃ xs, SqL X.K H p xs ∧ k = !xs.isEmpty) ∨ (∃ xs, SqT X.K H p xs ∧ k = !xs.isEmpty) ∨ ∃ kvs, H p = some (.dK kvs) ∧ k = !kvs.isEmpty := e
    rcases e' with ⟨xs, hx, e'⟩ | ⟨xs, hx, e'⟩ | ⟨kvs, hx, e'⟩
    · subst e'
      obtain ⟨its, r, pl, hz⟩ := I.list hx
      have hlen := r.length
      exact wpAny_truthy_list pl.isList (by simp only [List.size_toArray]; omega) ⟨H, I.tok _, by rw [isEmpty_of r]; exact q⟩
    · subst e'
      obtain ⟨its, r, pl, hz⟩ := I.tuple hx
      have hlen := r.length
      exact truthy_tuple pl (by simp only [List.size_toArray]; omega) ⟨H, I.tok _, by rw [isEmpty_of r]; exact q⟩
    · subst e'
      obtain ⟨hz, hS, vs, r, m⟩ : kvs.length ≤ sizeLine ∧ (p == sysModules) = false ∧ ∃ vs, KV kvs vs ∧ s.heap.DictOf (mixKind X.prog X.w) p vs := I.hok p _ hx
      have hlen : kvs.length = vs.length := Paired.length r
      exact wpAny_truthy_dict hS m (by omega) ⟨H, I.tok _, by rw [isEmpty_kv r]; exact q⟩
  | _ => exact (show False from e).elim
theorem pt_truth (ha : PE X a ta) (he : ∀ whole, isTrue a X.env whole = (do let v ← whole; standAt a.pos; holding [v] (truthy v))) :
    PT X a (fun σ H Q => ta σ H fun x H' => ∃ k, TruV X.K x H' k ∧ Q k H') := by
  intro pins s σ H Q I h
  exact isTrue_plain (thn (ha pins s σ H _ I h) fun v s1 ⟨x, H1, I1, r1, q1⟩ => tru_ok pins s1 σ H1 x v Q I1 r1 q1) (he _)
theorem op_add_str : OpR X (binaryOp .Add) (fun x y H Q => ∃ i j, x = .str i ∧ y = .str j ∧ i.length + j.length ≤ sizeLine ∧ Q (.str (i ++ j)) H) := by
  intro pins s σ H x y v u Q I rx ry h
  obtain ⟨i, j, rfl, rfl, hz, q⟩ := h
  obtain ⟨t, rfl⟩ := rx
  obtain ⟨t', rfl⟩ := ry
  exact add_str (fun t' tk => ⟨.str (i ++ j), H, I.tok _, ⟨_, rfl⟩, q⟩) hz
theorem vals1 {x : V} {us : List Value} (r : Vals [x] us) : ∃ u, us = [u] ∧ RelV x u := by
  cases r with
  | cons r1 r2 => cases r2; exact ⟨_, rfl, r1⟩
theorem vals2 {x y : V} {us : List Value} (r : Vals [x, y] us) : ∃ u w', us = [u, w'] ∧ RelV x u ∧ RelV y w' := by
  cases r with
  | cons r1 r2 =>
    cases r2 with
    | cons r3 r4 => cases r4; exact ⟨_, _, rfl, r1, r3⟩
theorem call_max2 (hc : X.calm = true) : CallR X (.builtin "max") (fun xs H Q => ∃ i j, xs = [.int i, .int j] ∧ Q (.int (if j > i then j else i)) H) := by
  intro pins s σ H xs us Q I r h
  obtain ⟨i, j, rfl, q⟩ := h
  obtain ⟨u, w', rfl, ⟨t, rfl⟩, ⟨t', rfl⟩⟩ := vals2 r
  refine max_two_ints (I.ok.hd hc) fun h' tk k => ⟨_, H, I.kept k, ?_, q⟩
  by_cases hj : j > i
  · rw [if_pos hj, if_pos hj]; exact ⟨_, rfl⟩
  · rw [if_neg hj, if_neg hj]; exact ⟨_, rfl⟩
theorem call_min2 (hc : X.calm = true) : CallR X (.builtin "min") (fun xs H Q => ∃ i j, xs = [.int i, .int j] ∧ Q (.int (if j < i then j else i)) H) := by
  intro pins s σ H xs us Q I r h
  obtain ⟨i, j, rfl, q⟩ := h
  obtain ⟨u, w', rfl, ⟨t, rfl⟩, ⟨t', rfl⟩⟩ := vals2 r
  refine min_two_ints (I.ok.hd hc) fun h' tk k => ⟨_, H, I.kept k, ?_, q⟩
  by_cases hj : j < i
  · rw [if_pos hj, if_pos hj]; exact ⟨_, rfl⟩
  · rw [if_neg hj, if_neg hj]; exact ⟨_, rfl⟩
theorem call_str_int : CallR X (.type "str") (fun xs H Q => ∃ i, xs = [.int i] ∧ i.natAbs.log2 < 1920 ∧ Q (.str (toString i)) H) := by
  intro pins s σ H xs us Q I r h
  obtain ⟨i, rfl, hz, q⟩ := h
  obtain ⟨u, rfl, t, rfl⟩ := vals1 r
  exact PySem.P.str_of_int hz ⟨.str _, H, I.tok _, ⟨_, rfl⟩, q⟩
end
end L2
namespace L2
open PySem PySem.Spec PyProof.Rows
structure ObjM (h : Heap) (x dx C : Addr) (mA : Str → Option Value) : Prop where
  obj : h.get? x = some (PySem.W.instObj C dx)
  ns : h.Ns1 dx mA
  ne : dx ≠ x
theorem lookIn_ns {h : Heap} {dx : Addr} {mA : Str → Option Value} (n : h.Ns1 dx mA) : ∃ od, h.get? dx = some od ∧ ∀ name, PySem.W.lookIn name od = some (mA name) := by
  obtain ⟨o, es, ep, ho, hd, hk, _, hm⟩ := n
  refine ⟨o, ho, fun name => ?_⟩
  have e := hm name
  unfold nsFind findBy at e
  rw [← Array.find?_toList] at e
  unfold PySem.W.lookIn
  rw [hd]
  dsimp only
  split
  · rename_i y q
    rw [q] at e
    exact congrArg some e
  · rename_i q
    rw [q] at e
    have a : es.toList.any (·.refKey) = false := by
      rw [List.any_eq_false]
      intro y hy
      obtain ⟨z, t, hkey⟩ := hk y (Array.mem_toList_iff.mp hy)
      simp [DictEntry.refKey, hkey]
    have a' : ¬ es.toList.any (·.refKey) = true := by rw [a]; exact Bool.false_ne_true
    rw [if_neg a']
    exact congrArg some e
theorem ObjM.look {h : Heap} {x dx C : Addr} {mA : Str → Option Value} (I : ObjM h x dx C mA) : ∃ od, PySem.W.InstAt h x (PySem.W.instObj C dx) C (some od) ∧ ∀ name, PySem.W.lookIn name od = some (mA name) :=
  let ⟨od, ho, hl⟩ := lookIn_ns I.ns
  ⟨od, ⟨I.obj, rfl, rfl, ho⟩, hl⟩
section
variable {prog : Program} {w : World} {A : Around} {E : Value → Shared → Prop} {s : Shared} {K : PySem.W.Frag} {x dx C f : Addr} {mA : Str → Option Value} {name : Str} {v : Value}
theorem get_map {expr : Bool} {Q : Value → Shared → Prop} (X : K.In s.heap) (I : ObjM s.heap x dx C mA) (hg : PySem.W.plainGet K C name = true) (hh : PySem.W.hasDictIn K C = true)
    (ha : PySem.W.findIn K (.ref C) name = some none) (hv : mA name = some v) (hv' : PySem.W.handedIn v = true) (h : Q v { s with toks := s.toks + 1 }) :
    wpAny (model prog w) A (getAttr (.ref x) name expr) Q E s := by
  obtain ⟨od, J, hl⟩ := I.look
  exact PySem.W.get_value X J (PySem.W.plainGet_of hg).1 (PySem.W.findObj_own hh ha rfl (by rw [hl, hv])) hv' h
theorem get_meth {pl : Sem Bool} {Q : Value × List Value → Shared → Prop} (X : K.In s.heap) (I : ObjM s.heap x dx C mA) (hg : PySem.W.plainGet K C name = true)
    (hf : PySem.W.findIn K (.ref C) name = some (some (.ref f))) (ht : PySem.W.isFn K (.ref f) = true) (hv : mA name = none) (h : Q (.ref f, [.ref x]) s) :
    wpAny (model prog w) A (getMethod (.ref x) name pl) Q E s := by
  obtain ⟨od, J, hl⟩ := I.look
  exact PySem.W.method_fn X J (PySem.W.plainGet_of hg).1 (PySem.W.plainGet_of hg).2 hf (beq_iff_eq.mp ht) (by show (PySem.W.lookIn name od).map (·.isSome) = some false; rw [hl, hv]; rfl) h
theorem set_map {ns : List Str} {Q : Unit → Shared → Prop} (X : K.In s.heap) (I : ObjM s.heap x dx C mA)
    (hs : PySem.W.findIn K (.ref C) "__setattr__" = some (some (.builtin "object.__setattr__"))) (hp : PySem.W.plainOver K C = true) (ht : PySem.W.takerIn K C name = some none) (hh : PySem.W.hasDictIn K C = true)
    (hw : PySem.Within mA ns) (hsz : ns.length ≤ sizeLine)
    (h : ∀ h', ObjM h' x dx C (fun y => if y = name then some v else mA y) → Heap.SameBut dx s.heap h' → Q () { s with heap := h', toks := s.toks + 2 }) :
    wpAny (model prog w) A (setAttr (.ref x) name v) Q E s := by
  obtain ⟨od, J, hl⟩ := I.look
  refine PySem.W.set_plain X J hs (PySem.W.osa_open (s := { s with toks := s.toks + 1 }) (r := none) X J hp ht fun b => ?_)
  obtain ⟨cd, hc, hd'⟩ := PySem.W.any_some hh
  have hx : s.heap.get? x = some ⟨.ref C, some dx, .plain, #[]⟩ := I.obj
  refine wpAny_bind (wpAny_pure (wpAny_bind (wpAny_bind (wpAny_loadPart hx (wpAny_bind (PySem.W.Looks.here (s := { s with toks := s.toks + 1 }) (PySem.W.looks_clsIn X hc) ?_))))))
  rw [hd']
  refine wpAny_pure (a := some dx) (wpAny_bind (wpAny_pure (wpAny_bind ?_)))
  refine wpAny_nsSet1 (s := { s with toks := s.toks + 1 }) I.ns fun h' hn2 hs2 => ?_
  obtain ⟨oD, esD, epD, hoD, hdD, hcD⟩ := hn2.count (PySem.Within.cons name v hw)
  refine wpAny_bind (wpAny_lookBehind hoD (by rw [hdD]; exact pastItsLine_dict (Nat.le_trans hcD (by rw [List.length_cons]; omega))) ?_)
  exact wpAny_pure (h _ ⟨(hs2.2 _ (Ne.symm I.ne)).trans I.obj, hn2, I.ne⟩ hs2)
theorem make_map {R : Result → Shared → Prop} {vs : List Value} {kw : List (Str × Value)} (X : K.In s.heap) (hm : PySem.W.makesIn K C = true)
    (hi : PySem.W.findIn K (.ref C) "__init__" = some (some (.ref f))) (hf : PySem.W.typeIn K (.ref f) = some (.type "function"))
    (h : codeAny (model prog w) (A.under (.builtin "type.__call__" ⟨.ref C :: vs, kw⟩)) (.call (.ref f) ⟨.ref (s.heap.objs.size + 1) :: vs, kw⟩) (PySem.W.InitBack (s.heap.objs.size + 1) R)
      { s with heap := (s.heap.push PySem.W.emptyDict).push (PySem.W.instObj C s.heap.objs.size) }) :
    codeAny (model prog w) A (.call (.ref C) ⟨vs, kw⟩) R s := by
  obtain ⟨hh, g, d, t, os⟩ := s
  exact PySem.W.make_core (PySem.W.makes_of X hm) (PySem.W.looks_findIn X hi) (fun self => PySem.W.bind_fn X self hf) (.inl rfl) h
end
def putF (f : Str) (v : V) : List (Str × V) → List (Str × V)
  | [] => [(f, v)]
  | (g, x) :: r => if g = f then (g, v) :: r else (g, x) :: putF f v r
theorem lookup_putF (f g : Str) (v : V) : ∀ fs : List (Str × V), (putF f v fs).lookup g = if g = f then some v else fs.lookup g
  | [] => by
    show List.lookup g [(f, v)] = _
    by_cases h : g = f
    · have hb : (g == f) = true := beq_iff_eq.mpr h
      simp only [List.lookup, hb, if_pos h]
    · have hb : (g == f) = false := beq_eq_false_iff_ne.mpr h
      simp only [List.lookup, hb, if_neg h]
  | (k, x) :: r => by
    have ih := lookup_putF f g v r
    rw [show putF f v ((k, x) :: r) = (if k = f then (k, v) :: r else (k, x) :: putF f v r) from rfl]
    by_cases hk : k = f
    · rw [if_pos hk]
      by_cases h : g = k
      · have hb : (g == k) = true := beq_iff_eq.mpr h
        simp only [List.lookup, hb, if_pos (h.trans hk)]
      · have hb : (g == k) = false := beq_eq_false_iff_ne.mpr h
        simp only [List.lookup, hb, if_neg (fun e : g = f => h (e.trans hk.symm))]
    · rw [if_neg hk]
      by_cases h : g = k
      · have hb : (g == k) = true := beq_iff_eq.mpr h
        simp only [List.lookup, hb, if_neg (fun e : g = f => hk (h.symm.trans e))]
      · have hb : (g == k) = false := beq_eq_false_iff_ne.mpr h
        simp only [List.lookup, hb]
        exact ih
theorem keys_putF (f : Str) (v : V) : ∀ fs : List (Str × V), f ∈ (putF f v fs).map (·.1) ∧ ∀ g, g ∈ fs.map (·.1) → g ∈ (putF f v fs).map (·.1)
  | [] => ⟨by simp [putF], fun g h => by simp at h⟩
  | (k, x) :: r => by
    obtain ⟨i1, i2⟩ := keys_putF f v r
    rw [show putF f v ((k, x) :: r) = (if k = f then (k, v) :: r else (k, x) :: putF f v r) from rfl]
    by_cases hk : k = f
    · rw [if_pos hk]
      subst hk
      exact ⟨by simp, fun g h => by simpa using h⟩
    · rw [if_neg hk]
      refine ⟨?_, fun g h => ?_⟩
      · rw [List.map_cons]
        exact List.mem_cons_of_mem _ i1
      · rw [List.map_cons] at h ⊢
        rcases List.mem_cons.mp h with e | e
        · exact List.mem_cons.mpr (.inl e)
        · exact List.mem_cons_of_mem _ (i2 g e)
theorem length_putF (f : Str) (v : V) : ∀ fs : List (Str × V), (putF f v fs).length ≤ fs.length + 1
  | [] => by simp [putF]
  | (k, x) :: r => by
    have ih := length_putF f v r
    rw [show putF f v ((k, x) :: r) = (if k = f then (k, v) :: r else (k, x) :: putF f v r) from rfl]
    by_cases hk : k = f
    · rw [if_pos hk, List.length_cons, List.length_cons]; omega
    · rw [if_neg hk, List.length_cons, List.length_cons]; omega
theorem RelO.some_of {v : V} {o : Option Value} (r : RelO (some v) o) : ∃ u, o = some u ∧ RelV v u := by
  cases o with
  | none => exact (show False from r).elim
  | some u => exact ⟨u, rfl, r⟩
theorem RelO.none_of {o : Option Value} (r : RelO none o) : o = none := by
  cases o with
  | none => rfl
  | some u => exact (show False from r).elim
theorem handed_of {v : V} {u : Value} (r : RelV v u) : PySem.W.handedIn u = true := by
  cases v with
  | non => cases (show u = Value.none from r); rfl
  | bl b => cases (show u = Value.bool b from r); rfl
  | int i => obtain ⟨t, e⟩ := (show ∃ t, u = Value.int i t from r); cases e; rfl
  | str x => obtain ⟨t, e⟩ := (show ∃ t, u = Value.str x t from r); cases e; rfl
  | byt b => obtain ⟨t, e⟩ := (show ∃ t, u = Value.bytes b t from r); cases e; rfl
  | flt b => obtain ⟨t, e⟩ := (show ∃ t, u = Value.float b t from r); cases e; rfl
  | ref a => cases (show u = Value.ref a from r); rfl
  | ty n => cases (show u = Value.type n from r); rfl
section
variable {P : Program} {w : World} {H H' : Hp} {h h' : Heap} {a C dx : Addr} {fs fs' : List (Str × V)}
theorem ins_get (hok : HOk P w H h) (e : H a = some (.ins C dx fs)) : ∃ mA, ObjM h a dx C mA ∧ (∀ f, RelO (fs.lookup f) (mA f)) ∧ PySem.Within mA (fs.map (·.1)) ∧ fs.length ≤ 1000 ∧ H dx = some (.own a) := by
  obtain ⟨d, z, ne, ob, mA, n, r, q⟩ := (show ObjOk P w H h a (.ins C dx fs) from hok a _ e)
  exact ⟨mA, ⟨ob, n, ne⟩, r, q, z, d⟩
end
structure Cls (K : PySem.W.Frag) (C : Addr) : Prop where
  pg : PySem.W.plainGet K C Str.empty = true
  hd : PySem.W.hasDictIn K C = true
  po : PySem.W.plainOver K C = true
  sa : PySem.W.findIn K (.ref C) "__setattr__" = some (some (.builtin "object.__setattr__"))
theorem Cls.get {K : PySem.W.Frag} {C : Addr} (c : Cls K C) (f : Str) : PySem.W.plainGet K C f = true := c.pg
def NoAttr (K : PySem.W.Frag) (C : Addr) (f : Str) : Prop := PySem.W.findIn K (.ref C) f = some none
theorem NoAttr.taker {K : PySem.W.Frag} {C : Addr} {f : Str} (n : NoAttr K C f) : PySem.W.takerIn K C f = some none := by
  unfold PySem.W.takerIn
  rw [show PySem.W.findIn K (.ref C) f = some none from n]
  rfl
structure Meth (K : PySem.W.Frag) (C : Addr) (m : Str) (f : Addr) : Prop where
  at_ : PySem.W.findIn K (.ref C) m = some (some (.ref f))
  fn : PySem.W.isFn K (.ref f) = true
  kp : PySem.W.keepIn K (.ref f) = true
section
variable {X : Cx} {pins : List (Addr × Obj)} {σ : St} {H : Hp} {s : Shared} {a C dx : Addr} {fs : List (Str × V)} {f : Str} {v : V} {A : Around} {E : Value → Shared → Prop}
theorem getattr_ok {b : Bool} {Q : Value → Shared → Prop} (I : Inv X pins σ H s) (e : H a = some (.ins C dx fs)) (c : Cls X.K C) (n : NoAttr X.K C f) (l : fs.lookup f = some v)
    (h : ∀ u s', Inv X pins σ H s' → RelV v u → Q u s') : wpAny (model X.prog X.w) A (getAttr (.ref a) f b) Q E s := by
  obtain ⟨mA, O, r, _, _, _⟩ := ins_get I.hok e
  obtain ⟨u, hu, ru⟩ := RelO.some_of (v := v) (o := mA f) (by rw [← l]; exact r f)
  exact get_map I.kIn O (c.get f) c.hd n hu (handed_of ru) (h u _ (I.tok _) ru)
theorem getmeth_ok {m : Str} {g : Addr} {pl : Sem Bool} {Q : Value × List Value → Shared → Prop} (I : Inv X pins σ H s) (e : H a = some (.ins C dx fs)) (c : Cls X.K C) (k : Meth X.K C m g) (l : fs.lookup m = none)
    (h : Q (.ref g, [.ref a]) s) : wpAny (model X.prog X.w) A (getMethod (.ref a) m pl) Q E s := by
  obtain ⟨mA, O, r, _, _, _⟩ := ins_get I.hok e
  have hn : mA m = none := RelO.none_of (by rw [← l]; exact r m)
  exact get_meth I.kIn O (c.get m) k.at_ k.fn hn h
theorem setattr_ok {y : V} {u : Value} {Q : Unit → Shared → Prop} (I : Inv X pins σ H s) (e : H a = some (.ins C dx fs)) (c : Cls X.K C) (n : NoAttr X.K C f) (hl : fs.length < 1000) (ry : RelV y u)
    (h : ∀ s', Inv X pins σ (upd H a (.ins C dx (putF f y fs))) s' → Q () s') : wpAny (model X.prog X.w) A (setAttr (.ref a) f u) Q E s := by
  obtain ⟨mA, O, r, wi, _, ho⟩ := ins_get I.hok e
  have hz : (fs.map (·.1)).length ≤ sizeLine := by rw [List.length_map, sizeLine_eq]; omega
  refine set_map I.kIn O c.sa c.po n.taker c.hd wi hz fun h' O' sb => h _ ?_
  have hd : ∃ o, h'.get? dx = some o := let ⟨o, _, _, e', _⟩ := O'.ns; ⟨o, e'⟩
  refine I.write (x := a) (e := dx) (by rw [e]; exact True.intro) (.inr ho) (fun b q hb z => (sb.2 b hb).trans z) hd ?_
  refine ⟨by rw [upd_ne O.ne]; exact ho, ?_, O.ne, O'.obj, _, O'.ns, fun g => ?_, fun g hg => ?_⟩
  · have := length_putF f y fs; omega
  · show RelO ((putF f y fs).lookup g) (if g = f then some u else mA g)
    rw [lookup_putF]
    by_cases q : g = f
    · rw [if_pos q, if_pos q]; exact ry
    · rw [if_neg q, if_neg q]; exact r g
  · by_cases q : g = f
    · rw [q]; exact (keys_putF f y fs).1
    · refine (keys_putF f y fs).2 g (wi g fun z => hg ?_)
      show (if g = f then some u else mA g) = none
      rw [if_neg q]; exact z
theorem Inv.made (I : Inv X pins σ H s) : Inv X pins σ (upd (upd H s.heap.objs.size (.own (s.heap.objs.size + 1))) (s.heap.objs.size + 1) (.ins C s.heap.objs.size []))
    { s with heap := (s.heap.push PySem.W.emptyDict).push (PySem.W.instObj C s.heap.objs.size) } := by
  have e1 : (s.heap.push PySem.W.emptyDict).get? s.heap.objs.size = some PySem.W.emptyDict := Heap.get?_push_size s.heap rfl
  have e2 : ((s.heap.push PySem.W.emptyDict).push (PySem.W.instObj C s.heap.objs.size)).get? (s.heap.objs.size + 1) = some (PySem.W.instObj C s.heap.objs.size) := by
    have := Heap.get?_push_size (s.heap.push PySem.W.emptyDict) (o := PySem.W.instObj C s.heap.objs.size) rfl
    rwa [Heap.size_push] at this
  have e3 : (s.heap.push PySem.W.emptyDict).Ns s.heap.objs.size (fun _ => none) := ⟨PySem.W.emptyDict, #[], _, e1, rfl, (fun e he => absurd he (by simp)), fun _ => rfl⟩
  have I1 := I.laid (a := s.heap.objs.size) (o := .own (s.heap.objs.size + 1)) (h' := s.heap.push PySem.W.emptyDict) (t' := s.toks) (fun b u q => Heap.get?_push_of_some _ q) (Nat.le_refl _) ⟨_, e1⟩
  refine I1.laid (a := s.heap.objs.size + 1) (o := .ins C s.heap.objs.size []) (t' := s.toks) (fun b u q => Heap.get?_push_of_some _ q) (Nat.le_of_eq (Heap.size_push _ _)) ?_
  have ne : s.heap.objs.size ≠ s.heap.objs.size + 1 := Nat.ne_of_lt (Nat.lt_succ_self _)
  refine ⟨by rw [upd_ne ne, upd_same], Nat.zero_le _, ne, e2, fun _ => none, (Heap.Ns1.of_empty e3).at fun o q => Heap.get?_push_of_some _ q, fun _ => True.intro, fun y hy => absurd rfl hy⟩
theorem attr_of {prog : Program} {w : World} {env : Env} {e : Expr} {f : Str} {pos : Pos} {s : Shared} {Q : Value → Shared → Prop} (hb : attributeBase e f env (eval e env) = eval e env)
    (h : wpAny (model prog w) A (eval e env) (fun o s₁ => wpAny (model prog w) A (getAttr o f true) Q E s₁) E s) : wpAny (model prog w) A (eval (.Attribute e f pos) env) Q E s :=
  Attribute_any_ h (by rw [arm_eval_Attribute, hb])
end
def tFld (K : PySem.W.Frag) (ta : TE) (f : Str) : TE := fun σ H Q => ta σ H fun x H1 => ∃ a C dx fs v, x = .ref a ∧ H1 a = some (.ins C dx fs) ∧ Cls K C ∧ NoAttr K C f ∧ fs.lookup f = some v ∧ Q v H1
def sFld (K : PySem.W.Frag) (ta tv : TE) (f : Str) : TS := fun D σ H => tv σ H fun y H1 => ta σ H1 fun x H2 => ∃ a C dx fs, x = .ref a ∧ H2 a = some (.ins C dx fs) ∧ Cls K C ∧ NoAttr K C f ∧ fs.length < 1000 ∧
  D.nx σ (upd H2 a (.ins C dx (putF f y fs)))
def InOp (X : Cx) (op : Operator) (rd : V → V → Hp → VK → Prop) : Prop :=
  ∀ (pins : List (Addr × Obj)) (s : Shared) (σ : St) (H : Hp) (x y : V) (u v : Value) (Q : VK), Inv X pins σ H s → RelV x u → RelV y v → rd x y H Q → wpAny (model X.prog X.w) X.A (inplaceOp op u v) (EP X pins σ Q) X.xe s
def sFldAug (K : PySem.W.Frag) (ta tv : TE) (rd : V → V → Hp → VK → Prop) (f : Str) : TS := fun D σ H => ta σ H fun x H1 => ∃ a C dx fs v, x = .ref a ∧ H1 a = some (.ins C dx fs) ∧ Cls K C ∧ NoAttr K C f ∧ fs.lookup f = some v ∧
  tv σ H1 fun y H2 => rd v y H2 fun z H3 => ∃ dx' fs', H3 a = some (.ins C dx' fs') ∧ fs'.length < 1000 ∧ D.nx σ (upd H3 a (.ins C dx' (putF f z fs')))
section
variable {X : Cx} {o e value : Expr} {f : Str} {pos pos' tpos : Pos} {ta tv : TE}
theorem pe_fld (he : PE X e ta) (hb : attributeBase e f X.env (eval e X.env) = eval e X.env) : PE X (.Attribute e f pos) (tFld X.K ta f) := by
  intro pins s σ H Q I h
  refine attr_of hb (thn (he pins s σ H _ I h) fun u s1 ⟨x, H1, I1, rx, a, C, dx, fs, v, ex, ea, c, n, l, q⟩ => ?_)
  subst ex
  obtain rfl : u = Value.ref a := rx
  exact getattr_ok I1 ea c n l fun u' s2 I2 ru => ⟨v, H1, I2, ru, q⟩
theorem ps_fld (ha : PE X o ta) (hv : PE X value tv) (hs : swapsWith value (some (.Attribute o f pos')) pos.line X.env = pure false) : PS X (.Assign [.Attribute o f pos'] value pos) (sFld X.K ta tv f) := by
  intro pins s σ H D I h
  refine plainObj_wpAny_Assign_Attribute (thn (hv pins s σ H _ I h) fun u s1 ⟨y, H1, I1, ry, q⟩ => thn (ha pins s1 σ H1 _ I1 q) fun ov s2 ⟨x, H2, I2, rx, a, C, dx, fs, ex, ea, c, n, l, q2⟩ => ?_) hs
  subst ex
  obtain rfl : ov = Value.ref a := rx
  exact setattr_ok I2 ea c n l ry fun s3 I3 => ⟨σ, _, I3, q2⟩
theorem ps_fldaug {op : Operator} {rd : V → V → Hp → VK → Prop} (ha : PE X o ta) (hv : PE X value tv) (hop : InOp X op rd) : PS X (.AugAssign (.Attribute o f tpos) op value pos) (sFldAug X.K ta tv rd f) := by
  intro pins s σ H D I h
  refine wpAny_AugAssign_AttributeAny (thn (ha pins s σ H _ I h) fun ov s1 ⟨x, H1, I1, rx, a, C, dx, fs, v, ex, ea, c, n, l, q⟩ => ?_)
  subst ex
  obtain rfl : ov = Value.ref a := rx
  refine getattr_ok I1 ea c n l fun u s2 I2 ru => thn (hv pins s2 σ H1 _ I2 q) fun w3 s3 ⟨y, H2, I3, ry, q3⟩ => thn (hop pins s3 σ H2 v y u w3 _ I3 ru ry q3) fun w4 s4 ⟨z, H3, I4, rz, dx', fs', ea', l', q4⟩ => ?_
  exact setattr_ok I4 ea' c n l' rz fun s5 I5 => ⟨σ, _, I5, q4⟩
def rAdd : V → V → Hp → VK → Prop := fun x y H Q => ∃ i j, x = .int i ∧ y = .int j ∧ Q (.int (i + j)) H
def rSub : V → V → Hp → VK → Prop := fun x y H Q => ∃ i j, x = .int i ∧ y = .int j ∧ Q (.int (i - j)) H
theorem in_add : InOp X .Add rAdd := by
  rintro pins s σ H x y u v Q I rx ry ⟨i, j, rfl, rfl, q⟩
  obtain ⟨t, rfl⟩ := (show ∃ t, u = Value.int i t from rx)
  obtain ⟨t', rfl⟩ := (show ∃ t', v = Value.int j t' from ry)
  exact PyProof.Rows.iadd_int ⟨.int (i + j), H, I.tok _, ⟨_, rfl⟩, q⟩
theorem in_sub : InOp X .Sub rSub := by
  rintro pins s σ H x y u v Q I rx ry ⟨i, j, rfl, rfl, q⟩
  obtain ⟨t, rfl⟩ := (show ∃ t, u = Value.int i t from rx)
  obtain ⟨t', rfl⟩ := (show ∃ t', v = Value.int j t' from ry)
  exact PyProof.Rows.isub_int ⟨.int (i - j), H, I.tok _, ⟨_, rfl⟩, q⟩
end
section
variable {X : Cx} {pins : List (Addr × Obj)} {σ : St} {H : Hp} {s : Shared} {A : Around} {E : Value → Shared → Prop} {Q : Value → Shared → Prop} {c : Value} {b : Bool}
inductive TyOf (K : PySem.W.Frag) (H : Hp) : V → Value → Prop where
  | non : TyOf K H .non (.type "NoneType")
  | bl (x : Bool) : TyOf K H (.bl x) (.type "bool")
  | int (i : Int) : TyOf K H (.int i) (.type "int")
  | str (x : Str) : TyOf K H (.str x) (.type "str")
  | flt (x : UInt64) : TyOf K H (.flt x) (.type "float")
  | lst {a : Addr} {xs : List V} (e : H a = some (.lst xs)) : TyOf K H (.ref a) (.type "list")
  | frz {a : Addr} {o : Obj} {xs : List V} (e : H a = some (.frz o (.lst xs))) : TyOf K H (.ref a) (.type "list")
  | tup {a : Addr} {xs : List V} (e : H a = some (.tup xs)) : TyOf K H (.ref a) (.type "tuple")
  | dK {a : Addr} {kvs : List (Key × V)} (e : H a = some (.dK kvs)) : TyOf K H (.ref a) (.type "dict")
  | dT {a : Addr} {kvs : List (List Key × V)} (e : H a = some (.dT kvs)) : TyOf K H (.ref a) (.type "dict")
  | ins {a C dx : Addr} {fs : List (Str × V)} (e : H a = some (.ins C dx fs)) (cl : Cls K C) (ha : PySem.W.findIn K (.ref C) "__class__" = some (some (.builtin "object.__class__")))
      (hn : PySem.W.specialIn K (.builtin "object.__class__") "__get__" = some (some (.builtin "getset_descriptor.__get__"))) (htk : PySem.W.takesIn K (.builtin "object.__class__") = some true)
      (hm : PySem.W.mroIn K C (.type "object") = some true) : TyOf K H (.ref a) (.ref C)
theorem isinst_ok {x : V} {u t : Value} (I : Inv X pins σ H s) (rx : RelV x u) (ty : TyOf X.K H x t) (e : PySem.W.kitOne X.K t c = some b) (h : ∀ tk, Q (.bool b) { s with toks := tk }) :
    wpAny (model X.prog X.w) A (call (.builtin "isinstance") [u, c]) Q E s := by
  cases ty with
  | non => cases (show u = Value.none from rx); exact PySem.W.kia_one PySem.W.kitx_none I.kIn True.intro e (fun z => nomatch z) h
  | bl y => cases (show u = Value.bool y from rx); exact PySem.W.kia_one PySem.W.kitx_bool I.kIn True.intro e (fun z => nomatch z) h
  | int i => obtain ⟨t, q⟩ := (show ∃ t, u = Value.int i t from rx); cases q; exact PySem.W.kia_one PySem.W.kitx_int I.kIn True.intro e (fun z => nomatch z) h
  | str y => obtain ⟨t, q⟩ := (show ∃ t, u = Value.str y t from rx); cases q; exact PySem.W.kia_one PySem.W.kitx_str I.kIn True.intro e (fun z => nomatch z) h
  | flt y => obtain ⟨t, q⟩ := (show ∃ t, u = Value.float y t from rx); cases q; exact PySem.W.kia_one PySem.W.kitx_float I.kIn True.intro e (fun z => nomatch z) h
  | @lst a xs ea =>
    cases (show u = Value.ref a from rx)
    obtain ⟨_, _, n, _, h1⟩ := (show ObjOk X.prog X.w H s.heap a (.lst xs) from I.hok a _ ea)
    exact PySem.W.kia_one PySem.W.kitx_list I.kIn ⟨_, h1, rfl⟩ e (fun z => nomatch z) h
  | @frz a ob xs ea =>
    cases (show u = Value.ref a from rx)
    obtain ⟨_, _, _, n, _, h1⟩ := (show ObjOk X.prog X.w H s.heap a (.frz ob (.lst xs)) from I.hok a _ ea)
    exact PySem.W.kia_one PySem.W.kitx_list I.kIn ⟨_, h1, rfl⟩ e (fun z => nomatch z) h
  | @tup a xs ea =>
    cases (show u = Value.ref a from rx)
    obtain ⟨_, _, _, p⟩ := (show ObjOk X.prog X.w H s.heap a (.tup xs) from I.hok a _ ea)
    obtain ⟨o, h1, h2, _⟩ := p
    exact PySem.W.kia_one PySem.W.kitx_tuple I.kIn ⟨o, h1, h2⟩ e (fun z => nomatch z) h
  | @dK a kvs ea =>
    cases (show u = Value.ref a from rx)
    obtain ⟨_, _, vs, _, p⟩ := (show ObjOk X.prog X.w H s.heap a (.dK kvs) from I.hok a _ ea)
    obtain ⟨o, es, ep, h1, h2, _⟩ := p
    exact PySem.W.kia_one PySem.W.kitx_dict I.kIn ⟨o, h1, h2.1⟩ e (fun z => nomatch z) h
  | @dT a kvs ea =>
    cases (show u = Value.ref a from rx)
    obtain ⟨_, _, xs, _, o, es, ep, h1, h2, _⟩ := (show ObjOk X.prog X.w H s.heap a (.dT kvs) from I.hok a _ ea)
    exact PySem.W.kia_one PySem.W.kitx_dict I.kIn ⟨o, h1, h2.1⟩ e (fun z => nomatch z) h
  | @ins a C dx fs ea cl ha hn htk hm =>
    cases (show u = Value.ref a from rx)
    obtain ⟨mA, O, _⟩ := ins_get I.hok ea
    obtain ⟨od, J, _⟩ := O.look
    exact PySem.W.kia_one (PySem.W.kitx_own (cl.get _) cl.hd ha hn htk hm) I.kIn J e (fun z => nomatch z) h
end
end L2
namespace L2
open PySem PySem.Spec PyProof.Rows
structure Room (k : Nat) (A : Around) : Prop where
  hd : A.handled = none
  dp : A.depth + 3 * k + 5 < recursionLimit
  un : A.units + 16 * k + 200 < cLine
theorem Room.mono {j k : Nat} {A : Around} (r : Room k A) (h : j ≤ k) : Room j A := ⟨r.hd, by have := r.dp; omega, by have := r.un; omega⟩
theorem Room.deeper {k : Nat} {A : Around} (r : Room (k + 1) A) (env : Env) : Room k (A.deeper env) :=
  ⟨r.hd, by have := r.dp; show A.depth + 1 + 3 * k + 5 < _; omega, by have := r.un; show A.units + 3 + 16 * k + 200 < _; omega⟩
theorem make_depth {A : Around} {C : Addr} {us : List Value} {kw : List (Str × Value)} : (A.under (.builtin "type.__call__" ⟨.ref C :: us, kw⟩)).depth = A.depth + 1 := by
  first | rfl | simp [Around.under, Code.weight, Code.isCreation, Code.isGuard, Code.isCaller, Code.frames, Code.isFrame, guardIds]
theorem make_units {A : Around} {C : Addr} {us : List Value} {kw : List (Str × Value)} : (A.under (.builtin "type.__call__" ⟨.ref C :: us, kw⟩)).units = A.units + 1 := by
  first | rfl | simp [Around.under, Code.cUnits, Code.frames, Code.isFrame]
theorem Room.make {k : Nat} {A : Around} (r : Room (k + 1) A) (C : Addr) (us : List Value) (kw : List (Str × Value)) : Room k (A.under (.builtin "type.__call__" ⟨.ref C :: us, kw⟩)) :=
  ⟨r.hd, by have := r.dp; rw [make_depth]; omega, by have := r.un; rw [make_units]; omega⟩
theorem Room.depth {k : Nat} {A : Around} (r : Room k A) : A.depth < recursionLimit := by have := r.dp; omega
theorem Room.units {k : Nat} {A : Around} (r : Room k A) : A.units + 64 < cLine := by have := r.un; omega
def tNil : TA := fun _ H Q => Q [] H
def tCons (ta : TE) (tr : TA) : TA := fun σ H Q => ta σ H fun x H1 => tr σ H1 fun xs H2 => Q (x :: xs) H2
section
variable {X : Cx} {e : Expr} {es : List Expr} {te : TE} {t : TA} {pos : Pos}
theorem pa_nil : PA X [] tNil := fun _ _ _ _ H Q I h => Calls.spliced_nil ⟨[], H, I, .nil, h⟩
theorem pa_cons (ha : PE X e te) (hr : PA X es t) (hs : starEach (e :: es) X.env = (false, eval e X.env) :: starEach es X.env := by rfl) : PA X (e :: es) (tCons te t) := by
  intro pos pins s σ H Q I h
  rw [hs]
  show wpAny _ _ (spliced ((false, eval e X.env) :: backTo pos (starEach es X.env))) _ _ s
  refine Calls.spliced_cons (thn (ha pins s σ H _ I h) fun u s1 ⟨x, H1, I1, r1, q1⟩ => ?_)
  exact thn (hr pos pins s1 σ H1 _ I1 q1) fun us s2 ⟨xs, H2, I2, r2, q2⟩ => ⟨x :: xs, H2, I2, .cons r1 r2, q2⟩
def tTup (t : TA) : TE := fun σ H Q => t σ H fun xs H1 => xs.length ≤ sizeLine ∧ ∀ p, H1 p = none → Q (.ref p) (upd H1 p (.tup xs))
def tLst (t : TA) : TE := fun σ H Q => t σ H fun xs H1 => xs.length ≤ sizeLine ∧ ∀ p, H1 p = none → Q (.ref p) (upd H1 p (.lst xs))
theorem pe_tup {x1} (h : PA X es t) : PE X (.Tuple es x1 pos) (tTup t) := by
  intro pins s σ H Q I hq
  refine wpAny_Tuple_spliced (thn (h pos pins s σ H _ I hq) fun us s1 ⟨xs, H1, I1, r, z, q⟩ => ⟨by rw [← r.length]; exact z, ?_⟩)
  have hf : H1 s1.heap.objs.size = none := I1.hok.fresh (Nat.le_refl _)
  refine ⟨.ref s1.heap.objs.size, upd H1 s1.heap.objs.size (.tup xs), I1.laid (t' := s1.toks) (fun b u e => Heap.get?_push_of_some _ e) (Nat.le_refl _) ?_, rfl, q _ hf⟩
  exact ⟨z, us, r, ⟨_, Heap.get?_push_size _ rfl, rfl, _, rfl⟩⟩
theorem pe_lst (h : PA X es t) : PE X (.List es pos) (tLst t) := by
  intro pins s σ H Q I hq
  refine wpAny_List_spliced (thn (h pos pins s σ H _ I hq) fun us s1 ⟨xs, H1, I1, r, z, q⟩ => ⟨by rw [← r.length]; exact z, ?_⟩)
  have hf : H1 s1.heap.objs.size = none := I1.hok.fresh (Nat.le_refl _)
  refine ⟨.ref s1.heap.objs.size, upd H1 s1.heap.objs.size (.lst xs), I1.laid (t' := s1.toks) (fun b u e => Heap.get?_push_of_some _ e) (Nat.le_refl _) ?_, rfl, q _ hf⟩
  exact ⟨z, us, 0, r, Heap.get?_push_size _ rfl⟩
end
abbrev Sp := List V → Hp → VK → XK → Prop
abbrev CXT := List Env → Hp → Shared → XK → Value → Shared → Prop
structure Env0 (P : Program) (w : World) (K : PySem.W.Frag) (mg : Str → Option Value) (base : Heap) (A : Around) (outer : List Env) (s : Shared) (H : Hp) : Prop where
  frames : A.frames = some outer
  mod : Mod K mg base
  bs : ∀ b o, base.get? b = some o → s.heap.get? b = some o ∧ H b = none
  bsz : base.objs.size ≤ s.heap.objs.size
  funs : s.heap.FunFrames base outer
  frf : ∀ b ∈ frs outer, H b = none
  hok : HOk P w H s.heap
  bare : AllBare s.gens
def CE (outer : List Env) (P : Program) (w : World) (H : Hp) (s : Shared) (Q : VK) (u : Value) (s' : Shared) : Prop :=
  ∃ v H', s'.os = s.os ∧ AllBare s'.gens ∧ Un (frs outer) [] H H' s.heap s'.heap ∧ HOk P w H' s'.heap ∧ RelV v u ∧ Q v H'
def CR (CX : CXT) (outer : List Env) (P : Program) (w : World) (H : Hp) (s : Shared) (Q : VK) (E : XK) (r : Result) (s' : Shared) : Prop :=
  match r with
  | .ok (.ret u) => CE outer P w H s Q u s'
  | .ok _ => False
  | .error e => CX outer H s E e s'
structure FnOk (P : Program) (w : World) (K : PySem.W.Frag) (mg : Str → Option Value) (base : Heap) (CX : CXT) (k : Nat) (f : Addr) (fd : FuncData) (ps : List Str) (sp : Sp) : Prop where
  len : ∀ vs H Q E, sp vs H Q E → vs.length = ps.length
  run : ∀ (A : Around) (outer : List Env) (s : Shared) (H : Hp) (args : Args) (us : List Value) (vs : List V) (Q : VK) (E : XK), Room k A → Env0 P w K mg base A outer s H → BindsTo s fd args (ps.zip us) → Vals vs us → sp vs H Q E →
    codeAny (model P w) A (.call (.ref f) args) (CR CX outer P w H s Q E) s
theorem Env0.make {P : Program} {w : World} {K : PySem.W.Frag} {mg : Str → Option Value} {base : Heap} {A : Around} {outer : List Env} {s : Shared} {H : Hp} (e : Env0 P w K mg base A outer s H) (C : Addr) (us : List Value) (kw : List (Str × Value)) :
    Env0 P w K mg base (A.under (.builtin "type.__call__" ⟨.ref C :: us, kw⟩)) outer s H := ⟨by first | exact e.frames | (simpa [Around.under, Code.envs, Code.isFrame, pushEnvs] using e.frames), e.mod, e.bs, e.bsz, e.funs, e.frf, e.hok, e.bare⟩
section
variable {X : Cx} {pins : List (Addr × Obj)} {σ : St} {H : Hp} {s s' : Shared}
theorem Inv.env0 (I : Inv X pins σ H s) : Env0 X.prog X.w X.K X.mg X.base X.A X.stack s H :=
  ⟨I.ok.frames, I.ok.mod, I.bs, Nat.le_trans I.ok.bsz I.sz, I.stack, I.stkFree, I.hok, I.bare⟩
theorem Inv.after {Q : VK} {u : Value} (I : Inv X pins σ H s) (h : CE X.stack X.prog X.w H s Q u s') : EP X pins σ Q u s' := by
  obtain ⟨v, H', os, bare, un, hok, r, q⟩ := h
  obtain ⟨hh, g, d, t, os'⟩ := s'
  obtain rfl : os' = s.os := os
  exact ⟨v, H', I.call (h' := hh) (g' := g) (d' := d) (t' := t) (ch := []) un hok bare (fun b z => absurd z (by simp)), r, q⟩
end
def tCall (sp : Sp) (dvs : List V) (E : XK) (t : TA) : TE := fun σ H Q => t σ H fun vs H1 => sp (vs ++ dvs) H1 Q E
def tMeth (C : Addr) (m : Str) (sp : Sp) (dvs : List V) (E : XK) (ta : TE) (t : TA) : TE := fun σ H Q => ta σ H fun x H1 => ∃ a dx fs, x = .ref a ∧ H1 a = some (.ins C dx fs) ∧ fs.lookup m = none ∧
  t σ H1 fun vs H2 => sp (x :: (vs ++ dvs)) H2 Q E
def tMake (C : Addr) (sp : Sp) (dvs : List V) (E : XK) (t : TA) : TE := fun σ H Q => t σ H fun vs H1 => ∀ x dx, H1 x = none → H1 dx = none → dx ≠ x →
  sp (.ref x :: (vs ++ dvs)) (upd (upd H1 dx (.own x)) x (.ins C dx [])) (fun v H2 => v = .non ∧ Q (.ref x) H2) E
def Binds (K : PySem.W.Frag) (fd : FuncData) (ps : List Str) (ds : List Value) : Prop :=
  ∀ (s : Shared) (us : List Value), K.In s.heap → (us ++ ds).length = ps.length → BindsTo s fd ⟨us, []⟩ (ps.zip (us ++ ds))
theorem Binds.all {K : PySem.W.Frag} {fd : FuncData} {ps : List Str} (h : ∀ us : List Value, us.length = ps.length → bindArgs fd ⟨us, []⟩ = pure (ps.zip us)) : Binds K fd ps [] := fun s us _ hl => by
  rw [List.append_nil] at hl ⊢
  exact .of_eq (h us hl)
def Passes (CX : CXT) (X : Cx) (E : XK) : Prop := ∀ (pins : List (Addr × Obj)) (σ : St) (H : Hp) (s : Shared) (e : Value) (s' : Shared), Inv X pins σ H s → CX X.stack H s E e s' → X.xe e s'
section
variable {X : Cx} {CX : CXT} {k : Nat} {f C : Addr} {fd : FuncData} {ps : List Str} {sp : Sp} {dvs : List V} {ds : List Value} {E : XK} {x m : Str} {p pos apos : Pos} {e o : Expr} {es : List Expr} {ta : TE} {t : TA}
theorem run_fn {pins : List (Addr × Obj)} {σ : St} {H : Hp} {s : Shared} {Q : VK} {us : List Value} {vs : List V} (F : FnOk X.prog X.w X.K X.mg X.base CX k f fd ps sp) (hr : Room k X.A) (hb : Binds X.K fd ps ds) (hd : Vals dvs ds) (hx : Passes CX X E)
    (I : Inv X pins σ H s) (r : Vals vs us) (h : sp (vs ++ dvs) H Q E) : wpAny (model X.prog X.w) X.A (call (.ref f) us) (EP X pins σ Q) X.xe s := by
  have r2 : Vals (vs ++ dvs) (us ++ ds) := r.append hd
  have hl : (us ++ ds).length = ps.length := by rw [← r2.length]; exact F.len _ _ _ _ h
  refine wpAny_call (codeAny_mono (F.run X.A X.stack s H ⟨us, []⟩ (us ++ ds) (vs ++ dvs) Q E hr I.env0 (hb s us I.kIn hl) r2 h) fun r s' hq => ?_)
  cases r with
  | error e => exact hx pins σ H s e s' I hq
  | ok fl =>
    cases fl with
    | ret u => exact I.after hq
    | next => exact False.elim hq
    | brk => exact False.elim hq
    | cont => exact False.elim hq
theorem pe_call (F : FnOk X.prog X.w X.K X.mg X.base CX k f fd ps sp) (hr : Room k X.A) (hg : Gl X x) (hm : X.mg x = some (.ref f)) (hk : PySem.W.keepIn X.K (.ref f) = true) (hb : Binds X.K fd ps ds) (hd : Vals dvs ds) (hx : Passes CX X E)
    (ha : PA X (e :: es) t) (hdb : (x == ("__debug__" : Str)) = false := by decide) (he : starEach (e :: es) X.env = (false, eval e X.env) :: starEach es X.env := by rfl) (hpl : (backTo pos (starEach es X.env)).any (·.1) = false := by rfl) :
    PE X (.Call (.Name x p) (e :: es) [] pos) (tCall sp dvs E t) := by
  intro pins s σ H Q I h
  refine wpAny_Call_Name_kw (ld_glob I hg hm ?_ hdb)
  refine PySem.W.callWith_K (h₀ := X.base) I.ok.mod.kin hk (thn (ha pos pins s σ H _ I h) fun us s1 ⟨vs, H1, I1, r, q⟩ => ⟨I1.kIn, ?_⟩) he hpl
  exact run_fn F hr hb hd hx I1 r q
theorem pe_meth {pl : Sem Bool} (he : PE X o ta) (c : Cls X.K C) (hm : Meth X.K C m f) (F : FnOk X.prog X.w X.K X.mg X.base CX k f fd ps sp) (hr : Room k X.A) (hb : Binds X.K fd ps ds) (hd : Vals dvs ds) (hx : Passes CX X E) (ha : PA X (e :: es) t)
    (hst : starEach (e :: es) X.env = (false, eval e X.env) :: starEach es X.env := by rfl) (hpl : (backTo pos (starEach es X.env)).any (·.1) = false := by rfl)
    (ht : eval (.Call (.Attribute o m apos) (e :: es) [] pos) X.env = (do
      let ov ← eval o X.env
      standAt apos.atName
      let (f, first) ← holding [ov] (getMethod ov m pl)
      callWith pos f first (backTo pos (starEach (e :: es) X.env)) (backToKw pos (keywordEach [] X.env))) := by rfl) :
    PE X (.Call (.Attribute o m apos) (e :: es) [] pos) (tMeth C m sp dvs E ta t) := by
  intro pins s σ H Q I h
  refine PySem.W.methodCall_KW (pl := pl) (thn (he pins s σ H _ I h) fun u s1 ⟨x, H1, I1, rx, a, dx, fs, ex, ea, l, q⟩ => ?_) ht
  subst ex
  obtain rfl : u = Value.ref a := rx
  refine getmeth_ok I1 ea c hm l ?_
  refine PySem.W.callWith_K (first := [.ref a]) (h₀ := X.base) I.ok.mod.kin hm.kp (thn (ha pos pins s1 σ H1 _ I1 q) fun us s2 ⟨vs, H2, I2, r, q2⟩ => ⟨I2.kIn, ?_⟩) hst hpl
  exact run_fn (us := .ref a :: us) (vs := .ref a :: vs) F hr hb hd hx I2 (.cons rfl r) q2
theorem pe_meth0 {pl : Sem Bool} (he : PE X o ta) (c : Cls X.K C) (hm : Meth X.K C m f) (F : FnOk X.prog X.w X.K X.mg X.base CX k f fd ps sp) (hr : Room k X.A) (hb : Binds X.K fd ps ds) (hd : Vals dvs ds) (hx : Passes CX X E)
    (ht : eval (.Call (.Attribute o m apos) [] [] pos) X.env = (do
      let ov ← eval o X.env
      standAt apos.atName
      let (f, first) ← holding [ov] (getMethod ov m pl)
      callWith pos f first (backTo pos (starEach [] X.env)) (backToKw pos (keywordEach [] X.env))) := by rfl) :
    PE X (.Call (.Attribute o m apos) [] [] pos) (tMeth C m sp dvs E ta tNil) := by
  intro pins s σ H Q I h
  refine PySem.W.methodCall_KW (pl := pl) (thn (he pins s σ H _ I h) fun u s1 ⟨x, H1, I1, rx, a, dx, fs, ex, ea, l, q⟩ => ?_) ht
  subst ex
  obtain rfl : u = Value.ref a := rx
  refine getmeth_ok I1 ea c hm l ?_
  exact PySem.W.callWith_K0 (first := [.ref a]) I1.kIn hm.kp (run_fn (us := [.ref a]) (vs := [.ref a]) F hr hb hd hx I1 (.cons rfl .nil) q)
structure Mk (K : PySem.W.Frag) (C f : Addr) : Prop where
  makes : PySem.W.makesIn K C = true
  init : PySem.W.findIn K (.ref C) "__init__" = some (some (.ref f))
  fn : PySem.W.isFn K (.ref f) = true
  kp : PySem.W.keepIn K (.ref C) = true
theorem run_make {pins : List (Addr × Obj)} {σ : St} {H : Hp} {s : Shared} {Q : VK} {us : List Value} {vs : List V} (M : Mk X.K C f) (F : FnOk X.prog X.w X.K X.mg X.base CX k f fd ps sp) (hr : Room (k + 1) X.A) (hb : Binds X.K fd ps ds) (hd : Vals dvs ds)
    (hx : Passes CX X E) (I : Inv X pins σ H s) (r : Vals vs us)
    (h : ∀ x dx, H x = none → H dx = none → dx ≠ x → sp (.ref x :: (vs ++ dvs)) (upd (upd H dx (.own x)) x (.ins C dx [])) (fun v H2 => v = .non ∧ Q (.ref x) H2) E) :
    wpAny (model X.prog X.w) X.A (call (.ref C) us) (EP X pins σ Q) X.xe s := by
  have hq := h (s.heap.objs.size + 1) s.heap.objs.size (I.hok.fresh (Nat.le_succ _)) (I.hok.fresh (Nat.le_refl _)) (Nat.ne_of_lt (Nat.lt_succ_self _))
  have I2 := Inv.made (C := C) I
  have r2 : Vals (V.ref (s.heap.objs.size + 1) :: (vs ++ dvs)) (Value.ref (s.heap.objs.size + 1) :: (us ++ ds)) := .cons rfl (r.append hd)
  have hl : (Value.ref (s.heap.objs.size + 1) :: us ++ ds).length = ps.length := by
    have e := r2.length
    rw [F.len _ _ _ _ hq] at e
    exact e.symm
  refine wpAny_call (make_map (f := f) I.kIn M.makes M.init (beq_iff_eq.mp M.fn) (codeAny_mono (F.run _ X.stack _ _ ⟨Value.ref (s.heap.objs.size + 1) :: us, []⟩ (Value.ref (s.heap.objs.size + 1) :: (us ++ ds)) _ _ E (hr.make C us [])
    (I2.env0.make C us []) (hb _ (Value.ref (s.heap.objs.size + 1) :: us) I2.kIn hl) r2 hq) fun r s' hq' => ?_))
  cases r with
  | error e => exact hx pins σ _ _ e s' I2 hq'
  | ok fl =>
    cases fl with
    | ret u =>
      obtain ⟨v, H', I3, rv, ev, q3⟩ := I2.after hq'
      subst ev
      exact ⟨rv, ⟨V.ref (s.heap.objs.size + 1), H', I3, rfl, q3⟩⟩
    | next => exact False.elim hq'
    | brk => exact False.elim hq'
    | cont => exact False.elim hq'
theorem pe_make (M : Mk X.K C f) (F : FnOk X.prog X.w X.K X.mg X.base CX k f fd ps sp) (hr : Room (k + 1) X.A) (hg : Gl X x) (hm : X.mg x = some (.ref C)) (hb : Binds X.K fd ps ds) (hd : Vals dvs ds) (hx : Passes CX X E)
    (ha : PA X (e :: es) t) (hdb : (x == ("__debug__" : Str)) = false := by decide) (he : starEach (e :: es) X.env = (false, eval e X.env) :: starEach es X.env := by rfl) (hpl : (backTo pos (starEach es X.env)).any (·.1) = false := by rfl) :
    PE X (.Call (.Name x p) (e :: es) [] pos) (tMake C sp dvs E t) := by
  intro pins s σ H Q I h
  refine wpAny_Call_Name_kw (ld_glob I hg hm ?_ hdb)
  refine PySem.W.callWith_K (h₀ := X.base) I.ok.mod.kin M.kp (thn (ha pos pins s σ H _ I h) fun us s1 ⟨vs, H1, I1, r, q⟩ => ⟨I1.kIn, ?_⟩) he hpl
  exact run_make M F hr hb hd hx I1 r q
end
section
variable {X : Cx} {CX : CXT} {k : Nat} {f C : Addr} {fd : FuncData} {ps ks : List Str} {sp : Sp} {E : XK} {x m : Str} {p pos apos kpos : Pos} {e o : Expr} {es : List Expr} {kws : List Keyword} {te ta : TE} {t tk : TA} {nm : Option Str}
variable {g : List Value → List Value → List Value} {gV : List V → List V → List V}
end
structure FnScope (N P : List Str) (sc : Scope) : Prop where
  kind : sc.kind = .function
  co : sc.isCoroutine = false
  gen : sc.isGenerator = false
  nd : N.Nodup
  pre : N.take P.length = P
  par : ∀ x ∈ P, sc.names.lookup x = some .local ∨ sc.names.lookup x = some .cell
  nofree : ∀ y ∈ sc.names, y.2 ≠ .free
theorem bindL_out {kindOf : Str → Option NameKind} {x : Str} : ∀ {binds : List (Str × Value)} {m : Str → Option Value}, (∀ v, (x, v) ∉ binds) → bindL kindOf binds m x = m x
  | [], _, _ => rfl
  | (n, v) :: r, m, h => by
    unfold bindL
    rw [bindL_out fun w hw => h w (List.mem_cons_of_mem _ hw)]
    split
    · have : x ≠ n := by rintro rfl; exact h v List.mem_cons_self
      simp [this]
    · rfl
theorem bindC_out {kindOf : Str → Option NameKind} {x : Str} : ∀ {binds : List (Str × Value)} {m : Str → Option Value}, (∀ v, (x, v) ∉ binds) → bindC kindOf binds m x = m x
  | [], _, _ => rfl
  | (n, v) :: r, m, h => by
    unfold bindC
    rw [bindC_out fun w hw => h w (List.mem_cons_of_mem _ hw)]
    split
    · rfl
    · have : x ≠ n := by rintro rfl; exact h v List.mem_cons_self
      simp [this]
theorem bindL_get {kindOf : Str → Option NameKind} {x : Str} {v : Value} : ∀ {P : List Str} {vs : List Value} {i : Nat} {m : Str → Option Value}, P.Nodup → P[i]? = some x → vs[i]? = some v → kindOf x = some .local →
    bindL kindOf (P.zip vs) m x = some v
  | [], _, _, _, _, h, _, _ => by simp at h
  | _ :: _, [], _, _, _, _, h, _ => by simp at h
  | p :: P, w :: vs, 0, m, nd, h1, h2, hk => by
    simp at h1 h2; subst h1; subst h2
    show bindL kindOf ((p, w) :: P.zip vs) m p = _
    unfold bindL
    rw [bindL_out fun v hv => (List.nodup_cons.mp nd).1 (List.of_mem_zip hv).1, if_pos hk]
    simp
  | p :: P, w :: vs, i + 1, m, nd, h1, h2, hk => by
    show bindL kindOf ((p, w) :: P.zip vs) m x = _
    unfold bindL
    exact bindL_get (i := i) (List.nodup_cons.mp nd).2 (by simpa using h1) (by simpa using h2) hk
theorem bindC_get {kindOf : Str → Option NameKind} {x : Str} {v : Value} : ∀ {P : List Str} {vs : List Value} {i : Nat} {m : Str → Option Value}, P.Nodup → P[i]? = some x → vs[i]? = some v → kindOf x ≠ some .local →
    bindC kindOf (P.zip vs) m x = some v
  | [], _, _, _, _, h, _, _ => by simp at h
  | _ :: _, [], _, _, _, _, h, _ => by simp at h
  | p :: P, w :: vs, 0, m, nd, h1, h2, hk => by
    simp at h1 h2; subst h1; subst h2
    show bindC kindOf ((p, w) :: P.zip vs) m p = _
    unfold bindC
    rw [bindC_out fun v hv => (List.nodup_cons.mp nd).1 (List.of_mem_zip hv).1, if_neg hk]
    simp
  | p :: P, w :: vs, i + 1, m, nd, h1, h2, hk => by
    show bindC kindOf ((p, w) :: P.zip vs) m x = _
    unfold bindC
    exact bindC_get (i := i) (List.nodup_cons.mp nd).2 (by simpa using h1) (by simpa using h2) hk
def start (N : List Str) (vs : List V) : St := vs.map some ++ List.replicate (N.length - vs.length) none
def cxOf (CX : CXT) (P : Program) (w : World) (K : PySem.W.Frag) (mg : Str → Option Value) (base : Heap) (N : List Str) (qual : Str) (scope : Scope) (f : Addr) (cd : Value) (A : Around) (outer : List Env) (s : Shared) (H : Hp) (E : XK) : Cx where
  prog := P
  w := w
  K := K
  mg := mg
  base := base
  A := A.deeper (envOfC qual scope s.heap.objs.size f cd)
  N := N
  s₀ := s
  H₀ := H
  env := envOfC qual scope s.heap.objs.size f cd
  outer := outer
  stack := envOfC qual scope s.heap.objs.size f cd :: outer
  ex := []
  calm := true
  fn := fun _ => true
  pn := []
  xe := fun e s' => wpAny (model P w) (A.deeper (envOfC qual scope s.heap.objs.size f cd)) (leaving (envOfC qual scope s.heap.objs.size f cd) e) (fun _ s'' => CX outer H s E e s'') (fun e' s'' => CX outer H s E e' s'') s'
theorem cell_has {sc : Scope} {n : Nat} {x : Str} (h : sc.names.lookup x = some .cell) : ∃ c, (cellsFrom n sc.names []).lookup x = some c := by
  have q := PySem.W.cellsFrom_some sc.names n [] (.inl h)
  exact Option.isSome_iff_exists.mp q
theorem inv_start {CX : CXT} {P : Program} {w : World} {K : PySem.W.Frag} {mg : Str → Option Value} {base : Heap} {N ps : List Str} {qual : Str} {scope : Scope} {f : Addr} {cd : Value} {A : Around} {outer : List Env} {s s1 : Shared} {H : Hp} {E : XK} {us : List Value} {vs : List V}
    (S : FnScope N ps scope) (hd : A.handled = none) (e0 : Env0 P w K mg base A outer s H) (hl : vs.length = ps.length) (r : Vals vs us)
    (x : InCallC s s.heap.objs.size (bindL (envOfC qual scope s.heap.objs.size f cd).kindOf (ps.zip us) fun _ => none) (cellsFrom (s.heap.objs.size + 1) scope.names []) (bindC (envOfC qual scope s.heap.objs.size f cd).kindOf (ps.zip us) fun _ => none) s1) :
    Inv (cxOf CX P w K mg base N qual scope f cd A outer s H E) [] (start N vs) H s1 := by
  have hpl : ps.length ≤ N.length := by have := congrArg List.length S.pre; rw [List.length_take] at this; omega
  obtain ⟨h1, tk, rfl, hk⟩ := x.done
  have noA : ∀ b : Addr, b ∉ (cxOf CX P w K mg base N qual scope f cd A outer s H E).ex := fun b z => absurd (show b ∈ ([] : List Addr) from z) (by simp)
  refine ⟨⟨e0.mod, S.kind, rfl, rfl, Nat.le_refl _, fun y z c h1 h2 => ?_, fun y hy => ?_, fun y c _ h => ?_, fun _ => hd, Around.frames_deeper e0.frames, .inr ⟨rfl, rfl⟩, fun b z => absurd z (noA b), e0.bs, e0.bsz, fun b _ _ => noA b, fun b z => absurd z (noA b), e0.funs, e0.frf⟩,
    rfl, e0.bare, Un.kept hk, ⟨_, x.toInCall.ns, fun i y v h1 h2 h3 => ?_⟩, fun y c h => ⟨_, x.cell y c h⟩, e0.hok.fresh (Nat.le_refl _), fun y c h => ?_, fun p hp => absurd (show p ∈ ([] : List (Addr × Obj)) from hp) (by simp), e0.hok.kept hk, ?_⟩
  · exact name_of_addr x.apart (PySem.mem_of_lookup h1) (PySem.mem_of_lookup h2)
  · have hy : scope.names.lookup y = some .cell ∨ scope.names.lookup y = some .free := hy
    rcases hy with hy | hy
    · exact cell_has hy
    · exact absurd rfl (S.nofree _ (PySem.mem_of_lookup hy))
  · exact Nat.le_of_lt (x.above y c (PySem.mem_of_lookup h))
  · have hi : i < vs.length := by
      unfold start at h2
      by_cases hi : i < vs.length
      · exact hi
      · rw [List.getElem?_append_right (by simpa using hi)] at h2
        rw [List.getElem?_replicate] at h2
        split at h2 <;> cases h2
    have ha : vs[i]? = some v := by
      unfold start at h2
      rw [List.getElem?_append_left (by simpa using hi), List.getElem?_map] at h2
      cases e : vs[i]? with
      | none => rw [e] at h2; cases h2
      | some a => rw [e] at h2; cases h2; rfl
    obtain ⟨u, hu, rv⟩ := r.get ha
    have hp : ps[i]? = some y := by
      rw [← S.pre, List.getElem?_take_of_lt (by omega)]; exact h1
    have ndP : ps.Nodup := by rw [← S.pre]; exact S.nd.sublist (List.take_sublist _ _)
    refine ⟨u, rv, ?_⟩
    rcases S.par y (List.mem_of_getElem? hp) with k | k
    · exact .inl ⟨k, bindL_get ndP hp hu k⟩
    · obtain ⟨c, e⟩ := cell_has (n := s.heap.objs.size + 1) k
      refine .inr ⟨.inl k, c, e, ?_⟩
      have q := x.cell y c e
      rw [bindC_get ndP hp hu (by show scope.names.lookup y ≠ _; rw [k]; decide)] at q
      exact q
  · exact e0.hok.fresh (Nat.le_of_lt (x.above y c (PySem.mem_of_lookup h)))
  · unfold start
    show _ = N.length
    rw [List.length_append, List.length_map, List.length_replicate]
    omega
theorem fn_of {CX : CXT} {P : Program} {w : World} {K : PySem.W.Frag} {mg : Str → Option Value} {base : Heap} {k : Nat} {f : Addr} {name qual : Str} {params : Arguments} {body : List Stmt} {scope : Scope} {dV kV doc pm cdv ct oc : Value} {an od : Option Addr}
    {osl : Array (Option Value)} {N ps : List Str} {sp : Sp} (lk : K.lookup f = some ⟨oc, od, .func (PySem.W.fnOf name qual params body scope dV kV doc pm an cdv ct), osl⟩) (hcd : PySem.W.codeIn K cdv qual = true) (S : FnScope N ps scope)
    (len : ∀ vs H Q E, sp vs H Q E → vs.length = ps.length)
    (hbody : ∀ (A : Around) (outer : List Env) (s : Shared) (H : Hp) (vs : List V) (Q : VK) (E : XK), Room k (A.deeper (envOfC qual scope s.heap.objs.size f cdv)) → sp vs H Q E →
      ∃ t, PSs (cxOf CX P w K mg base N qual scope f cdv A outer s H E) body t ∧ t { nx := fun _ H' => Q .non H', rt := Q } (start N vs) H) :
    FnOk P w K mg base CX (k + 1) f (PySem.W.fnOf name qual params body scope dV kV doc pm an cdv ct) ps sp := by
  refine ⟨len, fun A outer s H args us vs Q E hr e0 hb r hsp => ?_⟩
  have hl := len _ _ _ _ hsp
  have KX : K.In s.heap := e0.mod.kin.keeps fun b o e => (e0.bs b o e).1
  have lim : s.heap.NoLimit := e0.mod.nolimit.keeps fun b o e => (e0.bs b o e).1
  have hkind : ∀ y ∈ ps.zip us, scope.names.lookup y.1 = some .local ∨ (scope.names.lookup y.1 = some .cell ∧ ((cellsFrom (s.heap.objs.size + 1) scope.names []).lookup y.1).isSome = true) := fun ⟨n, v⟩ hy => by
    rcases S.par n (List.of_mem_zip hy).1 with q | q
    · exact .inl q
    · exact .inr ⟨q, PySem.W.cellsFrom_some _ _ _ (.inl q)⟩
  refine codeAny_call_function hr.depth (KX _ _ lk) rfl S.co S.gen rfl (PySem.W.codeRec_of KX hcd) (hb _ _ _ _ ?_)
  refine wpAny_newFunctionEnv_cells S.kind hkind fun env he s1 x => ?_
  subst he
  refine ⟨lim.keeps x.toInCall.keep, codeAny_func ?_⟩
  obtain ⟨t, ht, hq⟩ := hbody A outer s H vs Q E (hr.deeper _) hsp
  have I : Inv (cxOf CX P w K mg base N qual scope f cdv A outer s H E) [] (start N vs) H s1 := inv_start S hr.hd e0 hl r x
  refine wpAny_mono (ht [] s1 (start N vs) H _ I hq) (fun fl s' hs => ?_) fun e s' hs => hs
  have fin : ∀ {σ' : St} {H' : Hp} {v : V} {u : Value}, Inv (cxOf CX P w K mg base N qual scope f cdv A outer s H E) [] σ' H' s' → RelV v u → Q v H' → CE outer P w H s Q u s' :=
    fun {σ' H' v u} J rv q => ⟨v, H', J.os, J.bare, J.base, J.hok, rv, q⟩
  cases fl with
  | ret u =>
    obtain ⟨v, σ', H', J, rv, q⟩ := hs
    exact fin J rv q
  | next =>
    obtain ⟨σ', H', J, q⟩ := hs
    exact fin (v := V.non) (u := Value.none) J rfl q
  | brk =>
    obtain ⟨_, _, _, q⟩ := hs
    exact False.elim q
  | cont =>
    obtain ⟨_, _, _, q⟩ := hs
    exact False.elim q
end L2
namespace L2
open PySem PySem.Spec PyProof.Rows
section
variable {X : Cx} {x : Str} {p pos : Pos} {e : Expr} {es : List Expr} {t : TA} {id T : String} {r : List V → Hp → VK → Prop}
def tCB (r : List V → Hp → VK → Prop) (t : TA) : TE := fun σ H Q => t σ H fun vs H1 => r vs H1 Q
theorem pe_callB (hc : CallR X (.builtin id) r) (hg : Gl X x) (hm : X.mg x = none) (hv : bootBuiltins x = some (.builtin id)) (ha : PA X (e :: es) t) (hn : x ≠ "__name__" := by decide) (hdb : (x == ("__debug__" : Str)) = false := by decide)
    (he : starEach (e :: es) X.env = (false, eval e X.env) :: starEach es X.env := by rfl) (hpl : (backTo pos (starEach es X.env)).any (·.1) = false := by rfl) : PE X (.Call (.Name x p) (e :: es) [] pos) (tCB r t) := by
  intro pins s σ H Q I h
  refine wpAny_Call_Name_kw (ld_blt I hg hm hv ?_ hn hdb)
  exact PyProof.Rows.callWith_builtin1 (thn (ha pos pins s σ H _ I h) fun us s1 ⟨vs, H1, I1, r1, q1⟩ => hc pins s1 σ H1 vs us Q I1 r1 q1) he hpl
theorem pe_callTy (hc : CallR X (.type T) r) (hg : Gl X x) (hm : X.mg x = none) (hv : bootBuiltins x = some (.type T)) (ha : PA X (e :: es) t) (hn : x ≠ "__name__" := by decide) (hdb : (x == ("__debug__" : Str)) = false := by decide)
    (he : starEach (e :: es) X.env = (false, eval e X.env) :: starEach es X.env := by rfl) (hpl : (backTo pos (starEach es X.env)).any (·.1) = false := by rfl) : PE X (.Call (.Name x p) (e :: es) [] pos) (tCB r t) := by
  intro pins s σ H Q I h
  refine wpAny_Call_Name_kw (ld_blt I hg hm hv ?_ hn hdb)
  exact PyProof.Rows.callWith_type1 (thn (ha pos pins s σ H _ I h) fun us s1 ⟨vs, H1, I1, r1, q1⟩ => hc pins s1 σ H1 vs us Q I1 r1 q1) he hpl
end
end L2
namespace HT
open PySem PyProof.Rows
section
open PySem.SeqAt
open PySem.AutoSeq1 (wpAny_loadPart')
open PySem.MeetsSeq PySem.MeetsSeq2 PySem.MeetsSeq3
end
section
variable {prog : Program} {w : World} {A : Around} {E : Value → Shared → Prop} {s : Shared}
end
end HT
namespace L2
open PySem PySem.Spec PyProof.Rows
section
variable {X : Cx} {e : Expr} {te : TE} {lo hi : Option Expr} {tl th : TO} {pos p2 : Pos}
end
end L2
namespace L2
open PySem PySem.Spec PyProof.Rows
def ixN (n : Nat) (i : Int) : Option Nat := if 0 ≤ i then (if i < n then some i.toNat else none) else if -(n : Int) ≤ i then some (i + n).toNat else none
def atI {α : Type} (xs : List α) (i : Int) : Option α := (ixN xs.length i).bind fun j => xs[j]?
theorem ixN_seq {n : Nat} {i : Int} {j : Nat} (h : ixN n i = some j) : seqIndex? i n = some j ∧ j < n ∧ -(n : Int) ≤ i ∧ i < n := by
  unfold ixN at h
  by_cases h0 : 0 ≤ i
  · rw [if_pos h0] at h
    by_cases h1 : i < n
    · rw [if_pos h1] at h
      have e : i.toNat = j := Option.some.inj h
      exact ⟨by rw [seqIndex_of h0 h1, e], by omega, by omega, h1⟩
    · rw [if_neg h1] at h; cases h
  · rw [if_neg h0] at h
    by_cases h1 : -(n : Int) ≤ i
    · rw [if_pos h1] at h
      have e : (i + n).toNat = j := Option.some.inj h
      exact ⟨by rw [seqIndex_neg (by omega) h1, e], by omega, h1, by omega⟩
    · rw [if_neg h1] at h; cases h
theorem atI_get {α : Type} {xs : List α} {i : Int} {v : α} (h : atI xs i = some v) : ∃ j, seqIndex? i xs.length = some j ∧ xs[j]? = some v ∧ j < xs.length ∧ -(xs.length : Int) ≤ i ∧ i < xs.length := by
  unfold atI at h
  cases e : ixN xs.length i with
  | none => rw [e] at h; cases h
  | some j =>
    rw [e] at h
    obtain ⟨h1, h2, h3, h4⟩ := ixN_seq e
    exact ⟨j, h1, h, h2, h3, h4⟩
theorem atI_nat {α : Type} {xs : List α} {j : Nat} {v : α} (h : xs[j]? = some v) : atI xs (j : Int) = some v := by
  have hj : j < xs.length := (List.getElem?_eq_some_iff.mp h).1
  have e : ixN xs.length (j : Int) = some j := by
    unfold ixN
    rw [if_pos (by omega), if_pos (by omega)]; simp
  unfold atI; rw [e]; exact h
def PlainIx (b : Expr) : Prop := ∀ o i, subscripted b false o i = operate [o, i] (getItem o i)
def IxR (X : Cx) (r : R2) : Prop :=
  ∀ (value slice : Expr) (pins : List (Addr × Obj)) (s : Shared) (σ : St) (H : Hp) (x y : V) (v u : Value) (Q : VK), Inv X pins σ H s → RelV x v → RelV y u → r x y H Q →
    subscripted slice false v u = operate [v, u] (getItem v u) → wpAny (model X.prog X.w) X.A (subscriptTail value slice v u) (EP X pins σ Q) X.xe s
def MtR (X : Cx) (id : String) (r : V → List V → Hp → VK → Prop) : Prop :=
  ∀ (pins : List (Addr × Obj)) (s : Shared) (σ : St) (H : Hp) (x : V) (xs : List V) (v : Value) (us : List Value) (Q : VK), Inv X pins σ H s → RelV x v → Vals xs us → r x xs H Q →
    wpAny (model X.prog X.w) X.A (call (.builtin id) (v :: us)) (EP X pins σ Q) X.xe s
section
variable {X : Cx} {a b : Expr} {ta tb : TE} {pos : Pos}
theorem pe_ix {r : R2} (hr : IxR X r) (ha : PE X a ta) (hb : PE X b tb) (hs : PlainIx b) : PE X (.Subscript a b pos) (tOp r ta tb) := by
  intro pins s σ H Q I h
  exact Subscript_ (binT ha hb I h fun v u s2 x y H2 I2 rx ry q => hr a b pins s2 σ H2 x y v u Q I2 rx ry q (hs _ _))
def rIxL (K : PySem.W.Frag) : R2 := fun x y H Q => ∃ p xs i v, x = .ref p ∧ y = .int i ∧ SqL K H p xs ∧ atI xs i = some v ∧ Q v H
def rIxT (K : PySem.W.Frag) : R2 := fun x y H Q => ∃ p xs i v, x = .ref p ∧ y = .int i ∧ SqT K H p xs ∧ atI xs i = some v ∧ Q v H
def rIxS : R2 := fun x y H Q => ∃ z i c, x = .str z ∧ y = .int i ∧ z.length ≤ sizeLine ∧ atI z.cps.toList i = some c ∧ Q (.str ⟨#[c]⟩) H
theorem ix_list : IxR X (rIxL X.K) := by
  intro value slice pins s σ H x y v u Q I rx ry h hs
  obtain ⟨p, xs, i, z, rfl, rfl, hq, he, q⟩ := h
  cases rx
  obtain ⟨t, rfl⟩ := ry
  obtain ⟨its, r, pl, hz⟩ := I.list hq
  obtain ⟨j, h1, h2, h3, h4, h5⟩ := atI_get he
  obtain ⟨w, ew, rw'⟩ := r.get h2
  have hl := r.length
  have hn := line63
  have fin : EP X pins σ Q w s := ⟨z, H, I, rw', q⟩
  by_cases h0 : 0 ≤ i
  · have hj : i.toNat = j := by
      rw [seqIndex_of h0 h5] at h1
      exact Option.some.inj h1
    exact item_listR pl.isList h0 (by omega) (by rw [hj]; simpa using ew) fin hs
  · have hj : (i + (its.toArray.size : Int)).toNat = j := by
      rw [seqIndex_neg (by omega) h4] at h1
      rw [List.size_toArray, ← hl]
      exact Option.some.inj h1
    exact subscriptTail_builtinR (x := w) pl.isList.typeIs slot_list_getitem.lookup
      (wpAny_getItem_list_neg (Q := fun r s' => r = w ∧ EP X pins σ Q r s') pl.isList (by omega) (by rw [List.size_toArray] <;> omega) (by omega) (by rw [hj]; simpa using ew) ⟨rfl, fin⟩) hs
theorem ix_tup : IxR X (rIxT X.K) := by
  intro value slice pins s σ H x y v u Q I rx ry h hs
  obtain ⟨p, xs, i, z, rfl, rfl, hq, he, q⟩ := h
  cases rx
  obtain ⟨t, rfl⟩ := ry
  obtain ⟨its, r, pl, hz⟩ := I.tuple hq
  obtain ⟨j, h1, h2, h3, h4, h5⟩ := atI_get he
  obtain ⟨w, ew, rw'⟩ := r.get h2
  have hl := r.length
  have hn := line63
  have fin : EP X pins σ Q w s := ⟨z, H, I, rw', q⟩
  exact subscriptTail_builtinR (x := w) pl.typeIs slot_tuple_getitem.lookup
    (getItem_tuple (j := j) (Q := fun r s' => r = w ∧ EP X pins σ Q r s') pl (by omega) (by omega) (by rw [List.size_toArray, ← hl]; exact h1) (by simpa using ew) ⟨rfl, fin⟩) hs
theorem ix_str : IxR X rIxS := by
  intro value slice pins s σ H x y v u Q I rx ry h hs
  obtain ⟨z, i, c, rfl, rfl, hz, he, q⟩ := h
  obtain ⟨t, rfl⟩ := rx
  obtain ⟨t', rfl⟩ := ry
  obtain ⟨j, h1, h2, h3, h4, h5⟩ := atI_get he
  have hl : z.cps.toList.length = z.length := by simp [Str.length]
  rw [hl] at h1 h4 h5
  have hn := line63
  exact tail_any (typeIs_str s z t) slot_str_getitem.lookup (getItem_str (c := c) (by
    have e1 : decide (i < -(2 ^ 63 : Int)) = false := decide_eq_false (by omega)
    have e2 : decide (i ≥ 2 ^ 63) = false := decide_eq_false (by omega)
    rw [e1, e2, Bool.or_false]) (by rw [h1]; simpa using h2) ⟨.str ⟨#[c]⟩, H, I.tok _, ⟨_, rfl⟩, q⟩) hs
def flatV : V → Bool
  | .non => true
  | .bl _ => true
  | .int _ => true
  | .str _ => true
  | _ => false
def eqV : V → V → Bool
  | .non, .non => true
  | .bl a, .bl b => a == b
  | .bl a, .int b => (if a then 1 else 0) == b
  | .int a, .bl b => a == (if b then 1 else 0)
  | .int a, .int b => a == b
  | .str a, .str b => a == b
  | _, _ => false
theorem eqAt_V {A : Around} {s : Shared} {y x : V} {u v : Value} (ry : RelV y u) (rx : RelV x v) (fy : flatV y = true) (fx : flatV x = true) : SeqAt.EqAt A s u v (eqV y x) := by
  cases y with
  | non =>
    cases ry
    cases x with
    | non => cases rx; exact SeqAt.EqAt.same _
    | bl b => cases rx; exact SeqAt.EqAt.none_bool b
    | int b => obtain ⟨t, rfl⟩ := rx; exact SeqAt.EqAt.none_int b t
    | str b => obtain ⟨t, rfl⟩ := rx; exact SeqAt.EqAt.none_str b t
    | _ => exact absurd (show false = true from fx) Bool.false_ne_true
  | bl a =>
    cases ry
    cases x with
    | non => cases rx; exact SeqAt.EqAt.bool_none a
    | bl b => cases rx; exact SeqAt.EqAt.bool_bool a b
    | int b => obtain ⟨t, rfl⟩ := rx; exact SeqAt.EqAt.bool_int a b t
    | str b => obtain ⟨t, rfl⟩ := rx; exact SeqAt.EqAt.bool_str a b t
    | _ => exact absurd (show false = true from fx) Bool.false_ne_true
  | int a =>
    obtain ⟨t', rfl⟩ := ry
    cases x with
    | non => cases rx; exact SeqAt.EqAt.int_none a t'
    | bl b => cases rx; exact SeqAt.EqAt.int_bool a t' b
    | int b => obtain ⟨t, rfl⟩ := rx; exact SeqAt.EqAt.int_int a t' b t
    | str b => obtain ⟨t, rfl⟩ := rx; exact SeqAt.EqAt.int_str a t' b t
    | _ => exact absurd (show false = true from fx) Bool.false_ne_true
  | str a =>
    obtain ⟨t', rfl⟩ := ry
    cases x with
    | non => cases rx; exact SeqAt.EqAt.str_none a t'
    | bl b => cases rx; exact SeqAt.EqAt.str_bool a t' b
    | int b => obtain ⟨t, rfl⟩ := rx; exact SeqAt.EqAt.str_int a t' b t
    | str b => obtain ⟨t, rfl⟩ := rx; exact SeqAt.EqAt.str_str a t' b t
    | _ => exact absurd (show false = true from fx) Bool.false_ne_true
  | _ => exact absurd (show false = true from fy) Bool.false_ne_true
def eqU (x : V) (u : Value) : Bool := match u with
  | .none => eqV .non x
  | .bool b => eqV (.bl b) x
  | .int i _ => eqV (.int i) x
  | .str z _ => eqV (.str z) x
  | _ => false
theorem eqU_of {x y : V} {u : Value} (r : RelV y u) (f : flatV y = true) : eqU x u = eqV y x := by
  cases y with
  | non => cases r; rfl
  | bl b => cases r; rfl
  | int i => obtain ⟨t, rfl⟩ := r; rfl
  | str z => obtain ⟨t, rfl⟩ := r; rfl
  | _ => exact absurd (show false = true from f) Bool.false_ne_true
theorem any_eqU {x : V} : ∀ {xs : List V} {us : List Value}, Vals xs us → xs.all flatV = true → us.any (eqU x) = xs.any fun y => eqV y x
  | _, _, .nil, _ => rfl
  | y :: xs, u :: us, .cons r t, f => by
    rw [List.all_cons, Bool.and_eq_true] at f
    rw [List.any_cons, List.any_cons, eqU_of r f.1, any_eqU t f.2]
theorem mem_eqAt {A : Around} {s : Shared} {x : V} {v : Value} (rx : RelV x v) (fx : flatV x = true) : ∀ {xs : List V} {us : List Value}, Vals xs us → xs.all flatV = true → ∀ u ∈ us, SeqAt.EqAt A s u v (eqU x u)
  | _, _, .nil, _ => fun u hu => by cases hu
  | y :: xs, u :: us, .cons r t, f => fun u' hu => by
    rw [List.all_cons, Bool.and_eq_true] at f
    rcases List.mem_cons.mp hu with rfl | hu
    · rw [eqU_of r f.1]; exact eqAt_V r rx f.1 fx
    · exact mem_eqAt rx fx t f.2 u' hu
def inV (x : V) (xs : List V) : Bool := xs.any fun y => eqV y x
def rIn (K : PySem.W.Frag) (neg : Bool) : R2 := fun x y H Q => ∃ p xs, y = .ref p ∧ (SqL K H p xs ∨ SqT K H p xs) ∧ flatV x = true ∧ xs.all flatV = true ∧ Q (.bl (if neg then !inV x xs else inV x xs)) H
theorem op_in_seq : OpR X (compareOp .In) (rIn X.K false) := by
  intro pins s σ H x y v u Q I rx ry h
  obtain ⟨p, xs, rfl, hq, fx, fs, q⟩ := h
  cases ry
  rcases hq with hq | hq
  · obtain ⟨its, r, pl, hz⟩ := I.list hq
    refine SeqAt.in_listAt (eqU x) pl.isList (fun w hw => mem_eqAt rx fx r fs w (by simpa using hw)) ⟨.bl _, H, I, rfl, ?_⟩
    rw [show its.toArray.any (eqU x) = its.any (eqU x) by simp, any_eqU r fs]
    exact q
  · obtain ⟨its, r, pl, hz⟩ := I.tuple hq
    refine SeqAt.in_tupleAt (eqU x) pl (fun w hw => mem_eqAt rx fx r fs w (by simpa using hw)) ⟨.bl _, H, I, rfl, ?_⟩
    rw [show its.toArray.any (eqU x) = its.any (eqU x) by simp, any_eqU r fs]
    exact q
theorem call_len_seq : CallR X (.builtin "len") (fun xs H Q => ∃ p ys, xs = [.ref p] ∧ (SqL X.K H p ys ∨ SqT X.K H p ys) ∧ Q (.int ys.length) H) := by
  intro pins s σ H xs us Q I r h
  obtain ⟨p, ys, rfl, hq, q⟩ := h
  obtain ⟨u, rfl, rx⟩ := vals1 r
  cases rx
  have hn := line63
  rcases hq with hq | hq
  · obtain ⟨its, r', pl, hz⟩ := I.list hq
    have hlen := r'.length
    exact Calls.call_len_list pl.isList (by simp only [List.size_toArray] <;> omega) ⟨.int ys.length, H, I.tok _, ⟨s.toks + 1, by rw [List.size_toArray, hlen]⟩, q⟩
  · obtain ⟨its, r', pl, hz⟩ := I.tuple hq
    have hlen := r'.length
    exact len_tuple pl (by simp only [List.size_toArray] <;> omega) ⟨.int ys.length, H, I.tok _, ⟨s.toks + 1, by rw [List.size_toArray, hlen]⟩, q⟩
theorem call_list_of : CallR X (.type "list") (fun xs H Q => ∃ p ys, xs = [.ref p] ∧ (SqL X.K H p ys ∨ SqT X.K H p ys) ∧ ∀ l, H l = none → Q (.ref l) (upd H l (.lst ys))) := by
  intro pins s σ H xs us Q I r h
  obtain ⟨p, ys, rfl, hq, q⟩ := h
  obtain ⟨u, rfl, rx⟩ := vals1 r
  cases rx
  have fin : ∀ (its : List Value), Vals ys its → ys.length ≤ sizeLine → ∀ (h' : Heap) (c' : Nat), (∀ b o', s.heap.get? b = some o' → h'.get? b = some o') →
      h'.get? s.heap.objs.size = some { cls := .type "list", dict := none, data := .seq its.toArray c', slots := #[] } → EP X pins σ Q (.ref s.heap.objs.size) { s with heap := h' } := fun its r' hz h' c' kp e =>
    ⟨.ref s.heap.objs.size, _, I.laid (t' := s.toks) kp (Nat.le_refl _) (show ObjOk X.prog X.w _ h' _ (.lst ys) from ⟨hz, its, c', r', e⟩), rfl, q _ (I.hok.fresh (Nat.le_refl _))⟩
  rcases hq with hq | hq
  · obtain ⟨its, r', pl, hz⟩ := I.list hq
    have hlen := r'.length
    obtain ⟨o, ho, hc, n, hd⟩ := pl.isList
    exact call_list_seq p (.inl rfl) ho hc hd (fun h' c' kp e => fin its r' hz h' c' kp e) (by simp only [List.size_toArray] <;> omega)
  · obtain ⟨its, r', pl, hz⟩ := I.tuple hq
    have hlen := r'.length
    obtain ⟨o, ho, hc, n, hd⟩ := pl
    exact call_list_seq p (.inr rfl) ho hc hd (fun h' c' kp e => fin its r' hz h' c' kp e) (by simp only [List.size_toArray] <;> omega)
theorem call_tuple_of : CallR X (.type "tuple") (fun xs H Q => ∃ p ys, xs = [.ref p] ∧ ((SqL X.K H p ys ∧ ∀ l, H l = none → Q (.ref l) (upd H l (.tup ys))) ∨ (SqT X.K H p ys ∧ Q (.ref p) H))) := by
  intro pins s σ H xs us Q I r h
  obtain ⟨p, ys, rfl, h⟩ := h
  obtain ⟨u, rfl, rx⟩ := vals1 r
  cases rx
  rcases h with ⟨hq, q⟩ | ⟨hq, q⟩
  · obtain ⟨its, r', pl, hz⟩ := I.list hq
    have hlen := r'.length
    refine call_tuple_list pl.isList (fun h' kp => ?_) (by simp only [List.size_toArray] <;> omega)
    have I1 : Inv X pins σ H { s with heap := h' } := I.kept (t' := s.toks) kp
    have I2 : Inv X pins σ (upd H h'.objs.size (.tup ys)) { s with heap := h'.push { cls := .type "tuple", data := .seq its.toArray } } :=
      I1.laid (t' := s.toks) (fun b o e => Heap.get?_push_of_some _ e) (Nat.le_refl _) (show ObjOk X.prog X.w _ _ _ (.tup ys) from ⟨hz, its, r', IsTup.new _ _⟩)
    exact ⟨.ref h'.objs.size, _, I2, rfl, q _ (I1.hok.fresh (Nat.le_refl _))⟩
  · obtain ⟨its, r', pl, hz⟩ := I.tuple hq
    exact call_tuple_same pl ⟨.ref p, H, I, rfl, q⟩
def tyV (K : PySem.W.Frag) (T : String) (x : V) (H : Hp) : Prop := match x with
  | .str _ => T = "str"
  | .int _ => T = "int"
  | .ref p => (T = "list" ∧ ∃ xs, SqL K H p xs) ∨ (T = "tuple" ∧ ∃ o, K.lookup p = some o ∧ o.cls = .type "tuple" ∧ o.dict = none) ∨
      (T = "dict" ∧ ((∃ kvs, H p = some (.dK kvs)) ∨ ∃ kvs, H p = some (.dT kvs))) ∨ (T = "set" ∧ ∃ S n, H p = some (.set S n))
  | _ => False
theorem tyV_is {pins : List (Addr × Obj)} {σ : St} {H : Hp} {s : Shared} {T : String} {x : V} {v : Value} (I : Inv X pins σ H s) (r : RelV x v) (ty : tyV X.K T x H) :
    s.TypeIs v T ∧ ∀ a, v = .ref a → ∃ ob, s.heap.get? a = some ob ∧ ob.dict = none := by
  cases x with
  | str z =>
    obtain ⟨t, rfl⟩ := r
    cases (show T = "str" from ty)
    exact ⟨typeIs_str s z t, fun _ e => nomatch e⟩
  | int i =>
    obtain ⟨t, rfl⟩ := r
    cases (show T = "int" from ty)
    exact ⟨typeIs_int s i t, fun _ e => nomatch e⟩
  | ref p =>
    cases r
    rcases ty with ⟨rfl, xs, hq⟩ | ⟨rfl, o, hk, hc, hd⟩ | ⟨rfl, hk⟩ | ⟨rfl, S, n, hk⟩
    · obtain ⟨its, _, pl, _⟩ := I.list hq
      refine ⟨pl.isList.typeIs, fun a e => ?_⟩
      cases e
      obtain ⟨o, n, e, c, hd, _⟩ := pl
      exact ⟨o, e, hd⟩
    · refine ⟨⟨o, I.kIn p o hk, hc⟩, fun a e => ?_⟩
      cases e
      exact ⟨o, I.kIn _ o hk, hd⟩
    · have z : ∃ o, s.heap.get? p = some o ∧ o.ExactDict := by
        rcases hk with ⟨kvs, hk⟩ | ⟨kvs, hk⟩
        · obtain ⟨_, _, _, _, o, _, _, e, ex, _⟩ := I.hok p _ hk
          exact ⟨o, e, ex⟩
        · obtain ⟨_, _, _, _, o, _, _, e, ex, _⟩ := I.hok p _ hk
          exact ⟨o, e, ex⟩
      obtain ⟨o, e, ex⟩ := z
      refine ⟨⟨o, e, ex.1⟩, fun a e2 => ?_⟩
      cases e2
      exact ⟨o, e, ex.2.1⟩
    · obtain ⟨o, _, _, _, e, ex, _⟩ := I.hok p _ hk
      refine ⟨⟨o, e, ex.1⟩, fun a e2 => ?_⟩
      cases e2
      exact ⟨o, e, ex.2.1⟩
  | _ => exact False.elim ty
def tBM0 (K : PySem.W.Frag) (T : String) (r : V → List V → Hp → VK → Prop) (to : TE) : TE := fun σ H Q => to σ H fun x H1 => tyV K T x H1 ∧ r x [] H1 Q
def tBM (K : PySem.W.Frag) (T : String) (r : V → List V → Hp → VK → Prop) (to : TE) (t : TA) : TE := fun σ H Q => to σ H fun x H1 => tyV K T x H1 ∧ t σ H1 fun xs H2 => r x xs H2 Q
variable {o e : Expr} {es : List Expr} {to : TE} {t : TA} {name : Str} {apos cpos : Pos} {T id : String} {r : V → List V → Hp → VK → Prop}
theorem pe_bm0 (pa : PlainAttrs T) (slot : Slot T name id) (hty : typeOf (.builtin id) = pure (.type "method_descriptor")) (hm : MtR X id r) (ho : PE X o to)
    (hbase : attributeBase o name X.env (eval o X.env) = eval o X.env := by rfl) (hline : (apos.endLine == cpos.line) = true := by rfl) : PE X (.Call (.Attribute o name apos) [] [] cpos) (tBM0 X.K T r to) := by
  intro pins s σ H Q I h
  refine wpAny_Call_method0_late hbase hline (thn (ho pins s σ H _ I h) fun v s1 ⟨x, H1, I1, r1, ty, q1⟩ => ?_)
  obtain ⟨h1, h2⟩ := tyV_is I1 r1 ty
  exact ⟨T, id, pa, slot, hty, h1, h2, Calls.callWith_builtin rfl (PySem.evalArgs_none (hm pins s1 σ H1 x [] v [] Q I1 r1 .nil q1))⟩
theorem pe_bm (pa : PlainAttrs T) (slot : Slot T name id) (hty : typeOf (.builtin id) = pure (.type "method_descriptor")) (hm : MtR X id r) (ho : PE X o to) (ha : PA X (e :: es) t)
    (hbase : attributeBase o name X.env (eval o X.env) = eval o X.env := by rfl)
    (hfew : ((backTo cpos (starEach (e :: es) X.env)).all (fun x => !x.1) && (backToKw cpos (keywordEach [] X.env)).all (fun x => x.1.isSome)
      && decide ((e :: es).length + ([] : List Keyword).length + (if ([] : List Keyword).isEmpty then 0 else 1) < 30)) = true := by rfl)
    (hline : (apos.endLine == cpos.line) = true := by rfl) (hs : starEach (e :: es) X.env = (false, eval e X.env) :: starEach es X.env := by rfl) (hplain : (backTo cpos (starEach es X.env)).any (·.1) = false := by rfl) :
    PE X (.Call (.Attribute o name apos) (e :: es) [] cpos) (tBM X.K T r to t) := by
  intro pins s σ H Q I h
  refine wpAny_Call_method_late hbase hfew hline rfl (thn (ho pins s σ H _ I h) fun v s1 ⟨x, H1, I1, r1, ty, q1⟩ => ?_)
  obtain ⟨h1, h2⟩ := tyV_is I1 r1 ty
  refine ⟨T, id, pa, slot, hty, h1, h2, ?_⟩
  have hA := ha cpos pins s1 σ H1 _ I1 q1
  rw [hs] at hA ⊢
  refine Calls.callWith_builtin (by show (false || (backTo cpos (starEach es X.env)).any (·.1)) = false; rw [hplain] <;> rfl) (Calls.evalArgs_plain ?_)
  exact thn hA fun us s2 ⟨vs, H2, I2, r2, q2⟩ => hm pins s2 σ H2 x vs v us Q I2 r1 r2 q2
end
end L2
namespace L2
open PySem PySem.Spec PyProof.Rows
def MtM (X : Cx) (id : String) (r : V → List V → Hp → VK → Prop) : Prop :=
  ∀ (pins : List (Addr × Obj)) (s : Shared) (σ : St) (H : Hp) (x : V) (xs : List V) (v : Value) (us : List Value) (Q : VK), Inv X pins σ H s → RelV x v → Vals xs us → r x xs H Q →
    wpAny (model X.prog X.w) X.A (call (.builtin id) (v :: us)) (EP X pins σ Q) X.xe s
theorem Vals.one : ∀ {x : V} {us : List Value}, Vals [x] us → ∃ u, us = [u] ∧ RelV x u
  | _, _, .cons r .nil => ⟨_, rfl, r⟩
theorem Vals.zero : ∀ {us : List Value}, Vals [] us → us = []
  | _, .nil => rfl
section
variable {X : Cx} {pins : List (Addr × Obj)} {σ : St} {H : Hp} {s : Shared} {l b : Addr} {xs ys zs : List V}
theorem Inv.lset {its its' : List Value} {n : Nat} {f : Array Value → Array Value} {t' : Nat} (I : Inv X pins σ H s) (hH : H l = some (.lst xs))
    (e : s.heap.get? l = some { cls := .type "list", data := .seq its.toArray n }) (hf : f its.toArray = its'.toArray) (hv : Vals ys its') (hz : ys.length ≤ sizeLine) :
    Inv X pins σ (upd H l (.lst ys)) { s with heap := s.heap.update l (Obj.mapSeq f), toks := t' } := by
  have q := PySem.IsL.update e f
  rw [hf] at q
  refine I.write (x := l) (e := l) (by rw [hH]; exact trivial) (.inl rfl) (fun b' u hb hu => (Heap.get?_update_other s.heap (Obj.mapSeq f) (Ne.symm hb)).trans hu) ⟨_, q⟩ ?_
  exact ⟨hz, its', _, hv, q⟩
theorem Inv.lnew {its : List Value} {t' : Nat} (I : Inv X pins σ H s) (hv : Vals ys its) (hz : ys.length ≤ sizeLine) :
    Inv X pins σ (upd H s.heap.objs.size (.lst ys)) { s with heap := s.heap.push { cls := .type "list", data := .seq its.toArray }, toks := t' } :=
  I.laid (fun _ _ q => Heap.get?_push_of_some _ q) (Nat.le_refl _) ⟨hz, its, 0, hv, Heap.get?_push_size _ rfl⟩
theorem Inv.fresh (I : Inv X pins σ H s) : H s.heap.objs.size = none := I.hok.fresh (Nat.le_refl _)
theorem Inv.lstM (I : Inv X pins σ H s) (hH : H l = some (.lst xs)) : xs.length ≤ sizeLine ∧ ∃ (its : List Value) (n : Nat), Vals xs its ∧ xs.length = its.length ∧ s.heap.get? l = some { cls := .type "list", data := .seq its.toArray n } := by
  obtain ⟨z, its, n, r, e⟩ := I.hok l _ hH
  exact ⟨z, its, n, r, r.length, e⟩
end
section
variable {X : Cx}
def rAppend : V → List V → Hp → VK → Prop := fun x vs H Q => ∃ l xs y, x = .ref l ∧ vs = [y] ∧ H l = some (.lst xs) ∧ xs.length < sizeLine ∧ Q .non (upd H l (.lst (xs ++ [y])))
theorem mt_append : MtM X "list.append" rAppend := by
  intro pins s σ H x vs v us Q I rx rv h
  obtain ⟨l, xs, y, rfl, rfl, hH, hz, q⟩ := h
  cases rx
  obtain ⟨u, rfl, ru⟩ := rv.one
  obtain ⟨z, its, n, r, hl, e⟩ := I.lstM hH
  refine call_meets F.slot_list_append ⟨_, e, rfl⟩ F.entry_list_append (F.args_list_append_2 _ _) (PySem.list_append l its.toArray n u (by rw [List.size_toArray]; omega)) ⟨e, ?_⟩
  refine ⟨.non, _, I.lset (its' := its ++ [u]) hH e (by simp) (r.append (.cons ru .nil)) ?_, rfl, q⟩
  rw [List.length_append, List.length_singleton]
  omega
def rClear : V → List V → Hp → VK → Prop := fun x vs H Q => ∃ l xs, x = .ref l ∧ vs = [] ∧ H l = some (.lst xs) ∧ Q .non (upd H l (.lst []))
theorem mt_clear : MtM X "list.clear" rClear := by
  intro pins s σ H x vs v us Q I rx rv h
  obtain ⟨l, xs, rfl, rfl, hH, q⟩ := h
  cases rx
  have hus := rv.zero
  subst hus
  obtain ⟨z, its, n, r, hl, e⟩ := I.lstM hH
  refine call_meets F.slot_list_clear ⟨_, e, rfl⟩ F.entry_list_clear (F.args_list_clear_1 _) (AutoSeq1.list_clear_list_0 l its.toArray n (by rw [List.size_toArray]; omega)) ⟨e, ?_⟩
  exact ⟨.non, _, I.lset (its' := []) (ys := []) hH e rfl .nil (Nat.zero_le _), rfl, q⟩
def rCat : R2 := fun x y H Q => ∃ l b xs zs, x = .ref l ∧ y = .ref b ∧ H l = some (.lst xs) ∧ H b = some (.lst zs) ∧ xs.length + zs.length ≤ sizeLine ∧ ∀ p, H p = none → Q (.ref p) (upd H p (.lst (xs ++ zs)))
theorem op_cat : OpR X (binaryOp .Add) rCat := by
  intro pins s σ H x y v u Q I rx ry h
  obtain ⟨l, b, xs, zs, rfl, rfl, hH, hB, hz, q⟩ := h
  cases rx
  cases ry
  obtain ⟨z, its, n, r, hl, e⟩ := I.lstM hH
  obtain ⟨z2, its2, n2, r2, hl2, e2⟩ := I.lstM hB
  refine PySem.P.add_list e e2 ?_ (by rw [List.size_toArray, List.size_toArray]; omega)
  have ea : its.toArray ++ its2.toArray = (its ++ its2).toArray := by simp
  rw [ea]
  exact ⟨.ref _, _, I.lnew (t' := s.toks) (r.append r2) (by rw [List.length_append]; omega), rfl, q _ I.fresh⟩
end
section
variable {prog : Program} {w : World} {A : Around} {E : Value → Shared → Prop} {s : Shared}
end
section
variable {X : Cx}
end
end L2
namespace Att
open PySem PySem.W PySem.Calls PyProof.Rows
theorem ints_of_wellAll {P : Params} {h : Heap} : ∀ (ns : List Int) (vs : List Value), WellAll P h vs (ns.map WData.int) → IntsAre vs ns := by
  intro ns
  induction ns with
  | nil =>
    intro vs w
    rw [List.map_nil] at w
    cases w
    exact .nil
  | cons n ns ih =>
    intro vs w
    rw [List.map_cons] at w
    cases w with
    | cons a b =>
      cases a
      exact .cons _ _ (ih _ b)
theorem script_of {l : OpenLaw} {n : Nat} (hn : l.most = some n) {P : Params} {h : Heap} {args : List WData} {vals : List Value}
    (hpre : l.row.toRowW.claim.pre args = true) (hwl : WellAll P h vals args) :
    ∃ a vs ns, vals = [Value.ref a] ∧ args = [WData.list (ns.map WData.int)] ∧ h.get? a = some { cls := .type "list", data := .seq vs.toArray } ∧ IntsAre vs ns ∧ ns.length ≤ n := by
  have hsh : WShape.hasAll [] args [.list .int] = true := (pre_splitW hpre).1
  have hc : l.pre.holds [] { args := args } = true := (pre_splitW hpre).2
  obtain ⟨d, r, rfl, h1, h2⟩ := hasAllW_cons hsh
  obtain rfl := hasAllW_nil h2
  obtain ⟨xs, rfl, h3⟩ := hasW_list h1
  obtain ⟨ns, rfl⟩ := items_int h3
  have hlen : ns.length ≤ n := by
    unfold OpenLaw.pre at hc
    have h4 : (WTm.not (.lt (.lit (.int (n : Int))) (.len (.arg 0)))).holds [] { args := [.list (ns.map .int)] } = true := by
      have h4 := (holds_andW hc).1
      rw [hn] at h4
      exact h4
    have h5 := condW_of h4 (w_not (w_lt w_lit (w_len_list (w_arg rfl))))
    rw [List.length_map] at h5
    refine Nat.le_of_not_lt fun q => ?_
    have q' : (n : Int) < ((ns.length : Nat) : Int) := by omega
    first
      | (rw [decide_eq_true q'] at h5; exact absurd h5 (by decide))
      | (simp at h5; omega)
  cases hwl with
  | cons w1 w2 =>
    cases w2
    cases w1 with
    | list ho hall => exact ⟨_, _, ns, rfl, rfl, ho, ints_of_wellAll ns _ hall, hlen⟩
theorem post_true (l : OpenLaw) (args : List WData) : l.row.toRowW.claim.post args (.bool true) args = true :=
  postW_of (r := l.row.toRowW) (X := (true == true))
    (show WShape.has [] (.bool true) .bool = true by first | rfl | decide | simp [WShape.has, WShape.arms, WShape.armsAll])
    (show (WTm.eq .res (.lit (.bool true))).value [] { args := args, res := some (.bool true), after := args } = some (.bool (true == true)) from w_eq_bool (w_res rfl) w_lit) rfl
theorem attach_call {l : OpenLaw} {n : Nat} {q : Program} {loose : List Str} {XP : (Str → Option Value) → Heap → Prop} {YP : World → Heap → Prop} {d : DefRec}
    (hn : l.most = some n) (hdf : d.params.defaults = [])
    (call : ∀ (w : World) (s₀ s₁ : Shared) (mg mb : Str → Option Value) (fa : Addr) (o : Obj) (pm cd doc : Value) (a : Addr) (vs : List Value) (ns : List Int),
      Ground q loose [] XP w s₀ mg mb s₁.heap → YP w s₁.heap →
      s₁.heap.get? fa = some o → o.data = .func (docDef d.name d.params d.body d.scope pm cd doc) → s₁.heap.CodeRec cd d.name → mg d.name = some (.ref fa) →
      s₁.heap.get? a = some { cls := .type "list", data := .seq vs.toArray } → IntsAre vs ns → ns.length ≤ n → s₁.gens = #[] →
      codeAny (model l.prog w) callerA (.call (.ref fa) ⟨[.ref a], []⟩) (fun r s' => r = .ok (.ret (.bool true)) ∧ OldK s₁.heap s'.heap ∧ s'.os = s₁.os ∧ AllBare s'.gens) s₁) :
    WalkO q loose XP YP l.row.toRowW d [] (fun f vs => PySem.call f vs) := by
  intro w s₀ s₁ mg mb G Y fa o pm cd doc dV kV ho hd hcd hD hmg hg args vals as hpre hlay hrd hwl hlo
  obtain rfl : dV = .none := Dflts.none hD hdf
  obtain rfl : kV = .none := Dflts.noKw hD
  obtain ⟨a, vs, ns, rfl, rfl, hobj, hints, hlen⟩ := script_of hn hpre hwl
  refine enter_call (codeAny_mono (call w s₀ s₁ mg mb fa o pm cd doc a vs ns G Y ho (fd_plain hd) hcd hmg hobj hints hlen hg) fun r s' hq => ?_)
  obtain ⟨rfl, h2, h3, h4⟩ := hq
  exact ⟨.inl ⟨.bool true, .bool true, [], rfl, fun _ => rfl, .bool true, post_true l _, fun _ => ⟨List.Pairwise.nil, fun _ hm => (nomatch hm)⟩⟩, h2, h3, h4⟩
section
variable {prog : Program} {w : World} {A : Around} {E : Value → Shared → Prop} {s : Shared} {K : Frag}
end
end Att
namespace L2
open PySem PySem.Spec PyProof.Rows
theorem vals_ints : ∀ {vs : List Value} {ns : List Int}, IntsAre vs ns → Vals (ns.map V.int) vs
  | _, _, .nil => .nil
  | _, _, .cons n t h => .cons ⟨t, rfl⟩ (vals_ints h)
def Only (H : Hp) : Prop := ∀ b, H b = none ∨ ∃ o xs, H b = some (.frz o (.lst xs))
theorem law_call {P : Program} {w : World} {K : PySem.W.Frag} {mg mb : Str → Option Value} {CX : CXT} {k : Nat} {fa a : Addr} {fd : FuncData} {x : Str} {sp : Sp} {s₁ : Shared} {vs : List Value} {ns : List Int}
    (KX : K.In s₁.heap) (hns : s₁.heap.Ns mainGlobals mg) (hb : s₁.heap.Ns builtinsNs mb) (hbb : ∀ x : Str, x ≠ "__name__" → mb x = bootBuiltins x) (hlim : s₁.heap.NoLimit) (hg : s₁.gens = #[])
    (ha : s₁.heap.get? a = some { cls := .type "list", data := .seq vs.toArray }) (hi : IntsAre vs ns) (hl : ns.length ≤ sizeLine) (hr : Room k callerA)
    (F : ∀ base : Heap, K.In base → base.Ns mainGlobals mg → FnOk P w K mg base CX k fa fd [x] sp) (hbind : ∀ (s : Shared) (u : Value), BindsTo s fd ⟨[u], []⟩ [(x, u)])
    (hsp : ∀ H : Hp, Only H → SqL K H a (ns.map V.int) → sp [.ref a] H (fun v _ => v = .bl true) fun _ _ _ => False)
    (hCX : ∀ H e s', CX [] H s₁ (fun _ _ _ => False) e s' → False) :
    codeAny (model P w) callerA (.call (.ref fa) ⟨[.ref a], []⟩) (fun r s' => r = .ok (.ret (.bool true)) ∧ OldK s₁.heap s'.heap ∧ s'.os = s₁.os ∧ AllBare s'.gens) s₁ := by
  have rv := vals_ints hi
  have lenV := hi.length
  have core : ∀ H : Hp, Only H → SqL K H a (ns.map V.int) → HOk P w H s₁.heap → (∀ b, H b ≠ none → b = a) → (H a ≠ none → K.lookup a = none) →
      codeAny (model P w) callerA (.call (.ref fa) ⟨[.ref a], []⟩) (fun r s' => r = .ok (.ret (.bool true)) ∧ OldK s₁.heap s'.heap ∧ s'.os = s₁.os ∧ AllBare s'.gens) s₁ := by
    intro H hO hS hok hA hK
    have base_of : ∀ {b : Addr} {o : Obj}, s₁.heap.get? b = some o → H b = none → (hidT s₁.heap H).get? b = some o := fun e n => hidT_get e n
    have noA : ∀ {b : Addr} {o : Obj} {es : Array DictEntry} {ep : Nat}, s₁.heap.get? b = some o → o.data = .dict es ep → H b = none := fun {b o es ep} e d => by
      cases q : H b with
      | none => rfl
      | some u =>
        have e' : b = a := hA b (by rw [q]; simp)
        subst e'
        rw [ha] at e; cases e
        have d' : Data.seq vs.toArray _ = Data.dict es ep := d
        cases d'
    have nsK : ∀ {b : Addr} {m : Str → Option Value}, s₁.heap.Ns b m → (hidT s₁.heap H).Ns b m := fun {b m} ⟨o, es, ep, e, d, r⟩ => ⟨o, es, ep, base_of e (noA e d), d, r⟩
    have hKb : K.In (hidT s₁.heap H) := fun b o e => base_of (KX b o e) (by
      cases q : H b with
      | none => rfl
      | some u =>
        have e' : b = a := hA b (by rw [q]; simp)
        subst e'
        rw [hK (by rw [q]; simp)] at e; cases e)
    have hM : Mod K mg (hidT s₁.heap H) := ⟨hKb, nsK hns, ⟨mb, nsK hb, hbb⟩, let ⟨mc, h1, h2⟩ := hlim; ⟨mc, nsK h1, h2⟩⟩
    have e0 : Env0 P w K mg (hidT s₁.heap H) callerA [] s₁ H := ⟨rfl, hM, fun b o e => of_hidT e, Nat.le_of_eq (hidT_size _ _), trivial, fun b hb => absurd (show b ∈ ([] : List Addr) from hb) (by simp), hok, .of_eq hg⟩
    refine codeAny_mono ((F _ hKb (nsK hns)).run callerA [] s₁ H ⟨[.ref a], []⟩ [.ref a] [.ref a] _ _ hr e0 (hbind s₁ (.ref a)) (.cons rfl .nil) (hsp H hO hS)) fun r s' h => ?_
    cases r with
    | error e => exact (hCX H e s' h).elim
    | ok fl =>
      cases fl with
      | next => exact False.elim h
      | brk => exact False.elim h
      | cont => exact False.elim h
      | ret u =>
        obtain ⟨v, H', os, bare, un, hok', r', q⟩ := h
        have q' : v = .bl true := q
        subst q'
        obtain rfl : u = Value.bool true := r'
        refine ⟨rfl, OldK.of_keep fun b o e => ?_, os, bare⟩
        cases q : H b with
        | none => exact un.keep b o e q (by intro z; exact absurd (show b ∈ ([] : List Addr) from z) (by simp)) (by simp)
        | some u =>
          rcases hO b with z | ⟨ob, xs, z⟩
          · rw [q] at z; cases z
          · have z2 := un.frzs b ob _ z
            obtain ⟨e1, _⟩ := hok b _ z
            obtain ⟨e2, _⟩ := hok' b _ z2
            rw [e] at e1; cases e1
            exact e2
  cases hk : K.lookup a with
  | some o =>
    have e := KX a o hk
    rw [ha] at e
    cases e
    refine core (fun _ => none) (fun _ => .inl rfl) (.inr ⟨_, vs.toArray, _, hk, rfl, rfl, rfl, by rw [List.size_toArray, lenV]; exact hl, by simpa using rv⟩) (fun b u z => by have z' : (none : Option HO) = some u := z; cases z') (fun b z => absurd rfl z) fun z => absurd rfl z
  | none =>
    refine core (fun b => if b = a then some (.frz { cls := .type "list", data := .seq vs.toArray } (.lst (ns.map V.int))) else none) (fun b => ?_) (.inl (.inr ⟨{ cls := .type "list", data := .seq vs.toArray }, if_pos rfl⟩)) (fun b u z => ?_) (fun b z => ?_) fun _ => hk
    · by_cases hb : b = a
      · exact .inr ⟨_, _, if_pos hb⟩
      · exact .inl (if_neg hb)
    · by_cases hb : b = a
      · have z' := (if_pos hb).symm.trans z
        cases z'
        subst hb
        exact ⟨ha, by rw [List.length_map]; exact hl, vs, _, rv, ha⟩
      · have z' := (if_neg hb).symm.trans z
        cases z'
    · by_cases hb : b = a
      · exact hb
      · exact absurd (if_neg hb) z
end L2
namespace L2
open PySem PySem.Spec PyProof.Rows
theorem walk_of {l : PySem.W.OpenLaw} {n k : Nat} {q : Program} {loose : List Str} {XP : (Str → Option Value) → Heap → Prop} {YP : World → Heap → Prop} {d : DefRec} {K : Params → PySem.W.Frag} {CX : World → CXT} {sp : World → Sp} {x : Str}
    (hn : l.most = some n) (hn2 : n ≤ sizeLine) (hdf : d.params.defaults = []) (hr : Room k callerA)
    (hY : ∀ (w : World) (h : Heap), YP w h → (K w.params).In h)
    (F : ∀ (w : World) (mg : Str → Option Value) (fa : Addr) (h : Heap), (K w.params).In h → h.Ns mainGlobals mg → mg d.name = some (.ref fa) →
      ∃ fd : FuncData, (∀ (s : Shared) (u : Value), BindsTo s fd ⟨[u], []⟩ [(x, u)]) ∧
        ∀ base : Heap, (K w.params).In base → base.Ns mainGlobals mg → FnOk l.prog w (K w.params) mg base (CX w) k fa fd [x] (sp w))
    (hsp : ∀ (w : World) (H : Hp) (a : Addr) (ns : List Int), ns.length ≤ n → Only H → SqL (K w.params) H a (ns.map V.int) → sp w [.ref a] H (fun v _ => v = .bl true) fun _ _ _ => False)
    (hCX : ∀ (w : World) (H : Hp) (s : Shared) (e : Value) (s' : Shared), CX w [] H s (fun _ _ _ => False) e s' → False) :
    PySem.W.WalkO q loose XP YP l.row.toRowW d [] (fun f vs => PySem.call f vs) := by
  refine Att.attach_call hn hdf fun w s₀ s₁ mg mb fa o pm cd doc a vs ns G Y ho hd hcd hmg hobj hints hlen hg => ?_
  have KX := hY w _ Y
  obtain ⟨fd, hb, hF⟩ := F w mg fa _ KX G.T.g hmg
  exact law_call KX G.T.g G.T.b G.T.builtins G.T.nolimit hg hobj hints (Nat.le_trans hlen hn2) hr hF hb (fun H hO hS => hsp w H a ns hlen hO hS) fun H e s' => hCX w H s₁ e s'
end L2
namespace L2
open PySem PySem.Spec PyProof.Rows
def inClass (s : Stmt) (j : Nat) : Stmt := match s with
  | .ClassDef _ _ _ body _ _ _ _ _ _ _ => body.getD j (.Pass ⟨0, 0, 0, 0⟩)
  | _ => .Pass ⟨0, 0, 0, 0⟩
def defArgs (s : Stmt) : Arguments := match s with
  | .FunctionDef _ a _ _ _ _ _ _ _ _ => a
  | _ => { posonlyargs := [], args := [], vararg := none, kwonlyargs := [], kw_defaults := [], kwarg := none, defaults := [] }
def defBody (s : Stmt) : List Stmt := match s with
  | .FunctionDef _ _ b _ _ _ _ _ _ _ => b
  | _ => []
def defScope (s : Stmt) : Scope := match s with
  | .FunctionDef _ _ _ _ _ _ sc _ _ _ => sc
  | _ => { kind := .function, names := [], isGenerator := false, isCoroutine := false }
abbrev CX0 : CXT := fun _ _ _ _ _ _ => False
abbrev E0 : XK := fun _ _ _ => False
theorem pass0 {X : Cx} : Passes CX0 X E0 := fun _ _ _ _ _ _ _ h => h.elim
structure Fun (K : PySem.W.Frag) (x qual : Str) (st : Stmt) (f : Addr) (fd : FuncData) : Prop where
  ex : ∃ (oc : Value) (od : Option Addr) (kV doc pm : Value) (an : Option Addr) (cdv ct : Value) (osl : Array (Option Value)),
    fd = PySem.W.fnOf x qual (defArgs st) (defBody st) (defScope st) .none kV doc pm an cdv ct ∧ K.lookup f = some ⟨oc, od, .func fd, osl⟩ ∧ PySem.W.codeIn K cdv qual = true
  kp : PySem.W.keepIn K (.ref f) = true
section
variable {P : Program} {w : World} {K : PySem.W.Frag} {mg : Str → Option Value} {base : Heap}
theorem Fun.ok {x qual : Str} {st : Stmt} {f : Addr} {fd : FuncData} {N ps : List Str} {k : Nat} {sp : Sp} (F : Fun K x qual st f fd) (S : FnScope N ps (defScope st)) (len : ∀ vs H Q E, sp vs H Q E → vs.length = ps.length)
    (hbody : ∀ (cdv : Value) (A : Around) (outer : List Env) (s : Shared) (H : Hp) (vs : List V) (Q : VK) (E : XK), Room k (A.deeper (envOfC qual (defScope st) s.heap.objs.size f cdv)) → sp vs H Q E →
      ∃ t, PSs (cxOf CX0 P w K mg base N qual (defScope st) f cdv A outer s H E).nox (defBody st) t ∧ t { nx := fun _ H' => Q .non H', rt := Q } (start N vs) H) : FnOk P w K mg base CX0 (k + 1) f fd ps sp := by
  obtain ⟨oc, od, kV, doc, pm, an, cdv, ct, osl, rfl, lk, hcd⟩ := F.ex
  refine fn_of lk hcd S len fun A outer s H vs Q E hr hsp => ?_
  obtain ⟨t, h, q⟩ := hbody cdv A outer s H vs Q E hr hsp
  exact ⟨t, h.nox, q⟩
theorem Fun.binds {x qual : Str} {st : Stmt} {f : Addr} {fd : FuncData} {ps : List Str} (F : Fun K x qual st f fd)
    (h : ∀ (kV doc pm : Value) (an : Option Addr) (cdv ct : Value) (us : List Value), us.length = ps.length → bindArgs (PySem.W.fnOf x qual (defArgs st) (defBody st) (defScope st) .none kV doc pm an cdv ct) ⟨us, []⟩ = pure (ps.zip us)) : Binds K fd ps [] := by
  obtain ⟨oc, od, kV, doc, pm, an, cdv, ct, osl, rfl, lk, hcd⟩ := F.ex
  exact .all (h kV doc pm an cdv ct)
theorem fun_mk {x qual : Str} {st : Stmt} {f : Addr} {oc : Value} {od an : Option Addr} {osl : Array (Option Value)} {kV doc pm cdv ct : Value} (l : K.lookup f = some ⟨oc, od, .func (PySem.W.fnOf x qual (defArgs st) (defBody st) (defScope st) .none kV doc pm an cdv ct), osl⟩)
    (c : PySem.W.codeIn K cdv qual = true) (k : PySem.W.keepIn K (.ref f) = true) : Fun K x qual st f (PySem.W.fnOf x qual (defArgs st) (defBody st) (defScope st) .none kV doc pm an cdv ct) := ⟨⟨oc, od, kV, doc, pm, an, cdv, ct, osl, rfl, l, c⟩, k⟩
end
theorem hu_of {A : Around} {k : Nat} (hr : Room k A) : A.units + 1 < cLine := Nat.lt_of_le_of_lt (Nat.add_le_add_left (by decide : 1 ≤ 64) _) hr.units
theorem small1000 {n : Nat} (h : n ≤ 1000) : n < sizeLine := Nat.lt_of_le_of_lt h (by decide)
section
variable {X : Cx}
theorem pv (i : Nat) {x : Str} {pos : Pos} (hN : X.N[i]? = some x := by rfl) (hv : Vis X.env.scope x := by first | exact Or.inl rfl | exact Or.inr (Or.inl rfl) | exact Or.inr (Or.inr rfl)) (hd : (x == ("__debug__" : Str)) = false := by decide)
    (hcd : (x == ("__classdict__" : Str)) = false := by decide) : PE X (.Name x pos) (tVar i) := pe_var hN hv hd hcd
end
theorem iteF {A B : Prop} (h : B) : if false = true then A else B := by
  rw [if_neg Bool.false_ne_true]
  exact h
theorem iteT {A B : Prop} (h : A) : if true = true then A else B := by
  rw [if_pos rfl]
  exact h
def Same (H H' : Hp) : Prop := ∀ b o, H b = some o → H' b = some o
theorem Same.refl (H : Hp) : Same H H := fun _ _ h => h
theorem Same.trans {H H1 H2 : Hp} (a : Same H H1) (b : Same H1 H2) : Same H H2 := fun c o h => b c o (a c o h)
theorem Same.free {H H' : Hp} (e : Same H H') {l : Addr} (h : H' l = Option.none) : H l = Option.none := by
  cases q : H l with
  | none => rfl
  | some o =>
    rw [e l o q] at h
    cases h
theorem Same.seq {K : PySem.W.Frag} {H H' : Hp} {a : Addr} {xs : List V} (e : Same H H') (h : SqL K H a xs) : SqL K H' a xs := by
  rcases h with (h | ⟨o, h⟩) | h
  · exact .inl (.inl (e _ _ h))
  · exact .inl (.inr ⟨o, e _ _ h⟩)
  · exact .inr h
end L2
set_option Elab.async false
set_option linter.all false
set_option maxRecDepth 100000
namespace L2
open PySem PySem.Spec PyProof.Rows
section
variable {P : Program} {w : World} {H H' : Hp} {B h h1 h2 : Heap} {a : Addr} {o : HO}
theorem ObjOk.there (x : ObjOk P w H h a o) : ∃ ob, h.get? a = some ob := by
  cases o with
  | lst xs => obtain ⟨_, _, _, _, e⟩ := x; exact ⟨_, e⟩
  | tup xs => obtain ⟨_, _, _, ob, e, _⟩ := x; exact ⟨_, e⟩
  | dK kvs => obtain ⟨_, _, _, _, ob, _, _, e, _⟩ := x; exact ⟨_, e⟩
  | dT kvs => obtain ⟨_, _, _, _, ob, _, _, e, _⟩ := x; exact ⟨_, e⟩
  | set S n => obtain ⟨ob, _, _, _, e, _⟩ := x; exact ⟨_, e⟩
  | ins C dx fs => obtain ⟨_, _, _, e, _⟩ := x; exact ⟨_, e⟩
  | own y => exact x
  | xd fs => obtain ⟨_, ⟨_, _, _, e, _⟩, _⟩ := x; exact ⟨_, e⟩
  | rng lo hi => obtain ⟨_, _, _, e⟩ := x; exact ⟨_, e⟩
  | frz ob u => obtain ⟨e, _⟩ := x; exact ⟨_, e⟩
  | tbl ps => exact ⟨_, (show h.get? a = some _ from x)⟩
  | met f y => exact ⟨_, (show h.get? a = some _ from x)⟩
  | ext φ => obtain ⟨_, e, _⟩ := x; exact e
theorem HOk.fly (x : HOk P w H h1) (t : ∀ b u, H b = some u → ∃ ob, B.get? b = some ob) (k1 : B.StaysIn h1) (k2 : B.StaysIn h2) : HOk P w H h2 := fun c u e => by
  refine (x c u e).stay (fun d v hd q => ?_) (fun _ q => q) fun _ _ q => q
  have hin : ∃ ob, B.get? d = some ob := by
    rcases hd with z | z
    · rw [z]; exact t _ _ e
    · exact t _ _ z
  obtain ⟨ob, hb⟩ := hin
  have e1 := k1 d ob hb
  rw [q] at e1
  rw [Option.some.inj e1]
  exact k2 d ob hb
structure Over (l : List Env) (H H' : Hp) (h B : Heap) : Prop where
  tr : ∀ b u, H' b = some u → ∃ ob, B.get? b = some ob
  un : ∀ b ob, h.get? b = some ob → H b = none → b ∉ frs l → B.get? b = some ob
  ex : ∀ b ob, h.get? b = some ob → b ∉ frs l → ∃ o2, B.get? b = some o2
theorem Un.fly {l : List Env} (u : Un (frs l) [] H H' h h1) (ov : Over l H H' h B) (nf : ∀ b ∈ frs l, ∀ ob, h.get? b = some ob → ∀ vs, ob.data ≠ .fields vs) (fr : ∀ b ∈ frs l, H b = none)
    (k2 : B.StaysIn h2) (sm : h1.UpToSlots h2) : Un (frs l) [] H H' h h2 where
  keep := fun b ob q n hb _ => k2 b ob (ov.un b ob q n hb)
  slot := fun b ob q n hb hx => by
    obtain ⟨sl, e1⟩ := u.slot b ob q n hb hx
    obtain ⟨sl', e2⟩ := sm b _ e1 (nf b hb ob q)
    exact ⟨sl', e2⟩
  free := u.free
  there := fun b ob q hx => by
    by_cases hb : b ∈ frs l
    · obtain ⟨sl, e1⟩ := u.slot b ob q (fr b hb) hb hx
      obtain ⟨sl', e2⟩ := sm b _ e1 (nf b hb ob q)
      exact ⟨_, e2⟩
    · obtain ⟨o2, e⟩ := ov.ex b ob q hb
      exact ⟨o2, k2 b o2 e⟩
  tups := u.tups
  frzs := u.frzs
  tbls := u.tbls
end
def CX1 (P : Program) (w : World) : CXT := fun l H s E e s' =>
  ∃ (a C : Addr) (a0 : Value) (B : Heap) (H' : Hp), e = .ref a ∧ s'.os = s.os ∧ AllBare s'.gens ∧ Un (frs l) [] H H' s.heap s'.heap ∧ HOk P w H' s'.heap ∧
    Heap.FlyingW B l a (.ref C) a0 s'.heap ∧ Over l H H' s.heap B ∧ E (.ref C) none H'
section
variable {X : Cx} {pins : List (Addr × Obj)} {σ : St} {H H' : Hp} {s : Shared} {B : Heap} {E : XK}
theorem Inv.noRec (I : Inv X pins σ H s) : ∀ b ∈ frs X.stack, ∀ ob, s.heap.get? b = some ob → ∀ vs, ob.data ≠ .fields vs := fun b hb ob q => by
  obtain ⟨_, o2, h2, nf⟩ := I.stack.mem hb
  rw [q] at h2
  rw [Option.some.inj h2]
  exact nf
theorem Inv.noRec0 (I : Inv X pins σ H s) : ∀ b ∈ frs X.outer, ∀ ob, X.s₀.heap.get? b = some ob → ∀ vs, ob.data ≠ .fields vs := fun b hb ob q => by
  obtain ⟨_, o2, h2, nf⟩ := I.ok.funs.mem hb
  rw [q] at h2
  rw [Option.some.inj h2]
  exact nf
theorem Inv.notStack (I : Inv X pins σ H s) {b : Addr} {ob : Obj} (q : X.s₀.heap.get? b = some ob) (hb : b ∉ frs X.outer) : b ∉ frs X.stack := fun z => by
  rcases List.mem_cons.mp (I.stkSub b z) with e | e
  · have := Nat.lt_of_lt_of_le (Heap.lt_size q) I.ok.above
    rw [e] at this
    exact Nat.lt_irrefl _ this
  · exact hb e
theorem Over.up (I : Inv X pins σ H s) (hx : X.ex = []) (ov : Over X.stack H H' s.heap B) : Over X.outer X.H₀ H' X.s₀.heap B where
  tr := ov.tr
  un := fun b ob q n hb => by
    have nx : b ∉ X.ex := by rw [hx]; simp
    exact ov.un b ob (I.base.keep b ob q n hb nx) (I.base.free b ob q n nx) (I.notStack q hb)
  ex := fun b ob q hb => by
    have nx : b ∉ X.ex := by rw [hx]; simp
    obtain ⟨o2, e2⟩ := I.base.there b ob q nx
    exact ov.ex b o2 e2 (I.notStack q hb)
structure Leaves (X : Cx) (E : XK) : Prop where
  ex : X.ex = []
  stk : X.stack = X.env :: X.outer
  fr : X.env.frame = some X.env.locals
  go : ∀ e s', wpAny (model X.prog X.w) X.A (leaving X.env e) (fun _ s'' => CX1 X.prog X.w X.outer X.H₀ X.s₀ E e s'') (fun e' s'' => CX1 X.prog X.w X.outer X.H₀ X.s₀ E e' s'') s' → X.xe e s'
theorem leaves_cx {P : Program} {w : World} {K : PySem.W.Frag} {mg : Str → Option Value} {base : Heap} {N : List Str} {qual : Str} {scope : Scope} {f : Addr} {cd : Value} {A : Around} {outer : List Env} {s : Shared} {H : Hp} {E : XK} :
    Leaves (cxOf (CX1 P w) P w K mg base N qual scope f cd A outer s H E) E := ⟨rfl, rfl, rfl, fun _ _ h => h⟩
theorem pass1 (lv : Leaves X E) : Passes (CX1 X.prog X.w) X E := by
  intro pins σ H s e s' I h
  obtain ⟨a, C, a0, B, H', rfl, ho, hg, u, hok, fl, ov, hE⟩ := h
  refine lv.go _ _ ?_
  have J := I.call' (ch := []) ho u hok hg (fun _ z => nomatch z)
  have ov2 := ov.up I lv.ex
  have fl0 : Heap.FlyingW B (X.env :: X.outer) a (.ref C) a0 s'.heap := lv.stk ▸ fl
  refine wpAny_leaves_onW (by rw [J.ok.frames, lv.stk]) lv.fr fl0 fun h2 fl2 sm => ?_
  have u0 : Un (frs X.outer) [] X.H₀ H' X.s₀.heap s'.heap := by
    have z := J.base
    rw [lv.ex] at z
    exact z
  exact ⟨a, C, a0, B, H', rfl, J.os, hg, u0.fly ov2 J.noRec0 J.ok.frf fl2.1 sm, hok.fly ov.tr fl.1 fl2.1, fl2, ov2, hE⟩
end
abbrev excMro : List Value := [.type "ValueError", .type "Exception", .type "BaseException", .type "object"]
def Exc (K : PySem.W.Frag) (C : Addr) : Prop := PySem.W.excIn K C excMro "ValueError.__new__" = true
theorem exc_obj {K : PySem.W.Frag} {h : Heap} {C : Addr} {bmB : List Value} {newId : String} (X : K.In h) (q : PySem.W.excIn K C bmB newId = true) :
    ∃ bm N nm qn bs hdct sn sub ab col dd k0 k1 k2 k3 k5 mN, h.get? C = some (excClassObj nm qn C N bs bm hdct sn sub ab col dd k0 k1 k2 k3 k5 newId) ∧ h.Ns N mN ∧ mN "__init__" = none ∧ OwnTail h bmB bm := by
  unfold PySem.W.excIn at q
  split at q
  next dd0 cd0 sl0 look0 =>
    split at q
    next C2 bm2 j0 j1 j2 j3 id2 j5 mro2 slots2 =>
      simp only [Bool.and_eq_true, beq_iff_eq, Bool.not_eq_true'] at q
      have q6 := q.2
      have q5 := q.1.2
      have q4 := q.1.1.2
      have q3 := q.1.1.1.2
      have q2 := q.1.1.1.1.2
      have q1 := q.1.1.1.1.1
      subst q1 q2
      obtain ⟨c1, c2, c3, c4, c5, c6, c7, c8, c9, c10, c11⟩ := cd0
      dsimp only at mro2 q3 q5 q6
      subst mro2 q3
      have es : sl0 = #[j0, j1, j2, j3, some (.builtin id2), j5] := by
        obtain ⟨ll⟩ := sl0
        simp only at slots2
        rw [slots2]
      subst es
      exact ⟨bm2, c4, c1, c5, c2, c6, c7, c8, c9, c10, dd0, j0, j1, j2, j3, j5, _, X _ _ look0, Heap.Ns.of_isNs (PySem.W.isNs_of_in X q5), PySem.W.nsMap_none_of_in X q5 q6, PySem.W.tail_of_in X q4⟩
    next => cases q
  next => cases q
def tRaise (C : Addr) (E : XK) (t : TA) : TS := fun _ σ H => t σ H fun vs H1 => vs.length ≤ sizeLine ∧ E (.ref C) none H1
theorem ps_raise {X : Cx} {E : XK} {x : Str} {C : Addr} {e : Expr} {es : List Expr} {t : TA} {np cpos pos : Pos} (lv : Leaves X E) (hc : X.calm = true) (xc : Exc X.K C) (hg : Gl X x) (hm : X.mg x = some (.ref C)) (ha : PA X (e :: es) t)
    (hdb : (x == ("__debug__" : Str)) = false := by decide) (he : starEach (e :: es) X.env = (false, eval e X.env) :: starEach es X.env := by rfl) (hpl : (backTo cpos (starEach es X.env)).any (·.1) = false := by rfl) :
    PS X (.Raise (some (.Call (.Name x np) (e :: es) [] cpos)) none pos) (tRaise C E t) := by
  intro pins s σ H D I h
  obtain ⟨bm, N, nm, qn, bs, hdct, sn, sub, ab, col, dd, k0, k1, k2, k3, k5, mN, hC, hN, hni, T⟩ := exc_obj I.mod.kin xc
  refine wpAny_Raise_call_subT (C := C) (nm := nm) (q := qn) (N := N) (bs := bs) (bm := bm) (hdct := hdct) (sn := sn) (sub := sub) (ab := ab) (col := col) (dd := dd) (k0 := k0) (k1 := k1) (k2 := k2) (k3 := k3) (k5 := k5)
    PySem.F.excBase_ValueError (mN := mN) (T.hasType PySem.F.excBase_ValueError.hasBase) (I.ok.hd hc) (by rw [he]; show (false || (backTo cpos (starEach es X.env)).any (·.1)) = false; rw [hpl]; rfl) hni (ld_glob I hg hm ⟨rfl, ?_⟩ hdb)
  have hh := ha cpos pins s σ H _ I h
  rw [he] at hh ⊢
  refine Calls.evalArgs_plain (thn hh fun us s2 ⟨vs, H2, I2, rv, hl, hE⟩ => ⟨rfl, by rw [← rv.length]; exact hl, I2.bk _ _ hC, hN.keeps I2.bk, T.keeps I2.bk, fun h2 a mk => ?_⟩)
  refine lv.go _ _ ?_
  have hkb : (PySem.W.hideAll s2.heap (frs X.stack)).StaysIn s2.heap := fun b ob q => PySem.W.of_hideAll _ q
  have ff : s2.heap.FunFrames (PySem.W.hideAll s2.heap (frs X.stack)) X.stack := PySem.W.funFrames_hide I2.stack fun en hen b hb => List.mem_filterMap.mpr ⟨en, hen, hb⟩
  have ov0 : Over X.stack H2 H2 s2.heap (PySem.W.hideAll s2.heap (frs X.stack)) := {
    tr := fun b u q => by
      obtain ⟨ob, e1⟩ := (I2.hok b u q).there
      exact ⟨ob, PySem.W.hideAll_get _ e1 fun z => by rw [I2.stkFree b z] at q; cases q⟩
    un := fun b ob q _ hb => PySem.W.hideAll_get _ q hb
    ex := fun b ob q hb => ⟨ob, PySem.W.hideAll_get _ q hb⟩ }
  have ov2 := ov0.up I2 lv.ex
  refine wpAny_leaves_madeW (base := PySem.W.hideAll s2.heap (frs X.stack)) (h := s2.heap) (L := X.env.locals) (by rw [I2.ok.frames, lv.stk]) lv.fr hkb (by rw [lv.stk] at ff ⊢; exact ff) mk fun h3 t3 fl _ _ sm => ?_
  have u0 : Un (frs X.outer) [] X.H₀ H2 X.s₀.heap s2.heap := by
    have z := I2.base
    rw [lv.ex] at z
    exact z
  exact ⟨a, C, _, _, H2, rfl, I2.os, I2.bare, u0.fly ov2 I2.noRec0 I2.ok.frf fl.1 ((Heap.UpToSlots.of_keeps mk.keeps).trans sm), I2.hok.fly ov0.tr hkb fl.1, fl, ov2, hE⟩
section
variable {P : Program} {w : World} {K : PySem.W.Frag} {mg : Str → Option Value} {base : Heap}
theorem Fun.ok1 {x qual : Str} {st : Stmt} {f : Addr} {fd : FuncData} {N ps : List Str} {k : Nat} {sp : Sp} (F : Fun K x qual st f fd) (S : FnScope N ps (defScope st)) (len : ∀ vs H Q E, sp vs H Q E → vs.length = ps.length)
    (hbody : ∀ (cdv : Value) (A : Around) (outer : List Env) (s : Shared) (H : Hp) (vs : List V) (Q : VK) (E : XK), Room k (A.deeper (envOfC qual (defScope st) s.heap.objs.size f cdv)) → sp vs H Q E →
      ∃ t, PSs (cxOf (CX1 P w) P w K mg base N qual (defScope st) f cdv A outer s H E) (defBody st) t ∧ t { nx := fun _ H' => Q .non H', rt := Q } (start N vs) H) : FnOk P w K mg base (CX1 P w) (k + 1) f fd ps sp := by
  obtain ⟨oc, od, kV, doc, pm, an, cdv, ct, osl, rfl, lk, hcd⟩ := F.ex
  exact fn_of lk hcd S len fun A outer s H vs Q E hr hsp => hbody cdv A outer s H vs Q E hr hsp
end
theorem PE.any {X : Cx} {e : Expr} {t : TE} (h : PE X.nox e t) {pins : List (Addr × Obj)} {s : Shared} {σ : St} {H : Hp} {Q : VK} {W : Value → Shared → Prop} (I : Inv X pins σ H s) (q : t σ H Q) :
    wpAny (model X.prog X.w) X.A (eval e X.env) (EP X pins σ Q) W s :=
  wpAny_mono (h pins s σ H Q (I.wish _) q) (fun _ _ ⟨v, H', J, r, k⟩ => ⟨v, H', J.unwish, r, k⟩) fun _ _ z => z.elim
theorem PT.any {X : Cx} {e : Expr} {t : TT} (h : PT X.nox e t) {pins : List (Addr × Obj)} {s : Shared} {σ : St} {H : Hp} {Q : Bool → Hp → Prop} {W : Value → Shared → Prop} (I : Inv X pins σ H s) (q : t σ H Q) :
    wpAny (model X.prog X.w) X.A (isTrue e X.env (eval e X.env)) (TP X pins σ Q) W s :=
  wpAny_mono (h pins s σ H Q (I.wish _) q) (fun _ _ ⟨H', J, k⟩ => ⟨H', J.unwish, k⟩) fun _ _ z => z.elim
theorem PA.any {X : Cx} {es : List Expr} {t : TA} (h : PA X.nox es t) (pos : Pos) {pins : List (Addr × Obj)} {s : Shared} {σ : St} {H : Hp} {Q : List V → Hp → Prop} {W : Value → Shared → Prop} (I : Inv X pins σ H s) (q : t σ H Q) :
    wpAny (model X.prog X.w) X.A (spliced (backTo pos (starEach es X.env))) (AP X pins σ Q) W s :=
  wpAny_mono (h pos pins s σ H Q (I.wish _) q) (fun _ _ ⟨v, H', J, r, k⟩ => ⟨v, H', J.unwish, r, k⟩) fun _ _ z => z.elim
abbrev TEX := St → Hp → VK → XK → Prop
def PEX (X : Cx) (e : Expr) (t : TEX) : Prop :=
  ∀ (pins : List (Addr × Obj)) (s : Shared) (σ : St) (H : Hp) (Q : VK) (E : XK) (W : Value → Shared → Prop), Inv X pins σ H s → t σ H Q E →
    (∀ H0 s0 y s', Inv X pins σ H0 s0 → CX1 X.prog X.w X.stack H0 s0 E y s' → W y s') → wpAny (model X.prog X.w) X.A (eval e X.env) (EP X pins σ Q) W s
section
variable {X : Cx} {k : Nat} {f C : Addr} {fd : FuncData} {ps : List Str} {sp : Sp} {E : XK} {x m : Str} {p pos apos : Pos} {e o : Expr} {es : List Expr} {ta : TE} {t : TA} {W : Value → Shared → Prop}
theorem run_fnX {pins : List (Addr × Obj)} {σ : St} {H : Hp} {s : Shared} {Q : VK} {us : List Value} {vs : List V} (F : FnOk X.prog X.w X.K X.mg X.base (CX1 X.prog X.w) k f fd ps sp) (hr : Room k X.A) (hb : Binds X.K fd ps [])
    (hW : ∀ H0 s0 y s', Inv X pins σ H0 s0 → CX1 X.prog X.w X.stack H0 s0 E y s' → W y s') (I : Inv X pins σ H s) (r : Vals vs us) (h : sp vs H Q E) : wpAny (model X.prog X.w) X.A (call (.ref f) us) (EP X pins σ Q) W s := by
  have hl : (us ++ []).length = ps.length := by rw [List.append_nil, ← r.length]; exact F.len _ _ _ _ h
  have hb' := hb s us I.kIn hl
  rw [List.append_nil] at hb'
  refine wpAny_call (codeAny_mono (F.run X.A X.stack s H ⟨us, []⟩ us vs Q E hr I.env0 hb' r h) fun r2 s2 hq => ?_)
  cases r2 with
  | error y => exact hW H s y s2 I hq
  | ok fl =>
    cases fl with
    | ret u => exact I.after hq
    | next => exact False.elim hq
    | brk => exact False.elim hq
    | cont => exact False.elim hq
def tMethX (C : Addr) (m : Str) (sp : Sp) (ta : TE) (t : TA) : TEX := fun σ H Q E => ta σ H fun x H1 => ∃ a dx fs, x = .ref a ∧ H1 a = some (.ins C dx fs) ∧ fs.lookup m = none ∧ t σ H1 fun vs H2 => sp (x :: vs) H2 Q E
theorem pex_meth {pl : Sem Bool} (he : PE X.nox o ta) (c : Cls X.K C) (hm : Meth X.K C m f) (F : FnOk X.prog X.w X.K X.mg X.base (CX1 X.prog X.w) k f fd ps sp) (hr : Room k X.A) (hb : Binds X.K fd ps []) (ha : PA X.nox (e :: es) t)
    (hst : starEach (e :: es) X.env = (false, eval e X.env) :: starEach es X.env := by rfl) (hpl : (backTo pos (starEach es X.env)).any (·.1) = false := by rfl)
    (ht : eval (.Call (.Attribute o m apos) (e :: es) [] pos) X.env = (do
      let ov ← eval o X.env
      standAt apos.atName
      let (f, first) ← holding [ov] (getMethod ov m pl)
      callWith pos f first (backTo pos (starEach (e :: es) X.env)) (backToKw pos (keywordEach [] X.env))) := by rfl) :
    PEX X (.Call (.Attribute o m apos) (e :: es) [] pos) (tMethX C m sp ta t) := by
  intro pins s σ H Q E W I h hW
  refine PySem.W.methodCall_KW (pl := pl) (thn (PE.any he I h) fun u s1 ⟨y, H1, I1, ry, a, dx, fs, ey, ea, l, q⟩ => ?_) ht
  subst ey
  obtain rfl : u = Value.ref a := ry
  refine getmeth_ok I1 ea c hm l ?_
  refine PySem.W.callWith_K (first := [.ref a]) (h₀ := X.base) I.ok.mod.kin hm.kp (thn (PA.any ha pos I1 q) fun us s2 ⟨vs, H2, I2, r, q2⟩ => ⟨I2.kIn, ?_⟩) hst hpl
  exact run_fnX (us := .ref a :: us) (vs := .ref a :: vs) F hr hb hW I2 (.cons rfl r) q2
theorem pex_meth0 {pl : Sem Bool} (he : PE X.nox o ta) (c : Cls X.K C) (hm : Meth X.K C m f) (F : FnOk X.prog X.w X.K X.mg X.base (CX1 X.prog X.w) k f fd ps sp) (hr : Room k X.A) (hb : Binds X.K fd ps [])
    (ht : eval (.Call (.Attribute o m apos) [] [] pos) X.env = (do
      let ov ← eval o X.env
      standAt apos.atName
      let (f, first) ← holding [ov] (getMethod ov m pl)
      callWith pos f first (backTo pos (starEach [] X.env)) (backToKw pos (keywordEach [] X.env))) := by rfl) :
    PEX X (.Call (.Attribute o m apos) [] [] pos) (tMethX C m sp ta tNil) := by
  intro pins s σ H Q E W I h hW
  refine PySem.W.methodCall_KW (pl := pl) (thn (PE.any he I h) fun u s1 ⟨y, H1, I1, ry, a, dx, fs, ey, ea, l, q⟩ => ?_) ht
  subst ey
  obtain rfl : u = Value.ref a := ry
  refine getmeth_ok I1 ea c hm l ?_
  exact PySem.W.callWith_K0 (first := [.ref a]) I1.kIn hm.kp (run_fnX (us := [.ref a]) (vs := [.ref a]) F hr hb hW I1 (.cons rfl .nil) q)
end
abbrev TSX := Ends → (St → XK) → St → Hp → Prop
def PSX (X : Cx) (sts : List Stmt) (t : TSX) : Prop :=
  ∀ (pins : List (Addr × Obj)) (s : Shared) (σ : St) (H : Hp) (D : Ends) (EX : St → XK) (W : Value → Shared → Prop), Inv X pins σ H s → t D EX σ H →
    (∀ σ' H0 s0 y s', Inv X pins σ' H0 s0 → CX1 X.prog X.w X.stack H0 s0 (EX σ') y s' → W y s') → wpAny (model X.prog X.w) X.A (execs sts X.env) (SP X pins D) W s
section
variable {X : Cx} {e c : Expr} {te : TEX} {tc : TT} {pos pos' : Pos} {i : Nat} {x : Str} {t u : TSX} {a b : List Stmt}
theorem execs_one {M : Model} {A : Around} {env : Env} {st : Stmt} {W : Value → Shared → Prop} {s : Shared} {D : Ends} {pins : List (Addr × Obj)} (h : wpAny M A (exec st env) (SP X pins D) W s) : wpAny M A (execs [st] env) (SP X pins D) W s := by
  refine wpAny_execs_cons (thn h fun f s1 q => ?_)
  cases f with
  | next => exact wpAny_execs_nil q
  | ret v => exact q
  | brk => exact q
  | cont => exact q
def tSetX (i : Nat) (te : TEX) : TSX := fun D EX σ H => te σ H (fun v H1 => D.nx (σ.set i (some v)) H1) (EX σ)
theorem psx_set (hN : X.N.Nodup) (hi : X.N[i]? = some x) (hx : Loc X.env.scope x) (he : PEX X e te) (hs : swapsWith e (some (.Name x pos')) pos.line X.env = pure false := by rfl) (hf : X.fn x = true ∨ X.env.scope.names.lookup x = some .local := by first | exact .inl rfl | exact .inr rfl | assumption) :
    PSX X [.Assign [.Name x pos'] e pos] (tSetX i te) := by
  intro pins s σ H D EX W I h hW
  refine execs_one (wpAny_Assign_Name (thn (he pins s σ H _ (EX σ) W I h fun H0 s0 y s' J q => hW σ H0 s0 y s' J q) fun v s1 ⟨y, H1, I1, r1, q1⟩ => ?_) hs)
  exact store_ok I1 hN hi hx r1 (fun s2 I2 => ⟨_, H1, I2, q1⟩) hf
def tIfX (c : TT) (t u : TSX) : TSX := fun D EX σ H => c σ H fun b H1 => if b = true then t D EX σ H1 else u D EX σ H1
theorem psx_if (hc : PT X.nox c tc) (ha : PSX X a t) (hb : PSX X b u) : PSX X [.If c a b pos] (tIfX tc t u) := by
  intro pins s σ H D EX W I h hW
  refine execs_one (wpAny_If (thn (PT.any hc I h) fun d s1 ⟨H1, I1, q1⟩ => ?_))
  cases d with
  | true => exact ha pins s1 σ H1 D EX W I1 q1 hW
  | false => exact hb pins s1 σ H1 D EX W I1 q1 hW
end
def IsExc (a C : Addr) (h : Heap) : Prop := ∃ ob vs, h.get? a = some ob ∧ ob.cls = .ref C ∧ ob.data = .fields vs
theorem isExc_ok {P : Program} {w : World} {H : Hp} {h : Heap} {a C : Addr} (x : IsExc a C h) : ObjOk P w H h a (.ext (IsExc a C)) := by
  obtain ⟨ob, vs, e1, e2, e3⟩ := id x
  exact ⟨x, ⟨ob, e1⟩, fun h1 h2 ⟨o1, v1, q1, q2, q3⟩ k => ⟨o1, v1, k o1 q1, q2, q3⟩⟩
section
variable {X : Cx} {pins : List (Addr × Obj)} {σ : St} {H : Hp} {s : Shared} {a : Addr} {o : HO}
theorem Inv.track (I : Inv X pins σ H s) (hn : H a = none) (h0 : X.s₀.heap.get? a = none) (hL : a ≠ X.env.locals) (hc : ∀ x c, X.env.cells.lookup x = some c → c ≠ a) (hp : ∀ p ∈ X.pn ++ pins, p.1 ≠ a)
    (ok : ObjOk X.prog X.w (upd H a o) s.heap a o) : Inv X pins σ (upd H a o) s where
  ok := I.ok
  os := I.os
  bare := I.bare
  base := ⟨I.base.keep, I.base.slot, fun b ob q n hx => by rw [upd_ne (fun z => by rw [z, h0] at q; cases q)]; exact I.base.free b ob q n hx, I.base.there,
    fun b xs q => by have z := I.base.tups b xs q; rw [upd_ne (ne_of_none z hn)]; exact z,
    fun b ob u q => by have z := I.base.frzs b ob u q; rw [upd_ne (ne_of_none z hn)]; exact z,
    fun b ps q => by obtain ⟨more, z⟩ := I.base.tbls b ps q; exact ⟨more, by rw [upd_ne (ne_of_none z hn)]; exact z⟩⟩
  loc := I.loc
  cell := I.cell
  free := by rw [upd_ne (Ne.symm hL)]; exact I.free
  freeC := fun x c e => by rw [upd_ne (hc x c e)]; exact I.freeC x c e
  pin := fun p hp2 => by
    obtain ⟨e, n, ne, nf, d⟩ := I.pin p hp2
    exact ⟨e, by rw [upd_ne (hp p hp2)]; exact n, ne, nf, d⟩
  hok := fun b u e => by
    by_cases hb : b = a
    · subst hb; rw [upd_same] at e; cases e; exact ok
    · rw [upd_ne hb] at e
      exact (I.hok b u e).stay (fun c v _ q => q) (fun c q => by rw [upd_ne (ne_of_none q hn)]; exact q) fun c xs q => by rw [upd_ne (ne_of_none q hn)]; exact q
  len := I.len
abbrev Cx.marked (X : Cx) (v : Option Value) : Cx := { X with A := X.A.mark v, calm := false, xe := fun _ _ => False }
theorem Inv.marked (I : Inv X pins σ H s) (v : Option Value) : Inv (X.marked v) pins σ H s where
  ok := { mod := I.ok.mod, kind := I.ok.kind, glob := I.ok.glob, blt := I.ok.blt, above := I.ok.above, inj := I.ok.inj, has := I.ok.has, cab := I.ok.cab, hd := (fun z => by cases z), frames := I.ok.frames, stk := I.ok.stk, exf := I.ok.exf, bs := I.ok.bs,
          bsz := I.ok.bsz, noex := I.ok.noex, exfs := I.ok.exfs, funs := I.ok.funs, frf := I.ok.frf }
  os := I.os
  bare := I.bare
  base := I.base
  loc := I.loc
  cell := I.cell
  free := I.free
  freeC := I.freeC
  pin := I.pin
  hok := I.hok
  len := I.len
theorem Inv.unmarked {v : Option Value} (ok : X.Ok) (I : Inv (X.marked v) pins σ H s) : Inv X pins σ H s := ⟨ok, I.os, I.bare, I.base, I.loc, I.cell, I.free, I.freeC, I.pin, I.hok, I.len⟩
theorem Inv.gone {h' : Heap} {t' : Nat} {j : Nat} {n : Str} {m : Str → Option Value} {v : Option Value} (I : Inv X pins σ H s) (hN : X.N.Nodup) (hj : X.N[j]? = some n)
    (hl : ∀ (i : Nat) (x : Str) (v : V), X.N[i]? = some x → σ[i]? = some (some v) → Vis X.env.scope x → ∃ u, RelV v u ∧ Look X.env s.heap m x u)
    (hn : h'.Ns X.env.locals (fun x => if x = n then v else m x)) (sb : Heap.SameBut X.env.locals s.heap h') : Inv X pins (σ.set j none) H { s with heap := h', toks := t' } := by
  have lt : ∀ b ob, X.s₀.heap.get? b = some ob → b ≠ X.env.locals := fun b ob e => Nat.ne_of_lt (Nat.lt_of_lt_of_le (Heap.lt_size e) I.ok.above)
  refine ⟨I.ok, I.os, I.bare, ⟨fun b ob e q hb hx => (sb.2 b (lt b ob e)).trans (I.base.keep b ob e q hb hx), fun b ob e q hb hx => ?_, I.base.free, fun b ob e hx => ?_, I.base.tups, I.base.frzs, I.base.tbls⟩, ⟨_, hn, fun i x u e1 e2 e3 => ?_⟩, fun y c e => ?_, I.free, I.freeC, fun p hp => ?_, fun b u e => ?_, by simpa using I.len⟩
  · obtain ⟨sl, z⟩ := I.base.slot b ob e q hb hx
    exact ⟨sl, (sb.2 b (lt b ob e)).trans z⟩
  · obtain ⟨o2, z⟩ := I.base.there b ob e hx
    exact ⟨o2, (sb.2 b (lt b ob e)).trans z⟩
  · by_cases hi : i = j
    · subst hi
      rw [List.getElem?_set] at e2
      simp only [if_true] at e2
      split at e2 <;> cases e2
    · rw [List.getElem?_set_ne (Ne.symm hi)] at e2
      obtain ⟨w2, r2, q2⟩ := hl i x u e1 e2 e3
      refine ⟨w2, r2, ?_⟩
      have nx : x ≠ n := fun z => hi (nodup_ix hN e1 (z ▸ hj))
      rcases q2 with ⟨k1, k2⟩ | ⟨k1, c, k2, k3⟩
      · exact .inl ⟨k1, by simp [nx, k2]⟩
      · exact .inr ⟨k1, c, k2, k3.sameBut sb (I.cne x c k2)⟩
  · obtain ⟨w2, z⟩ := I.cell y c e
    exact ⟨w2, z.sameBut sb (I.cne y c e)⟩
  · obtain ⟨e, q, ne, nf, d⟩ := I.pin p hp
    exact ⟨(sb.2 p.1 ne).trans e, q, ne, nf, d⟩
  · have nl : ∀ c u2, H c = some u2 → c ≠ X.env.locals := fun c u2 e2 => ne_of_none e2 I.free
    refine (I.hok b u e).stay (fun c w2 hc q => (sb.2 c ?_).trans q) (fun _ q => q) fun _ _ q => q
    rcases hc with z | z
    · rw [z]; exact nl b u e
    · exact nl c _ z
end
def tTry (K : PySem.W.Frag) (CE : Addr) (i j : Nat) (tb : TSX) : TS := fun D σ H =>
  tb D (fun σ' cls _ H' => ∃ C, cls = .ref C ∧ PySem.W.exmOne K (.ref C) (.ref CE) = some true ∧ ∀ a, H' a = none → D.nx ((σ'.set i (some (.ref a))).set j none) (upd H' a (.ext (IsExc a C)))) σ H
theorem ps_try {X : Cx} {bd : List Stmt} {x n kx : Str} {CE : Addr} {i j : Nat} {tb : TSX} {np p1 p2 p3 hpos pos : Pos} (hx0 : X.ex = []) (hst : X.stack = X.env :: X.outer) (hfr : X.env.frame = some X.env.locals)
    (hb : PSX X bd tb) (hg : Gl X x) (hm : X.mg x = some (.ref CE)) (hN : X.N.Nodup) (hi : X.N[i]? = some kx) (hj : X.N[j]? = some n) (hij : i ≠ j)
    (li : X.env.scope.names.lookup kx = some .local) (lj : X.env.scope.names.lookup n = some .local) (hdb : (x == ("__debug__" : Str)) = false := by decide) (hdn : (n == ("__debug__" : Str)) = false := by decide) (hcn : (n == ("__classdict__" : Str)) = false := by decide)
    (hs : swapsWith (.Name n p2) (some (.Name kx p1)) p3.line X.env = pure false := by rfl) :
    PS X (.Try bd [.ExceptHandler (some (.Name x np)) (some n) [.Assign [.Name kx p1] (.Name n p2) p3] hpos] [] [] pos) (tTry X.K CE i j tb) := by
  intro pins s σ H D I h
  refine wpAny_Try_except ?_
  refine wpAny_mono (hb pins s σ H D _ (fun e s1 => wpAny (model X.prog X.w) X.A (noteFrame e X.env) (fun _ s2 => wpAny (model X.prog X.w) X.A (setFlight e none) (fun _ s3 => wpAny (model X.prog X.w) X.A (handleBy e X.env
    [.ExceptHandler (some (.Name x np)) (some n) [.Assign [.Name kx p1] (.Name n p2) p3] hpos]) (SP X pins D) X.xe s3) X.xe s2) X.xe s1) I h fun σ1 H0 s0 y s1 J cx => ?_) (fun f s1 q => ?_) fun e s1 q => q
  · obtain ⟨a, C, a0, B, H1, rfl, ho, hg1, u, hok, fl, ov, C1, eC, hex, kq⟩ := cx
    have eC : C = C1 := Value.ref.inj eC
    subst eC
    have fl0 : Heap.FlyingW B (X.env :: X.outer) a (.ref C) a0 s1.heap := hst ▸ fl
    have hna : H1 a = none := by
      cases z : H1 a with
      | none => rfl
      | some o1 =>
        obtain ⟨ob, e1⟩ := ov.tr a o1 z
        rw [fl.2.1] at e1
        cases e1
    have na : ∀ b ob, s0.heap.get? b = some ob → b ≠ a := fun b ob e1 z => by
      subst z
      by_cases hb2 : b ∈ frs X.stack
      · obtain ⟨oe, vs, T, oT, ts, q1, q2, q3, q4⟩ := fl.2.2.2
        have nf := (fl.2.2.1.mem hb2).2
        obtain ⟨o2, z2, z3⟩ := nf
        rw [q1] at z2
        cases z2
        exact z3 _ q3
      · obtain ⟨o2, e2⟩ := ov.ex b ob e1 hb2
        rw [fl.2.1] at e2
        cases e2
    have inv : ∀ h6 : Heap, B.StaysIn h6 → s1.heap.UpToSlots h6 → Inv X pins σ1 H1 { s1 with heap := h6 } := fun h6 k6 sm =>
      J.call' (s' := { s1 with heap := h6 }) (ch := []) ho (u.fly ov J.noRec J.stkFree k6 sm) (hok.fly ov.tr fl.1 k6) hg1 (fun _ z => nomatch z)
    refine wpAny_looks_onW (L := X.env.locals) (by rw [J.ok.frames, hst]) hfr fl0 fun h4 held4 sm4 => ?_
    refine wpAny_landsW held4 fun h5 fl5 sm5 => ?_
    have sm45 := sm4.trans sm5
    have I5 := inv h5 fl5.1 sm45
    refine wpAny_handleBy_cons (codeAny_handlers_test (ld_glob (X := X.marked (some (.ref a))) (I5.marked _) hg hm ?_ hdb)) (by intro q; cases q)
    obtain ⟨ob, hob, hobc⟩ := fl5.there
    have LT : PySem.W.Looks (model X.prog X.w) h5 (typeOf (.ref a)) (.ref C) := hobc ▸ (PySem.W.Looks.ld hob).andThen .now
    refine PySem.W.Looks.here (PySem.W.exm_one (M := model X.prog X.w) (h := h5) I5.kIn LT hex) ?_
    refine codeAny_handlers_suite_as ?_
    refine lands_againW fl5 fun h6 fl6 sm6 => ?_
    have I6 := inv h6 fl6.1 (sm45.trans sm6)
    obtain ⟨oe, ws, hoe, hoec, hoed, _⟩ := fl6.first
    have I6t : Inv X pins σ1 (upd H1 a (.ext (IsExc a C))) { s1 with heap := h6 } := by
      refine I6.track hna ?_ ?_ ?_ ?_ (isExc_ok ⟨oe, ws, hoe, hoec, hoed⟩)
      · cases z : X.s₀.heap.get? a with
        | none => rfl
        | some o0 =>
          exfalso
          have hxx : a ∉ X.ex := by rw [hx0]; simp
          obtain ⟨o2, e2⟩ := J.base.there a o0 z hxx
          exact na a o2 e2 rfl
      · intro z
        obtain ⟨m, ⟨oL, _, _, hoL, _⟩, _⟩ := J.loc
        exact na _ oL hoL z.symm
      · intro y c e1 z
        obtain ⟨v1, oc, hoc, _⟩ := J.cell y c e1
        exact na c oc hoc z
      · intro p hp z
        exact na p.1 p.2 (J.pin p hp).1 z
    refine store_ok I6t hN hj (.inl lj) (v := .ref a) rfl (fun s7 I7 => ?_) (.inr lj)
    have PSk : PS (X.marked (some (.ref a))) (.Assign [.Name kx p1] (.Name n p2) p3) (tAsg (tVar j) (gName i)) := ps_set (X := X.marked (some (.ref a))) hN hi (.inl li) (pe_var hj (.inl lj) hdn hcn) hs (.inr li)
    have vj : ((σ1.set j (some (V.ref a))))[j]? = some (some (.ref a)) := by
      rw [List.getElem?_set_self]
      rw [I6.len]
      exact (List.getElem?_eq_some_iff.mp hj).1
    refine wpAny_mono ((pss_one PSk) pins s7 _ _ { nx := fun σ2 H2 => σ2 = (σ1.set j (some (.ref a))).set i (some (.ref a)) ∧ H2 = upd H1 a (.ext (IsExc a C)), rt := fun _ _ => False } (I7.marked _) ⟨.ref a, vj, rfl, rfl⟩) (fun f s8 q => ?_) fun _ _ z => z.elim
    cases f with
    | next =>
      obtain ⟨σ2, H2, J8, e8, e9⟩ := q
      subst e8 e9
      have I8 : Inv X pins _ _ s8 := J8.unmarked I.ok
      obtain ⟨m, hn8, hl8⟩ := id I8.loc
      have hp8 : (X.env.scope.kind == .class || (X.env.scope.kind == .module && X.env.locals != X.env.globals)) = false := by rw [I.ok.kind]; rfl
      refine wpAny_nameGoes_keeps lj hn8 hp8 fun h9 v9 hn9 sb9 => ?_
      have I9 := I8.gone (t' := s8.toks + 1) hN hj hl8 hn9 sb9
      refine ⟨_, _, I9, ?_⟩
      have es : (((σ1.set j (some (V.ref a))).set i (some (.ref a))).set j none) = (σ1.set i (some (.ref a))).set j none := by
        rw [List.set_comm _ _ hij.symm, List.set_set]
      rw [es]
      exact kq a hna
    | ret v => exact (let ⟨_, _, _, _, _, z⟩ := q; z.elim)
    | brk => exact (let ⟨_, _, _, z⟩ := q; z.elim)
    | cont => exact (let ⟨_, _, _, z⟩ := q; z.elim)
  · cases f with
    | next => exact wpAny_execs_nil q
    | ret v => exact q
    | brk => exact q
    | cont => exact q
end L2
set_option Elab.async false
set_option linter.all false
set_option maxRecDepth 100000
namespace L2
open PySem PySem.Spec PyProof.Rows
structure FnAt (K : PySem.W.Frag) (mg : Str → Option Value) (x : Str) (st : Stmt) (ps : List Str) : Prop where
  ex : ∃ f fd, mg x = some (.ref f) ∧ Fun K x x st f fd ∧ Binds K fd ps []
structure MtAt (K : PySem.W.Frag) (C : Addr) (m qual : Str) (st : Stmt) (ps : List Str) : Prop where
  ex : ∃ f fd, Meth K C m f ∧ Fun K m qual st f fd ∧ Binds K fd ps []
structure InAt (K : PySem.W.Frag) (C : Addr) (qual : Str) (st : Stmt) (ps : List Str) : Prop where
  ex : ∃ f fd, Mk K C f ∧ Fun K "__init__" qual st f fd ∧ Binds K fd ps []
def Has (P : Program) (w : World) (K : PySem.W.Frag) (mg : Str → Option Value) (base : Heap) (CX : CXT) (k : Nat) (x : Str) (ps : List Str) (sp : Sp) : Prop :=
  ∃ f fd, mg x = some (.ref f) ∧ PySem.W.keepIn K (.ref f) = true ∧ Binds K fd ps [] ∧ FnOk P w K mg base CX k f fd ps sp
def HasM (P : Program) (w : World) (K : PySem.W.Frag) (mg : Str → Option Value) (base : Heap) (CX : CXT) (k : Nat) (C : Addr) (m : Str) (ps : List Str) (sp : Sp) : Prop :=
  ∃ f fd, Meth K C m f ∧ Binds K fd ps [] ∧ FnOk P w K mg base CX k f fd ps sp
def HasI (P : Program) (w : World) (K : PySem.W.Frag) (mg : Str → Option Value) (base : Heap) (CX : CXT) (k : Nat) (C : Addr) (ps : List Str) (sp : Sp) : Prop :=
  ∃ f fd, Mk K C f ∧ Binds K fd ps [] ∧ FnOk P w K mg base CX k f fd ps sp
theorem FnAt.has {P : Program} {w : World} {K : PySem.W.Frag} {mg : Str → Option Value} {base : Heap} {CX : CXT} {k : Nat} {x : Str} {st : Stmt} {ps : List Str} {sp : Sp} (F : FnAt K mg x st ps)
    (h : ∀ f fd, Fun K x x st f fd → FnOk P w K mg base CX k f fd ps sp) : Has P w K mg base CX k x ps sp := by
  obtain ⟨f, fd, a, b, c⟩ := F.ex
  exact ⟨f, fd, a, b.kp, c, h f fd b⟩
theorem MtAt.has {P : Program} {w : World} {K : PySem.W.Frag} {mg : Str → Option Value} {base : Heap} {CX : CXT} {k : Nat} {C : Addr} {m qual : Str} {st : Stmt} {ps : List Str} {sp : Sp} (F : MtAt K C m qual st ps)
    (h : ∀ f fd, Fun K m qual st f fd → FnOk P w K mg base CX k f fd ps sp) : HasM P w K mg base CX k C m ps sp := by
  obtain ⟨f, fd, a, b, c⟩ := F.ex
  exact ⟨f, fd, a, c, h f fd b⟩
theorem InAt.has {P : Program} {w : World} {K : PySem.W.Frag} {mg : Str → Option Value} {base : Heap} {CX : CXT} {k : Nat} {C : Addr} {qual : Str} {st : Stmt} {ps : List Str} {sp : Sp} (F : InAt K C qual st ps)
    (h : ∀ f fd, Fun K "__init__" qual st f fd → FnOk P w K mg base CX k f fd ps sp) : HasI P w K mg base CX k C ps sp := by
  obtain ⟨f, fd, a, b, c⟩ := F.ex
  exact ⟨f, fd, a, c, h f fd b⟩
section
variable {X : Cx} {k k' : Nat} {C : Addr} {ps : List Str} {sp : Sp} {E : XK} {x m : Str} {p pos apos : Pos} {e o : Expr} {es : List Expr} {ta : TE} {t : TA}
theorem pe_callH (G : Has X.prog X.w X.K X.mg X.base CX0 k x ps sp) (hr : Room k' X.A) (ha : PA X (e :: es) t) (hk : k ≤ k' := by decide) (hg : Gl X x := by rfl)
    (hdb : (x == ("__debug__" : Str)) = false := by decide) (he : starEach (e :: es) X.env = (false, eval e X.env) :: starEach es X.env := by rfl) (hpl : (backTo pos (starEach es X.env)).any (·.1) = false := by rfl) :
    PE X (.Call (.Name x p) (e :: es) [] pos) (tCall sp [] E0 t) := by
  obtain ⟨f, fd, a, b, c, d⟩ := G
  exact pe_call d (hr.mono hk) hg a b c .nil pass0 ha hdb he hpl
theorem pe_callH1 (G : Has X.prog X.w X.K X.mg X.base (CX1 X.prog X.w) k x ps sp) (lv : Leaves X E) (hr : Room k' X.A) (ha : PA X (e :: es) t) (hk : k ≤ k' := by decide) (hg : Gl X x := by rfl)
    (hdb : (x == ("__debug__" : Str)) = false := by decide) (he : starEach (e :: es) X.env = (false, eval e X.env) :: starEach es X.env := by rfl) (hpl : (backTo pos (starEach es X.env)).any (·.1) = false := by rfl) :
    PE X (.Call (.Name x p) (e :: es) [] pos) (tCall sp [] E t) := by
  obtain ⟨f, fd, a, b, c, d⟩ := G
  exact pe_call d (hr.mono hk) hg a b c .nil (pass1 lv) ha hdb he hpl
theorem pe_makeH (G : HasI X.prog X.w X.K X.mg X.base CX0 k C ps sp) (hm : X.mg x = some (.ref C)) (hr : Room k' X.A) (ha : PA X (e :: es) t) (hk : k + 1 ≤ k' := by decide) (hg : Gl X x := by rfl)
    (hdb : (x == ("__debug__" : Str)) = false := by decide) (he : starEach (e :: es) X.env = (false, eval e X.env) :: starEach es X.env := by rfl) (hpl : (backTo pos (starEach es X.env)).any (·.1) = false := by rfl) :
    PE X (.Call (.Name x p) (e :: es) [] pos) (tMake C sp [] E0 t) := by
  obtain ⟨f, fd, a, c, d⟩ := G
  exact pe_make a d (hr.mono hk) hg hm c .nil pass0 ha hdb he hpl
theorem pe_methH {pl : Sem Bool} (ho : PE X o ta) (cl : Cls X.K C) (G : HasM X.prog X.w X.K X.mg X.base CX0 k C m ps sp) (hr : Room k' X.A) (ha : PA X (e :: es) t) (hk : k ≤ k' := by decide)
    (hst : starEach (e :: es) X.env = (false, eval e X.env) :: starEach es X.env := by rfl) (hpl : (backTo pos (starEach es X.env)).any (·.1) = false := by rfl)
    (ht : eval (.Call (.Attribute o m apos) (e :: es) [] pos) X.env = (do
      let ov ← eval o X.env
      standAt apos.atName
      let (f, first) ← holding [ov] (getMethod ov m pl)
      callWith pos f first (backTo pos (starEach (e :: es) X.env)) (backToKw pos (keywordEach [] X.env))) := by rfl) :
    PE X (.Call (.Attribute o m apos) (e :: es) [] pos) (tMeth C m sp [] E0 ta t) := by
  obtain ⟨f, fd, a, c, d⟩ := G
  exact pe_meth ho cl a d (hr.mono hk) c .nil pass0 ha hst hpl ht
theorem pe_methH0 {pl : Sem Bool} (ho : PE X o ta) (cl : Cls X.K C) (G : HasM X.prog X.w X.K X.mg X.base CX0 k C m ps sp) (hr : Room k' X.A) (hk : k ≤ k' := by decide)
    (ht : eval (.Call (.Attribute o m apos) [] [] pos) X.env = (do
      let ov ← eval o X.env
      standAt apos.atName
      let (f, first) ← holding [ov] (getMethod ov m pl)
      callWith pos f first (backTo pos (starEach [] X.env)) (backToKw pos (keywordEach [] X.env))) := by rfl) :
    PE X (.Call (.Attribute o m apos) [] [] pos) (tMeth C m sp [] E0 ta tNil) := by
  obtain ⟨f, fd, a, c, d⟩ := G
  exact pe_meth0 ho cl a d (hr.mono hk) c .nil pass0 ht
theorem pe_methH1 {pl : Sem Bool} (ho : PE X o ta) (cl : Cls X.K C) (G : HasM X.prog X.w X.K X.mg X.base (CX1 X.prog X.w) k C m ps sp) (lv : Leaves X E) (hr : Room k' X.A) (ha : PA X (e :: es) t) (hk : k ≤ k' := by decide)
    (hst : starEach (e :: es) X.env = (false, eval e X.env) :: starEach es X.env := by rfl) (hpl : (backTo pos (starEach es X.env)).any (·.1) = false := by rfl)
    (ht : eval (.Call (.Attribute o m apos) (e :: es) [] pos) X.env = (do
      let ov ← eval o X.env
      standAt apos.atName
      let (f, first) ← holding [ov] (getMethod ov m pl)
      callWith pos f first (backTo pos (starEach (e :: es) X.env)) (backToKw pos (keywordEach [] X.env))) := by rfl) :
    PE X (.Call (.Attribute o m apos) (e :: es) [] pos) (tMeth C m sp [] E ta t) := by
  obtain ⟨f, fd, a, c, d⟩ := G
  exact pe_meth ho cl a d (hr.mono hk) c .nil (pass1 lv) ha hst hpl ht
theorem pe_methH01 {pl : Sem Bool} (ho : PE X o ta) (cl : Cls X.K C) (G : HasM X.prog X.w X.K X.mg X.base (CX1 X.prog X.w) k C m ps sp) (lv : Leaves X E) (hr : Room k' X.A) (hk : k ≤ k' := by decide)
    (ht : eval (.Call (.Attribute o m apos) [] [] pos) X.env = (do
      let ov ← eval o X.env
      standAt apos.atName
      let (f, first) ← holding [ov] (getMethod ov m pl)
      callWith pos f first (backTo pos (starEach [] X.env)) (backToKw pos (keywordEach [] X.env))) := by rfl) :
    PE X (.Call (.Attribute o m apos) [] [] pos) (tMeth C m sp [] E ta tNil) := by
  obtain ⟨f, fd, a, c, d⟩ := G
  exact pe_meth0 ho cl a d (hr.mono hk) c .nil (pass1 lv) ht
theorem pex_methH {pl : Sem Bool} (ho : PE X.nox o ta) (cl : Cls X.K C) (G : HasM X.prog X.w X.K X.mg X.base (CX1 X.prog X.w) k C m ps sp) (hr : Room k' X.A) (ha : PA X.nox (e :: es) t) (hk : k ≤ k' := by decide)
    (hst : starEach (e :: es) X.env = (false, eval e X.env) :: starEach es X.env := by rfl) (hpl : (backTo pos (starEach es X.env)).any (·.1) = false := by rfl)
    (ht : eval (.Call (.Attribute o m apos) (e :: es) [] pos) X.env = (do
      let ov ← eval o X.env
      standAt apos.atName
      let (f, first) ← holding [ov] (getMethod ov m pl)
      callWith pos f first (backTo pos (starEach (e :: es) X.env)) (backToKw pos (keywordEach [] X.env))) := by rfl) :
    PEX X (.Call (.Attribute o m apos) (e :: es) [] pos) (tMethX C m sp ta t) := by
  obtain ⟨f, fd, a, c, d⟩ := G
  exact pex_meth ho cl a d (hr.mono hk) c ha hst hpl ht
theorem pex_methH0 {pl : Sem Bool} (ho : PE X.nox o ta) (cl : Cls X.K C) (G : HasM X.prog X.w X.K X.mg X.base (CX1 X.prog X.w) k C m ps sp) (hr : Room k' X.A) (hk : k ≤ k' := by decide)
    (ht : eval (.Call (.Attribute o m apos) [] [] pos) X.env = (do
      let ov ← eval o X.env
      standAt apos.atName
      let (f, first) ← holding [ov] (getMethod ov m pl)
      callWith pos f first (backTo pos (starEach [] X.env)) (backToKw pos (keywordEach [] X.env))) := by rfl) :
    PEX X (.Call (.Attribute o m apos) [] [] pos) (tMethX C m sp ta tNil) := by
  obtain ⟨f, fd, a, c, d⟩ := G
  exact pex_meth0 ho cl a d (hr.mono hk) c ht
theorem pe_gI {i : Int} (hg : Gl X x) (h : ∃ u, X.mg x = some (.int i u)) (hd : (x == ("__debug__" : Str)) = false := by decide) : PE X (.Name x pos) (tC (.int i)) := by
  obtain ⟨u, hu⟩ := h
  exact pe_glob hg hu ⟨u, rfl⟩ hd
theorem pe_gR {a : Addr} (hg : Gl X x) (h : X.mg x = some (.ref a)) (hd : (x == ("__debug__" : Str)) = false := by decide) : PE X (.Name x pos) (tC (.ref a)) := pe_glob hg h rfl hd
end
def clsV : V → Option Value
  | .ty n => some (.type n)
  | .ref a => some (.ref a)
  | _ => none
theorem clsV_rel {c : V} {u cv : Value} (r : RelV c u) (h : clsV c = some cv) : u = cv := by
  cases c <;> simp [clsV] at h
  · subst h; exact r
  · subst h; exact r
section
variable {X : Cx}
theorem call_isinst : CallR X (.builtin "isinstance") (fun xs H Q => ∃ x c cv t b, xs = [x, c] ∧ clsV c = some cv ∧ TyOf X.K H x t ∧ PySem.W.kitOne X.K t cv = some b ∧ Q (.bl b) H) := by
  intro pins s σ H xs us Q I r h
  obtain ⟨x, c, cv, t, b, rfl, hc, ty, e, q⟩ := h
  obtain ⟨u, v, rfl, ru, rv⟩ := vals2 r
  rw [clsV_rel rv hc]
  exact isinst_ok I ru ty e fun tk => ⟨.bl b, H, I.tok tk, rfl, q⟩
end
section
variable {X : Cx}
def rEqL (K : PySem.W.Frag) : R2 := fun x y H Q => ∃ a b xs ys, x = .ref a ∧ y = .ref b ∧ SqL K H a xs ∧ SqL K H b ys ∧ ((xs.length ≠ ys.length ∧ Q (.bl false) H) ∨ (xs = ys ∧ (∀ v ∈ xs, ∃ p, v = .ref p) ∧ Q (.bl true) H))
theorem op_eqL (hu : X.A.units + 1 < cLine) : OpR X (compareOp .Eq) (rEqL X.K) := by
  intro pins s σ H x y v u Q I rx ry h
  obtain ⟨a, b, xs, ys, rfl, rfl, hx, hy, h⟩ := h
  obtain rfl : v = Value.ref a := rx
  obtain rfl : u = Value.ref b := ry
  obtain ⟨its, rv, p, hz⟩ := I.list hx
  obtain ⟨its2, rv2, p2, hz2⟩ := I.list hy
  rcases h with ⟨hne, q⟩ | ⟨rfl, hr, q⟩
  · refine SeqAt.eq_list_lengthsAt p.isList p2.isList ?_ (Nat.lt_of_succ_lt hu) ⟨.bl false, H, I, rfl, q⟩
    have e1 := rv.length
    have e2 := rv2.length
    simp only [List.size_toArray, bne_iff_ne, ne_eq]
    omega
  · have same : its = its2 := by
      clear hx hy p p2 hz hz2 q
      induction xs generalizing its its2 with
      | nil => cases rv; cases rv2; rfl
      | cons z zs ih =>
        cases rv with
        | cons r1 t1 =>
          cases rv2 with
          | cons r2 t2 =>
            obtain ⟨pz, rfl⟩ := hr z (List.mem_cons_self ..)
            rw [show _ = Value.ref pz from r1, show _ = Value.ref pz from r2, ih _ t1 _ t2 (fun v hv => hr v (List.mem_cons_of_mem _ hv))]
    subst same
    refine SeqAt.eq_listAt (e := fun _ => true) p.isList p2.isList rfl (Nat.lt_of_succ_lt hu) (fun j h1 h2 => SeqAt.EqAt.same _) ?_
    have e1 : (List.range its.toArray.size).all (fun _ => true) = true := by simp
    rw [e1]
    exact ⟨.bl true, H, I, rfl, q⟩
end
end L2
set_option Elab.async false
set_option linter.all false
set_option maxRecDepth 100000
namespace L2
open PySem PySem.Spec PyProof.Rows
abbrev TF := Str → St → Hp → VK → Prop
def PF (X : Cx) (es : List Expr) (t : TF) : Prop :=
  ∀ (out : Str) (pins : List (Addr × Obj)) (s : Shared) (σ : St) (H : Hp) (Q : VK), Inv X pins σ H s → t out σ H Q → wpAny (model X.prog X.w) X.A (joinParts out (evalEach es X.env)) (EP X pins σ Q) X.xe s
section
variable {X : Cx} {e e2 : Expr} {es : List Expr} {te : TE} {t : TF} {y : Str} {j : Nat} {p p2 pos : Pos}
def fNil : TF := fun out _ H Q => out.length ≤ sizeLine ∧ Q (.str out) H
def fStr (y : Str) (t : TF) : TF := fun out σ H Q => (out ++ y).length ≤ sizeLine ∧ t (out ++ y) σ H Q
def fInt (te : TE) (t : TF) : TF := fun out σ H Q => te σ H fun x H1 => ∃ i : Int, x = .int i ∧ i.natAbs.log2 < 1920 ∧ (out ++ (toString i : Str)).length ≤ sizeLine ∧ t (out ++ (toString i : Str)) σ H1 Q
theorem pf_nil : PF X [] fNil := fun out pins s σ H Q I h => joinParts_nil ⟨.str out, H, I.tok _, ⟨_, rfl⟩, h.2⟩ h.1
theorem pf_str (h : PF X es t) : PF X (.Constant (.str y) j p :: es) (fStr y t) := by
  intro out pins s σ H Q I q
  refine joinParts_cons (Calls.Constant_str ?_)
  exact ⟨q.1, h (out ++ y) pins _ σ H Q (I.tok _) q.2⟩
theorem pf_int (he : PE X e te) (h : PF X es t) : PF X (.FormattedValue e (-1) none p :: es) (fInt te t) := by
  intro out pins s σ H Q I q
  refine joinParts_cons (FormattedValue_plain (thn (he pins s σ H _ I q) fun v s1 ⟨x, H1, I1, r1, i, ex, hl, hz, q1⟩ => ?_))
  subst ex
  obtain ⟨t1, rfl⟩ := r1
  exact formatField_int_small hl ⟨hz, h _ pins _ σ H1 Q (I1.tok _) q1⟩
def tFs (t : TF) : TE := fun σ H Q => t Str.empty σ H Q
theorem pe_fstr (h : PF X (e :: e2 :: es) t) : PE X (.JoinedStr (e :: e2 :: es) pos) (tFs t) := fun pins s σ H Q I q => JoinedStr_many (h Str.empty pins s σ H Q I q)
end
def Ite (K : PySem.W.Frag) (a : Addr) : It :=
  ⟨fun i H => ∃ xs x, SqL K H a xs ∧ xs[i]? = some x, fun i H v H' => ∃ t x, H t = none ∧ v = .ref t ∧ H' = upd H t (.tup [.int i, x]) ∧ ∀ xs, SqL K H a xs → xs[i]? = some x, fun i H => ∃ xs, SqL K H a xs ∧ xs.length ≤ i⟩
theorem turn_enum {P : Program} {w : World} {K : PySem.W.Frag} {elts : List Expr} {x1 : Nat} {tp : Pos} (a e it : Addr) (hne : e ≠ it) :
    Turn P w K (.Tuple elts x1 tp) (Ite K a) [e, it] e (fun i h => ∃ old, IsEnum h e it i old ∧ h.IsListIter it a i) where
  mem := by simp
  obj := fun i h st b hb => by
    obtain ⟨old, h1, h2⟩ := st
    have e0 : b = e ∨ b = it := by simpa using hb
    rcases e0 with rfl | rfl
    · exact ⟨_, h1, fun v z => nomatch z⟩
    · obtain ⟨o, q1, q2, q3⟩ := h2
      exact ⟨o, q1, fun v z => by rw [q3] at z; cases z⟩
  keep := fun i h h' ⟨old, h1, h2⟩ k => ⟨old, k e (by simp) _ h1, h2.at fun o q => k it (by simp) o q⟩
  item := by
    intro X hP hw hK hc i pins s σ H E I hf st hg
    subst hP hw hK
    obtain ⟨old, h1, h2⟩ := st
    obtain ⟨xs, x, hq, hx⟩ := hg
    obtain ⟨its, rv, p, hz⟩ := I.list hq
    obtain ⟨u, hu, ru⟩ := rv.get hx
    obtain ⟨f0, f1, f2, f3, f4, f5⟩ := hf e (by simp)
    obtain ⟨g0, g1, g2, g3, g4, g5⟩ := hf it (by simp)
    refine wpAny_pyNext_enum_item h1 h2 p.isList (x := u) (by simpa using hu) hne fun h' he hit ht hsz hk => ?_
    refine ⟨.ref s.heap.objs.size, rfl, ?_⟩
    refine wpAny_letOwnedTupleGo_enum (s := { s with heap := h', toks := s.toks + 1 }) he fun h3 he3 hs3 => ?_
    replace hs3 : Heap.SameBut e h' h3 := hs3
    have lt_e : e < s.heap.objs.size := Heap.lt_size h1
    have lt_it : it < s.heap.objs.size := by obtain ⟨o, q1, _⟩ := h2; exact Heap.lt_size q1
    have kk : ∀ b o, b ≠ e → b ≠ it → s.heap.get? b = some o → h3.get? b = some o := fun b o n1 n2 q => (hs3.2 b n1).trans (hk b o n1 n2 q)
    have ht3 : h3.get? s.heap.objs.size = some { cls := .type "tuple", data := .seq #[.int i s.toks, u] } := (hs3.2 _ (Nat.ne_of_gt lt_e)).trans ht
    have hn : H s.heap.objs.size = none := I.hok.fresh (Nat.le_refl _)
    have neL : s.heap.objs.size ≠ X.env.locals := Nat.ne_of_gt I.lt
    have J : Inv X pins σ (upd H s.heap.objs.size (.tup [.int i, x])) { s with heap := h3, toks := s.toks + 1 } := by
      refine I.step (g' := s.gens) (d' := s.drawn) (ch := [e, it]) (fun b hb => ?_) (fun b o _ _ hc2 q n => kk b o (fun z => hc2 (by simp [z])) (fun z => hc2 (by simp [z])) q)
        (fun b o _ _ hc2 q n => ⟨o.slots, kk b o (fun z => hc2 (by simp [z])) (fun z => hc2 (by simp [z])) q⟩) (fun b o hc2 q n => ?_) (fun b o hc2 q => ⟨o, kk b o (fun z => hc2 (by simp [z])) (fun z => hc2 (by simp [z])) q⟩)
        (fun b ys q => by rw [upd_ne (ne_of_none q hn)]; exact q) (fun b o u2 q => by rw [upd_ne (ne_of_none q hn)]; exact q) (fun b ps q => ⟨#[], by rw [upd_ne (ne_of_none q hn), q]; simp⟩) (fun m hm => ?_) (fun b u2 q => ?_) I.bare
      · have e0 : b = e ∨ b = it := by simpa using hb
        rcases e0 with rfl | rfl
        · exact ⟨f3, f1, f4, f5⟩
        · exact ⟨g3, g1, g4, g5⟩
      · rw [upd_ne (Nat.ne_of_lt (Heap.lt_size q))]; exact n
      · obtain ⟨o, es, ep, ho, r⟩ := hm
        exact ⟨o, es, ep, kk _ o (Ne.symm f1) (Ne.symm g1) ho, r⟩
      · by_cases hb : b = s.heap.objs.size
        · subst hb
          rw [upd_same] at q
          cases q
          refine ⟨by show 2 ≤ sizeLine; decide, [.int i s.toks, u], .cons ⟨_, rfl⟩ (.cons ru .nil), ?_⟩
          exact ⟨_, ht3, rfl, _, rfl⟩
        · rw [upd_ne hb] at q
          have n1 : ∀ c u3, H c = some u3 → c ≠ e := fun c u3 z => ne_of_none z f0
          have n2 : ∀ c u3, H c = some u3 → c ≠ it := fun c u3 z => ne_of_none z g0
          refine (I.hok b u2 q).stay (fun c v hc3 r => ?_) (fun c r => by rw [upd_ne (ne_of_none r hn)]; exact r) fun c ys r => by rw [upd_ne (ne_of_none r hn)]; exact r
          rcases hc3 with z | z
          · rw [z] at r ⊢; exact kk b v (n1 b u2 q) (n2 b u2 q) r
          · exact kk c v (n1 c _ z) (n2 c _ z) r
    refine ⟨.ref s.heap.objs.size, _, J, rfl, ⟨s.heap.objs.size, x, hn, rfl, rfl, fun ys hy => by rw [I.list_inj hy hq]; exact hx⟩, ⟨u, ?_, ?_⟩, fun b hb => ?_⟩
    · have e1 : ((i + 1 : Nat) : Int) = (i : Int) + 1 := by push_cast; rfl
      rw [e1]
      exact he3
    · exact hit.at fun o q => (hs3.2 it (Ne.symm hne)).trans q
    · have e0 : b = e ∨ b = it := by simpa using hb
      rcases e0 with rfl | rfl
      · rw [upd_ne (Nat.ne_of_lt lt_e)]; exact f0
      · rw [upd_ne (Nat.ne_of_lt lt_it)]; exact g0
  done := by
    intro X hP hw hK hc i pins s σ H E I hf st hg
    subst hP hw hK
    obtain ⟨old, h1, h2⟩ := st
    obtain ⟨xs, hq, hx⟩ := hg
    obtain ⟨its, rv, p, hz⟩ := I.list hq
    obtain ⟨g0, g1, g2, g3, g4, g5⟩ := hf it (by simp)
    have hl := rv.length
    exact wpAny_pyNext_enum_end (I.ok.hd hc) h1 h2 p.isList (by simp; omega) fun h' eb => ⟨rfl, I.turned (t' := s.toks) (fun b o hb q => eb b o hb q) g0 g1 g3 g4 g5⟩
  self := fun _ _ _ _ _ ⟨_, h1, _⟩ h => wpAny_pyIter_enum h1 h
section
variable {X : Cx} {elts : List Expr} {x1 : Nat} {tp : Pos}
def iEnum (K : PySem.W.Frag) (ta : TA) : TI := fun σ H R => ta σ H fun vs H1 => ∃ a, vs = [.ref a] ∧ (∃ xs, SqL K H1 a xs) ∧ R (Ite K a) H1
theorem pi_enum {l : Expr} {ta : TA} {p pos : Pos} (hg : Gl X "enumerate") (hm : X.mg "enumerate" = none) (ha : PA X [l] ta) (hs : starEach [l] X.env = [(false, eval l X.env)] := by rfl) :
    PI X (.Tuple elts x1 tp) (.Call (.Name "enumerate" p) [l] [] pos) (iEnum X.K ta) := by
  intro pins s σ H R I h
  refine Call_ (ld_blt I hg hm boot_enumerate (PyProof.Rows.callWith_type1 (thn (ha pos pins s σ H _ I h) fun us s1 ⟨vs, H1, I1, r1, q1⟩ => ?_) hs rfl))
  obtain ⟨a, rfl, ⟨xs, hq⟩, q⟩ := q1
  obtain ⟨u, rfl, ru⟩ := vals1 r1
  obtain rfl : u = Value.ref a := ru
  obtain ⟨its, rv, pl, hz⟩ := I1.list hq
  refine call_enumerate_list pl.isList fun h' he hit hsz hk => ?_
  refine wpAny_pyIter_enum he ?_
  have J : Inv X pins σ H1 { s1 with heap := h' } := I1.kept (t' := s1.toks) hk
  refine ⟨s1.heap.objs.size + 1, [s1.heap.objs.size + 1, s1.heap.objs.size], _, _, H1, rfl, J, turn_enum a _ _ (Nat.ne_of_gt (Nat.lt_succ_self _)), ⟨_, he, hit⟩, fun b hb => ?_, q⟩
  have e0 : b = s1.heap.objs.size + 1 ∨ b = s1.heap.objs.size := by simpa using hb
  rcases e0 with rfl | rfl
  · exact I1.fpOk (Nat.le_succ _) (I1.hok.fresh (Nat.le_succ _))
  · exact I1.fpOk (Nat.le_refl _) (I1.hok.fresh (Nat.le_refl _))
theorem for_enum {K : PySem.W.Frag} {a : Addr} {xs : List V} {g : TG} {tb : TS} {D : Ends} {σ : St} {H : Hp} (Pv : Nat → St → Hp → Prop) (h0 : Pv 0 σ H) (hl : ∀ i σ H, i ≤ xs.length → Pv i σ H → SqL K H a xs)
    (hs : ∀ i x t σ H, xs[i]? = some x → Pv i σ H → H t = none → g (.ref t) σ (upd H t (.tup [.int i, x])) fun σ2 H2 => tb { D with nx := Pv (i + 1), ct := Pv (i + 1), bk := D.nx } σ2 H2)
    (hd : ∀ σ H, Pv xs.length σ H → D.nx σ H) :
    ∃ W : Nat → Nat → St → Hp → Prop, (∃ m, W 0 m σ H) ∧ ∀ i m σ H, W i m σ H →
      ((Ite K a).stop i H ∧ D.nx σ H) ∨ ((Ite K a).go i H ∧ ∃ N : St → Hp → Prop, (∀ σ' H', N σ' H' → ∃ m', m' < m ∧ W (i + 1) m' σ' H') ∧ ∀ x H', (Ite K a).yld i H x H' → g x σ H' fun σ2 H2 => tb { D with nx := N, ct := N, bk := D.nx } σ2 H2) := by
  refine ⟨fun i m σ H => i ≤ xs.length ∧ m = xs.length - i ∧ Pv i σ H, ⟨_, Nat.zero_le _, rfl, h0⟩, fun i m σ H ⟨hi, hm, hp⟩ => ?_⟩
  have hsq := hl i σ H hi hp
  by_cases hlt : i < xs.length
  · refine .inr ⟨⟨xs, xs[i], hsq, List.getElem?_eq_getElem hlt⟩, Pv (i + 1), fun σ' H' hn => ⟨xs.length - (i + 1), by omega, by omega, rfl, hn⟩, fun v H' ⟨t, x, hn, ev, eH, hx⟩ => ?_⟩
    subst ev eH
    exact hs i x t σ H (hx xs hsq) hp hn
  · have e : i = xs.length := by omega
    subst e
    exact .inl ⟨⟨xs, hsq, Nat.le_refl _⟩, hd σ H hp⟩
end
end L2
set_option Elab.async false
set_option linter.all false
set_option maxRecDepth 100000
namespace L2
open PySem PySem.Spec PyProof.Rows
section
variable {t u : TS} {D : Ends} {σ : St} {H : Hp} {c : TT} {te ta tb tc : TE} {Q : VK} {QB : Bool → Hp → Prop} {r r' : R2} {i j : Nat} {v x y : V} {tA tB' : TT} {TAr : TA} {TEr : TE} {QA : List V → Hp → Prop} {sp : Sp} {dvs : List V} {E : XK} {K : PySem.W.Frag}
  {f : Str} {a C dx : Addr} {fs : List (Str × V)}
theorem rd_seq (h : t { D with nx := u D } σ H) : tSeq t u D σ H := h
theorem rd_next (h : D.nx σ H) : tNext D σ H := h
theorem rd_ifS (h : c σ H fun b H1 => if b = true then t D σ H1 else u D σ H1) : tIfS c t u D σ H := h
theorem rd_test (h : te σ H fun x H' => ∃ k, x = .bl k ∧ QB k H') : tTest te σ H QB := h
theorem rd_tB (h : te σ H fun x H' => ∃ k, x = .bl k ∧ QB k H') : tB te σ H QB := h
theorem rd_and (h : tA σ H fun c H1 => if c = true then tB' σ H1 QB else QB false H1) : tAnd tA tB' σ H QB := h
theorem rd_or (h : tA σ H fun c H1 => if c = true then QB true H1 else tB' σ H1 QB) : tOr tA tB' σ H QB := h
theorem rd_not (h : tA σ H fun c H1 => QB (!c) H1) : tNot tA σ H QB := h
theorem rd_andV (h : ta σ H fun x H1 => ∃ c, x = .bl c ∧ if c = true then tb σ H1 Q else Q (.bl false) H1) : tAndV ta tb σ H Q := h
theorem rd_orV (h : ta σ H fun x H1 => ∃ c, x = .bl c ∧ if c = true then Q (.bl true) H1 else tb σ H1 Q) : tOrV ta tb σ H Q := h
theorem rd_notV (h : ta σ H fun x H1 => ∃ c, x = .bl c ∧ Q (.bl (!c)) H1) : tNotV ta σ H Q := h
theorem rd_op (h : ta σ H fun x H1 => tb σ H1 fun y H2 => r x y H2 Q) : tOp r ta tb σ H Q := h
theorem rd_un {ru : V → Hp → VK → Prop} (h : ta σ H fun x H1 => ru x H1 Q) : tUn ru ta σ H Q := h
theorem rd_rU {g : Int → V} {n : Int} (h : Q (g n) H) : rU g (.int n) H Q := ⟨n, rfl, h⟩
theorem rd_chain (h : ta σ H fun x H1 => tb σ H1 fun y H2 => r x y H2 fun z H3 => ∃ k, z = .bl k ∧ (if k = true then tc σ H3 fun w' H4 => r' y w' H4 Q else Q (.bl false) H3)) : tChain r r' ta tb tc σ H Q := h
theorem rd_ifE (h : c σ H fun b H1 => if b = true then ta σ H1 Q else tb σ H1 Q) : tIf c ta tb σ H Q := h
theorem rd_var (e : σ[i]? = some (some v)) (h : Q v H) : tVar i σ H Q := ⟨v, e, h⟩
theorem rd_c (h : Q v H) : tC v σ H Q := h
theorem rd_I0 {g : Int → Int → V} {m n : Int} (h : Q (g m n) H) : rI0 g (.int m) (.int n) H Q := ⟨m, n, rfl, rfl, h⟩
theorem rd_I {g : Int → Int → V} {CC : Int → Int → Prop} {m n : Int} (h1 : CC m n) (h : Q (g m n) H) : rI CC g (.int m) (.int n) H Q := ⟨m, n, rfl, rfl, h1, h⟩
theorem rd_eq (s : scal x y = true) (h : Q (.bl (decide (x = y))) H) : rEq x y H Q := ⟨s, h⟩
theorem rd_ne (s : scal x y = true) (h : Q (.bl (!decide (x = y))) H) : rNe x y H Q := ⟨s, h⟩
theorem rd_bl {k : Bool} (h : QB k H) : ∃ k', V.bl k = .bl k' ∧ QB k' H := ⟨k, rfl, h⟩
theorem rd_blp {k : Bool} {PP : Bool → Prop} (h : PP k) : ∃ k', V.bl k = .bl k' ∧ PP k' := ⟨k, rfl, h⟩
theorem rd_and1 {PP : Prop} (h : PP) : V.non = V.non ∧ PP := ⟨rfl, h⟩
theorem rd_ret (h : te σ H D.rt) : tRet te D σ H := h
theorem rd_retN (h : D.rt .non H) : tRetN D σ H := h
theorem rd_drop (h : te σ H fun _ H1 => D.nx σ H1) : tDrop te D σ H := h
theorem rd_asg {g : TG} (h : te σ H fun x H1 => g x σ H1 D.nx) : tAsg te g D σ H := h
theorem rd_gName {QS : St → Hp → Prop} (h : QS (σ.set i (some v)) H) : gName i v σ H QS := h
theorem rd_cons (h : ta σ H fun x H1 => TAr σ H1 fun xs H2 => QA (x :: xs) H2) : tCons ta TAr σ H QA := h
theorem rd_nil (h : QA [] H) : tNil σ H QA := h
theorem rd_cb {rr : List V → Hp → VK → Prop} (h : TAr σ H fun vs H1 => rr vs H1 Q) : tCB rr TAr σ H Q := h
theorem rd_call (h : TAr σ H fun vs H1 => sp (vs ++ dvs) H1 Q E) : tCall sp dvs E TAr σ H Q := h
theorem rd_tup (h : TAr σ H fun xs H1 => xs.length ≤ sizeLine ∧ ∀ p, H1 p = none → Q (.ref p) (upd H1 p (.tup xs))) : tTup TAr σ H Q := h
theorem rd_lst (h : TAr σ H fun xs H1 => xs.length ≤ sizeLine ∧ ∀ p, H1 p = none → Q (.ref p) (upd H1 p (.lst xs))) : tLst TAr σ H Q := h
theorem rd_ite {cc A B : Prop} [Decidable cc] (h1 : cc → A) (h2 : ¬ cc → B) : if decide cc = true then A else B := by
  by_cases h : cc
  · rw [if_pos (decide_eq_true h)]; exact h1 h
  · rw [if_neg (by simp [h])]; exact h2 h
theorem rd_iteN {cc A B : Prop} [Decidable cc] (h1 : ¬ cc → A) (h2 : cc → B) : if (!decide cc) = true then A else B := by
  by_cases h : cc
  · rw [if_neg (by simp [h])]; exact h2 h
  · rw [if_pos (by simp [h])]; exact h1 h
theorem rd_gen {tc : TT} (C : Bool → Hp → Prop) (h1 : ∀ b H1, C b H1 → QB b H1) (h2 : ∀ QB' : Bool → Hp → Prop, (∀ b H1, C b H1 → QB' b H1) → tc σ H QB') : tc σ H QB := h2 QB h1
theorem rd_joinIf (C : St → Hp → Prop) (h1 : ∀ σ' H', C σ' H' → D.nx σ' H') (h2 : ∀ nx : St → Hp → Prop, (∀ σ' H', C σ' H' → nx σ' H') → tIfS c t u { D with nx := nx } σ H) : tIfS c t u D σ H := h2 D.nx h1
theorem rd_join (C : St → Hp → Prop) (h1 : ∀ σ' H', C σ' H' → D.nx σ' H') (h2 : ∀ nx : St → Hp → Prop, (∀ σ' H', C σ' H' → nx σ' H') → t { D with nx := nx } σ H) : t D σ H := h2 D.nx h1
theorem rd_iteT {A B : Prop} (h : A) : if true = true then A else B := iteT h
theorem rd_iteF {A B : Prop} (h : B) : if false = true then A else B := iteF h
theorem rd_iteNT {A B : Prop} (h : B) : if (!true) = true then A else B := iteF h
theorem rd_iteNF {A B : Prop} (h : A) : if (!false) = true then A else B := iteT h
theorem rd_iteB {b : Bool} {A B : Prop} (h1 : b = true → A) (h2 : b = false → B) : if b = true then A else B := by
  cases b
  · exact iteF (h2 rfl)
  · exact iteT (h1 rfl)
theorem rd_iteNB {b : Bool} {A B : Prop} (h1 : b = false → A) (h2 : b = true → B) : if (!b) = true then A else B := by
  cases b
  · exact iteT (h1 rfl)
  · exact iteF (h2 rfl)
theorem rd_for {wi : TI} {g : TG} {tbd : TS} (h : wi σ H fun J H1 => ∃ W : Nat → Nat → St → Hp → Prop, (∃ m, W 0 m σ H1) ∧ ∀ i m σ H, W i m σ H →
    (J.stop i H ∧ D.nx σ H) ∨ (J.go i H ∧ ∃ N : St → Hp → Prop, (∀ σ' H', N σ' H' → ∃ m', m' < m ∧ W (i + 1) m' σ' H') ∧ ∀ x H', J.yld i H x H' → g x σ H' fun σ2 H2 => tbd { D with nx := N, ct := N, bk := D.nx } σ2 H2)) : tFor wi g tbd D σ H := h
theorem rd_rng1 {R : It → Hp → Prop} (h : TAr σ H fun vs H1 => ∃ j : Int, vs = [.int j] ∧ -(2 ^ 62) ≤ j ∧ j < 2 ^ 62 ∧ R (Itr 0 j.toNat) H1) : iRng1 TAr σ H R := h
theorem rd_rng2 {R : It → Hp → Prop} (h : TAr σ H fun vs H1 => ∃ i j : Int, vs = [.int i, .int j] ∧ (-(2 ^ 62) ≤ i ∧ i < 2 ^ 62 ∧ -(2 ^ 62) ≤ j ∧ j < 2 ^ 62) ∧ R (Itr i (j - i).toNat) H1) : iRng2 TAr σ H R := h
theorem rd_iList {R : It → Hp → Prop} (h : te σ H fun x H1 => ∃ a, x = .ref a ∧ (∃ xs, SqL K H1 a xs) ∧ R (Itl K a) H1) : iList K te σ H R := h
theorem rd_bm {T : String} {rr : V → List V → Hp → VK → Prop} (h : te σ H fun x H1 => tyV K T x H1 ∧ TAr σ H1 fun xs H2 => rr x xs H2 Q) : tBM K T rr te TAr σ H Q := h
theorem rd_bm0 {T : String} {rr : V → List V → Hp → VK → Prop} (h : te σ H fun x H1 => tyV K T x H1 ∧ rr x [] H1 Q) : tBM0 K T rr te σ H Q := h
theorem rd_make (h : TAr σ H fun vs H1 => ∀ x dx, H1 x = none → H1 dx = none → dx ≠ x → sp (.ref x :: (vs ++ dvs)) (upd (upd H1 dx (.own x)) x (.ins C dx [])) (fun v H2 => v = .non ∧ Q (.ref x) H2) E) : tMake C sp dvs E TAr σ H Q := h
theorem rd_meth {m : Str} (h : ta σ H fun x H1 => ∃ a dx fs, x = .ref a ∧ H1 a = some (.ins C dx fs) ∧ fs.lookup m = none ∧ TAr σ H1 fun vs H2 => sp (x :: (vs ++ dvs)) H2 Q E) : tMeth C m sp dvs E ta TAr σ H Q := h
theorem rd_raise (h : TAr σ H fun vs H1 => vs.length ≤ sizeLine ∧ E (.ref C) none H1) : tRaise C E TAr D σ H := h
theorem rd_fs {t : TF} (h : t Str.empty σ H Q) : tFs t σ H Q := h
theorem rd_try {CE : Addr} {tb : TSX} (h : tb D (fun σ' cls _ H' => ∃ C, cls = .ref C ∧ PySem.W.exmOne K (.ref C) (.ref CE) = some true ∧ ∀ a, H' a = none → D.nx ((σ'.set i (some (.ref a))).set j none) (upd H' a (.ext (IsExc a C)))) σ H) : tTry K CE i j tb D σ H := h
theorem rd_setX {tx : TEX} {EX : St → XK} (h : tx σ H (fun v H1 => D.nx (σ.set i (some v)) H1) (EX σ)) : tSetX i tx D EX σ H := h
theorem rd_ifX {t u : TSX} {EX : St → XK} (h : c σ H fun b H1 => if b = true then t D EX σ H1 else u D EX σ H1) : tIfX c t u D EX σ H := h
theorem rd_methX {m : Str} (h : ta σ H fun x H1 => ∃ a dx fs, x = .ref a ∧ H1 a = some (.ins C dx fs) ∧ fs.lookup m = none ∧ TAr σ H1 fun vs H2 => sp (x :: vs) H2 Q E) : tMethX C m sp ta TAr σ H Q E := h
theorem rd_fld (h : ta σ H fun x H1 => ∃ a C dx fs v, x = .ref a ∧ H1 a = some (.ins C dx fs) ∧ Cls K C ∧ NoAttr K C f ∧ fs.lookup f = some v ∧ Q v H1) : tFld K ta f σ H Q := h
theorem rd_sfld {tv : TE} (h : tv σ H fun y H1 => ta σ H1 fun x H2 => ∃ a C dx fs, x = .ref a ∧ H2 a = some (.ins C dx fs) ∧ Cls K C ∧ NoAttr K C f ∧ fs.length < 1000 ∧ D.nx σ (upd H2 a (.ins C dx (putF f y fs)))) : sFld K ta tv f D σ H := h
theorem rd_sfldaug {tv : TE} {rr : V → V → Hp → VK → Prop} (h : ta σ H fun x H1 => ∃ a C dx fs v, x = .ref a ∧ H1 a = some (.ins C dx fs) ∧ Cls K C ∧ NoAttr K C f ∧ fs.lookup f = some v ∧
    tv σ H1 fun y H2 => rr v y H2 fun z H3 => ∃ dx' fs', H3 a = some (.ins C dx' fs') ∧ fs'.length < 1000 ∧ D.nx σ (upd H3 a (.ins C dx' (putF f z fs')))) : sFldAug K ta tv rr f D σ H := h
theorem rd_sfldx {NX : St → Hp → Prop} {y : V} (h1 : H a = some (.ins C dx fs)) (h2 : Cls K C) (h3 : NoAttr K C f) (h4 : fs.length < 1000) (h : NX σ (upd H a (.ins C dx (putF f y fs)))) :
    ∃ a' C dx fs, V.ref a = .ref a' ∧ H a' = some (.ins C dx fs) ∧ Cls K C ∧ NoAttr K C f ∧ fs.length < 1000 ∧ NX σ (upd H a' (.ins C dx (putF f y fs))) := ⟨a, C, dx, fs, rfl, h1, h2, h3, h4, h⟩
theorem rd_ixT {p : Addr} {xs : List V} {n : Int} {v : V} (h1 : SqT K H p xs) (h2 : atI xs n = some v) (h : Q v H) : rIxT K (.ref p) (.int n) H Q := ⟨p, xs, n, v, rfl, rfl, h1, h2, h⟩
theorem rd_ixL {p : Addr} {xs : List V} {n : Int} {v : V} (h1 : SqL K H p xs) (h2 : atI xs n = some v) (h : Q v H) : rIxL K (.ref p) (.int n) H Q := ⟨p, xs, n, v, rfl, rfl, h1, h2, h⟩
end
end L2
namespace L2
open PySem PySem.Spec PyProof.Rows
def notStar : Expr → Bool
  | .Starred .. => false
  | _ => true
theorem star_cons {e : Expr} {es : List Expr} {env : Env} (h : notStar e = true) : starEach (e :: es) env = (false, eval e env) :: starEach es env := by
  cases e <;> first | rfl | cases h
theorem star_any {env : Env} {pos : Pos} : ∀ {es : List Expr}, es.all notStar = true → (backTo pos (starEach es env)).any (·.1) = false
  | [], _ => rfl
  | e :: es, h => by
    have h2 : notStar e = true ∧ es.all notStar = true := by simpa using h
    rw [star_cons h2.1]
    have ih := star_any (env := env) (pos := pos) h2.2
    generalize eval e env = z
    generalize starEach es env = zs at ih
    exact ih
section
variable {a b c : Expr} {es fs : List Expr} {ks : List Keyword} {n : Nat} {x : Str} {p : Pos} {k : Const} {o : Operator} {u : UnaryOp} {co : List CmpOp} {bo : BoolOp}
theorem ns_tup : notStar (.Tuple es n p) = true := rfl
theorem ns_sub : notStar (.Subscript a b p) = true := rfl
theorem ns_call : notStar (.Call a es ks p) = true := rfl
theorem ns_bin : notStar (.BinOp a o b p) = true := rfl
theorem ns_name : notStar (.Name x p) = true := rfl
theorem ns_con : notStar (.Constant k n p) = true := rfl
theorem ns_att : notStar (.Attribute a x p) = true := rfl
theorem ns_un : notStar (.UnaryOp u a p) = true := rfl
theorem ns_js : notStar (.JoinedStr es p) = true := rfl
theorem ns_nil : ([] : List Expr).all notStar = true := rfl
theorem ns_cons (h1 : notStar a = true) (h2 : es.all notStar = true) : (a :: es).all notStar = true := by rw [List.all_cons, h1, h2]; rfl
end
theorem pa_c {X : Cx} {e : Expr} {es : List Expr} {te : TE} {t : TA} (ha : PE X e te) (hr : PA X es t) (h : notStar e = true) : PA X (e :: es) (tCons te t) := pa_cons ha hr (star_cons h)
theorem pe_bT {X : Cx} {x : Str} {TT : String} {pos : Pos} (hg : Gl X x) (hm : X.mg x = none) (hv : bootBuiltins x = some (.type TT)) (hn : x ≠ "__name__" := by decide) (hd : (x == ("__debug__" : Str)) = false := by decide) : PE X (.Name x pos) (tC (.ty TT)) :=
  pe_bltn (v := .ty TT) hg hm hv rfl hn hd
structure ExcC (K : PySem.W.Frag) (C : Addr) : Prop where
  is : Exc K C
  ga : PySem.W.findIn K (.ref C) "__getattribute__" = some (some (.builtin "BaseException.__getattribute__"))
  gx : PySem.W.findIn K (.ref C) "__getattr__" = some none
  cl : PySem.W.findIn K (.ref C) "__class__" = some (some (.builtin "object.__class__"))
  ob : PySem.W.mroIn K C (.type "object") = some true
  be : PySem.W.subIn K (.ref C) (.type "BaseException") = some true
end L2
set_option Elab.async false
set_option linter.all false
set_option maxRecDepth 100000
namespace L2
open PySem PySem.Spec PyProof.Rows PySem.W Builtin Builtin.ObjectAttr Builtin.Getset_descriptor
theorem boot_ValueError : bootBuiltins "ValueError" = some (.type "ValueError") := by decide +kernel
section
variable {prog : Program} {w : World} {A : Around} {E : Value → Shared → Prop} {h : Heap} {g : Array GenState} {d : Drawn} {t : Nat} {os : OsState} {a C : Addr} {o : Obj} {K : PySem.W.Frag}
theorem xc_type {M : Model} (hx : h.get? a = some o) (hc : o.cls = .ref C) : PySem.W.Looks M h (typeOf (.ref a)) (.ref C) := hc ▸ (PySem.W.Looks.ld hx).andThen .now
theorem xc_get {tp : Value} {R : Result → Shared → Prop} (X : K.In h) (hx : h.get? a = some o) (hc : o.cls = .ref C) (hm : PySem.W.mroIn K C (.type "object") = some true) (hq : R (.ok (.ret (.ref C))) ⟨h, g, d, t, os⟩) :
    codeAny (model prog w) A (.call (.builtin "getset_descriptor.__get__") ⟨[.builtin "object.__class__", .ref a, tp], []⟩) R ⟨h, g, d, t, os⟩ := by
  have L0 := xc_type (M := model prog w) hx hc
  have L1 := PySem.W.looks_mroIn (M := model prog w) X hm
  refine codeAny_call_builtin KF.slot_gs.plain KF.entry_gs (KF.slot_gs.check _ _ _ _ _ _ _ _ KF.type_class (KF.args_gs _ _ _) ?_)
  unfold Builtin.«getset_descriptor.__get__» descrGet
  rw [dga_obj]
  refine wpAny_bind (wpAny_pure ?_)
  unfold descrGetter descrCheckInstance descrNameAndClass isInstance
  simp only [KF.owner_class]
  repeat lk
  refine ⟨Code.quiet_builtin _ (by decide +kernel), codeAny_builtin KF.entry_class ?_⟩
  unfold Builtin.«object.__class__» shownTypeOf
  repeat lk
  exact hq
theorem xc_entry {tk : Tok} {Q : Fin → Shared → Prop} (X : K.In h) (hx : h.get? a = some o) (hc : o.cls = .ref C) (hcl : PySem.W.findIn K (.ref C) "__class__" = some (some (.builtin "object.__class__"))) (hm : PySem.W.mroIn K C (.type "object") = some true) (hq : Q (.done (.ret (.ref C))) ⟨h, g, d, t, os⟩) :
    wpAny (model prog w) A (Builtin.«object.__getattribute__» ⟨[.ref a, .str "__class__" tk], []⟩) Q E ⟨h, g, d, t, os⟩ := by
  have L0 := xc_type (M := model prog w) hx hc
  have L1 := PySem.W.looks_findIn (M := model prog w) X hcl
  have hT5 : (⟨h, g, d, t, os⟩ : Shared).TypeIs (.builtin "object.__class__") "getset_descriptor" := F.typeOf_object_class
  have f5 := F.typeOf_object_class
  have f6 := F.slot_gs_get.lookup
  have f7 := F.slot_gs_set.lookup
  repeat (any_goals (first | assumption | with_reducible refine PySem.W.Looks.at L0 ?_ | with_reducible refine PySem.W.Looks.at L1 ?_ | wp_step))
  refine xc_get X hx hc hm ?_
  repeat (any_goals (first | assumption | wp_step))
theorem xc_check {M : Model} {nameV : Value} {Q : Unit → Shared → Prop} (X : K.In h) (hx : h.get? a = some o) (hc : o.cls = .ref C) (hb : PySem.W.subIn K (.ref C) (.type "BaseException") = some true) (hq : Q () ⟨h, g, d, t, os⟩) :
    wpAny M A (checkBuiltinCall "BaseException.__getattribute__" ⟨[.ref a, nameV], []⟩) Q E ⟨h, g, d, t, os⟩ := by
  have L0 := xc_type (M := M) hx hc
  have L1 := PySem.W.looks_subIn (M := M) X hb
  have hk : builtinKind "BaseException.__getattribute__" = some .slot := by decide +kernel
  have hsplit : splitId "BaseException.__getattribute__" = some ("BaseException", "__getattribute__") := by decide +kernel
  have ha := F.args_bexc_ga (.ref a) nameV
  simp only [checkBuiltinCall, hk, hsplit]
  refine wpAny_bind ?_
  unfold isInstance
  repeat (first | with_reducible refine PySem.W.Looks.at L0 ?_ | with_reducible refine PySem.W.Looks.at L1 ?_ | wp_step)
  exact hq
theorem xc_by {tk : Tok} {Q : Value → Shared → Prop} (X : K.In h) (hx : h.get? a = some o) (hc : o.cls = .ref C) (x : ExcC K C) (hq : Q (.ref C) ⟨h, g, d, t, os⟩) : wpAny (model prog w) A (getAttrBy (.ref a) (.str "__class__" tk) false) Q E ⟨h, g, d, t, os⟩ := by
  have L0 := xc_type (M := model prog w) hx hc
  have L1 := PySem.W.looks_findIn (M := model prog w) X x.ga
  have L2 := PySem.W.looks_findIn (M := model prog w) X x.gx
  have f3 := F.excAttr_ValueError.ga.bind (.ref a)
  have hx2 : (Value.builtin "BaseException.__getattribute__" == Value.builtin "object.__getattribute__") = false := by decide +kernel
  have hx1 : (onTheHeap (Value.ref C) && Value.builtin "BaseException.__getattribute__" == Value.builtin "object.__getattribute__") = false := by rw [hx2]; rfl
  repeat (any_goals (first | assumption | with_reducible refine PySem.W.Looks.at L0 ?_ | with_reducible refine PySem.W.Looks.at L1 ?_ | with_reducible refine PySem.W.Looks.at L2 ?_ | wp_step))
  refine codeAny_call_builtin F.excAttr_ValueError.ga.plain F.entry_bexc_ga (xc_check X hx hc x.be (xc_entry X hx hc x.cl x.ob ?_))
  repeat (any_goals (first | assumption | wp_step))
theorem xc_attr {Q : Option Value → Shared → Prop} {s : Shared} (X : K.In s.heap) (hx : s.heap.get? a = some o) (hc : o.cls = .ref C) (x : ExcC K C) (hq : Q (some (.ref C)) { s with toks := s.toks + 1 }) : wpAny (model prog w) A (getAttr? (.ref a) "__class__") Q E s := by
  obtain ⟨h, g, d, t, os⟩ := s
  unfold getAttr? getAttrBy?
  repeat (any_goals (first | assumption | with_reducible apply xc_by X hx hc x | wp_step))
end
theorem kitx_exc {K : PySem.W.Frag} {a C : Addr} (x : ExcC K C) : PySem.W.KitX K (.ref a) (.ref C) (IsExc a C) where
  ty := fun M h _ ⟨o, vs, h1, h2, _⟩ => xc_type h1 h2
  it := fun M h X _ => by
    obtain ⟨bm, N, nm, qn, bs, hdct, sn, sub, ab, col, dd, k0, k1, k2, k3, k5, mN, hC, _⟩ := exc_obj X x.is
    intro A' Q' E' s' k q
    unfold isType loadHead
    exact wpAny_bind (wpAny_loadPart (k _ _ hC) (wpAny_pure q))
  ne := fun h tp dd its n sl X htp => by
    obtain ⟨bm, N, nm, qn, bs, hdct, sn, sub, ab, col, dd, k0, k1, k2, k3, k5, mN, hC, _⟩ := exc_obj X x.is
    refine Bool.eq_false_iff.mpr fun q => ?_
    have e : C = tp := Value.ref.inj (beq_iff_eq.mp q)
    subst e
    rw [hC] at htp
    have z := Option.some.inj htp
    have z2 := congrArg Obj.data z
    unfold excClassObj at z2
    cases z2
  ca := fun X ⟨o, vs, h1, h2, _⟩ k => xc_attr X h1 h2 x k
section
variable {X : Cx}
theorem call_isinstX : CallR X (.builtin "isinstance") (fun xs H Q => ∃ a C c cv b, xs = [.ref a, c] ∧ clsV c = some cv ∧ H a = some (.ext (IsExc a C)) ∧ ExcC X.K C ∧ PySem.W.kitOne X.K (.ref C) cv = some b ∧ Q (.bl b) H) := by
  intro pins s σ H xs us Q I r h
  obtain ⟨a, C, c, cv, b, rfl, hc, ha, x, e, q⟩ := h
  obtain ⟨u, v, rfl, ru, rv⟩ := vals2 r
  rw [clsV_rel rv hc]
  obtain rfl : u = Value.ref a := ru
  have hx : IsExc a C s.heap := (I.hok a _ ha).1
  exact PySem.W.kia_one (kitx_exc x) I.kIn hx e (fun z => nomatch z) fun tk => ⟨.bl b, H, I.tok tk, rfl, q⟩
end
end L2
set_option Elab.async false
set_option linter.all false
set_option maxRecDepth 100000
namespace L2
open PySem PySem.Spec PyProof.Rows
theorem pass10 {X : Cx} : Passes (CX1 X.prog X.w) X E0 := by
  intro pins σ H s e s' I h
  obtain ⟨_, _, _, _, _, _, _, _, _, _, _, _, hE⟩ := h
  exact hE.elim
section
variable {X : Cx} {k k' : Nat} {C : Addr} {ps : List Str} {sp : Sp} {x : Str} {p pos : Pos} {e : Expr} {es : List Expr} {t : TA}
theorem pe_makeH10 (G : HasI X.prog X.w X.K X.mg X.base (CX1 X.prog X.w) k C ps sp) (hm : X.mg x = some (.ref C)) (hr : Room k' X.A) (ha : PA X (e :: es) t) (hk : k + 1 ≤ k' := by decide) (hg : Gl X x := by rfl)
    (hdb : (x == ("__debug__" : Str)) = false := by decide) (he : starEach (e :: es) X.env = (false, eval e X.env) :: starEach es X.env := by rfl) (hpl : (backTo pos (starEach es X.env)).any (·.1) = false := by rfl) :
    PE X (.Call (.Name x p) (e :: es) [] pos) (tMake C sp [] E0 t) := by
  obtain ⟨f, fd, a, c, d⟩ := G
  exact pe_make a d (hr.mono hk) hg hm c .nil pass10 ha hdb he hpl
end
section
variable {X : Cx}
theorem call_int_text : CallR X (.type "int") (fun xs H Q => ∃ x i, xs = [.str x] ∧ PySem.intText? x = some i ∧ x.length ≤ 640 ∧ Q (.int i) H) := by
  intro pins s σ H xs us Q I r h
  obtain ⟨x, i, rfl, hi, hl, q⟩ := h
  obtain ⟨u, rfl, ru⟩ := vals1 r
  obtain ⟨t, rfl⟩ := ru
  exact PySem.W.KIN.call_text hi hl ⟨.int i, H, I.tok _, ⟨_, rfl⟩, q⟩
theorem pe_bm1 {T id : String} {name : Str} {r : V → List V → Hp → VK → Prop} {o e : Expr} {to : TE} {t : TA} {apos cpos : Pos} (pa : PlainAttrs T) (slot : Slot T name id) (hty : typeOf (.builtin id) = pure (.type "method_descriptor")) (hm : MtR X id r) (ho : PE X o to) (ha : PA X [e] t) (hn : notStar e = true)
    (hbase : attributeBase o name X.env (eval o X.env) = eval o X.env := by rfl) (hline : (apos.endLine == cpos.line) = true := by rfl) :
    PE X (.Call (.Attribute o name apos) [e] [] cpos) (tBM X.K T r to t) := by
  have h0 : starEach [] X.env = [] := rfl
  have hs : starEach [e] X.env = [(false, eval e X.env)] := star_cons hn
  have hs' : starEach [e] X.env = (false, eval e X.env) :: starEach [] X.env := by rw [hs, h0]
  refine pe_bm pa slot hty hm ho ha hbase ?_ hline hs' ?_
  · rw [hs]
    generalize eval e X.env = z
    rfl
  · rw [h0]; rfl
structure QE (X : Cx) (e : Expr) (t : TE) : Prop where
  out : PE X e t
structure QA (X : Cx) (es : List Expr) (t : TA) : Prop where
  out : PA X es t
theorem qa_nil : QA X [] tNil := ⟨pa_nil⟩
theorem qa_c {e : Expr} {es : List Expr} {te : TE} {t : TA} (ha : QE X e te) (hr : QA X es t) (h : notStar e = true) : QA X (e :: es) (tCons te t) := ⟨pa_c ha.out hr.out h⟩
theorem qe_tup {es : List Expr} {t : TA} {n : Nat} {pos : Pos} (h : QA X es t) : QE X (.Tuple es n pos) (tTup t) := ⟨pe_tup h.out⟩
theorem qe_lst {es : List Expr} {t : TA} {pos : Pos} (h : QA X es t) : QE X (.List es pos) (tLst t) := ⟨pe_lst h.out⟩
theorem qe_ix {a b : Expr} {ta tb : TE} {r : R2} {pos : Pos} (hr : IxR X r) (ha : QE X a ta) (hb : QE X b tb) (hs : PlainIx b) : QE X (.Subscript a b pos) (tOp r ta tb) := ⟨pe_ix hr ha.out hb.out hs⟩
theorem pe_bm1q {T id : String} {name : Str} {r : V → List V → Hp → VK → Prop} {o e : Expr} {to : TE} {t : TA} {apos cpos : Pos} (pa : PlainAttrs T) (slot : Slot T name id) (hty : typeOf (.builtin id) = pure (.type "method_descriptor")) (hm : MtR X id r) (ho : PE X o to) (ha : QA X [e] t) (hn : notStar e = true)
    (hbase : attributeBase o name X.env (eval o X.env) = eval o X.env := by rfl) (hline : (apos.endLine == cpos.line) = true := by rfl) :
    PE X (.Call (.Attribute o name apos) [e] [] cpos) (tBM X.K T r to t) := pe_bm1 pa slot hty hm ho ha.out hn hbase hline
theorem bools_of {bs : List Bool} : ∀ {us : List Value}, Vals (bs.map V.bl) us → us = bs.map Value.bool := by
  induction bs with
  | nil => intro us r; cases r; rfl
  | cons b r ih =>
    intro us q
    cases q with
    | cons h t => rw [show _ = Value.bool b from h, ih t]; rfl
def isTru : Value → Bool
  | .bool b => b
  | _ => false
theorem eqTru {A : Around} {s : Shared} (b : Bool) : SeqAt.EqAt A s (.bool b) (.bool true) (isTru (.bool b)) := by
  have := SeqAt.EqAt.bool_bool (A := A) (s := s) b true
  cases b <;> exact this
theorem cnt_eq (bs : List Bool) : (bs.map Value.bool).countP isTru = bs.count true := by
  induction bs with
  | nil => rfl
  | cons b r ih => cases b <;> simp [List.countP_cons, List.count_cons, isTru, ih]
theorem mt_countT : MtM X "list.count" (fun x vs H Q => ∃ (l : Addr) (bs : List Bool), x = .ref l ∧ vs = [.bl true] ∧ H l = some (.lst (bs.map V.bl)) ∧ Q (.int (bs.count true : Nat)) H) := by
  intro pins s σ H x vs v us Q I rx rv h
  obtain ⟨l, bs, rfl, rfl, hH, q⟩ := h
  cases rx
  obtain ⟨u, rfl, ru⟩ := rv.one
  obtain rfl : u = Value.bool true := ru
  obtain ⟨z, its, n, r, hl, e⟩ := I.lstM hH
  have hits := bools_of r
  subst hits
  refine call_meets F.slot_list_count ⟨_, e, rfl⟩ F.entry_list_count (F.args_list_count_2 _ _) (SeqAt.list_countAt l _ n none _ (.bool true) isTru) ⟨e, fun y hy => ?_, ?_⟩
  · have hy2 : y ∈ bs.map Value.bool := by simpa using hy
    obtain ⟨b, _, rfl⟩ := List.mem_map.mp hy2
    exact eqTru b
  · have e1 : (bs.map Value.bool).toArray.toList.countP isTru = bs.count true := cnt_eq bs
    rw [e1]
    exact ⟨.int (bs.count true : Nat), H, I.tok _, ⟨_, rfl⟩, q⟩
theorem mt_indexT : MtM X "list.index" (fun x vs H Q => ∃ (l : Addr) (bs : List Bool) (j : Nat), x = .ref l ∧ vs = [.bl true] ∧ H l = some (.lst (bs.map V.bl)) ∧ bs[j]? = some true ∧ (∀ i, i < j → bs[i]? = some false) ∧ bs.length ≤ 1000 ∧ Q (.int j) H) := by
  intro pins s σ H x vs v us Q I rx rv h
  obtain ⟨l, bs, j, rfl, rfl, hH, hj, hb, hbl, q⟩ := h
  cases rx
  obtain ⟨u, rfl, ru⟩ := rv.one
  obtain rfl : u = Value.bool true := ru
  obtain ⟨z, its, n, r, hl, e⟩ := I.lstM hH
  have hits := bools_of r
  subst hits
  have hlt : j < bs.length := (List.getElem?_eq_some_iff.mp hj).1
  have hlt2 : j < (bs.map Value.bool).toArray.size := by simpa using hlt
  refine call_meets F.slot_list_index ⟨_, e, rfl⟩ F.entry_list_index (F.args_list_index_2 _ _) (SeqAt.list_indexAt l _ n none _ (.bool true) isTru j hlt2 (by omega) ?_ ?_ ) ⟨e, fun y hy => ?_, ?_⟩
  · have := (List.getElem?_eq_some_iff.mp hj).2
    simp [this, isTru]
  · intro m hm hmj
    have hm2 : m < bs.length := by simpa using hm
    have := (List.getElem?_eq_some_iff.mp (hb m hmj)).2
    simp [this, isTru]
  · have hy2 : y ∈ bs.map Value.bool := by simpa using hy
    obtain ⟨b, _, rfl⟩ := List.mem_map.mp hy2
    exact eqTru b
  · exact ⟨.int j, H, I.tok _, ⟨_, rfl⟩, q⟩
end
end L2
set_option Elab.async false
set_option linter.all false
set_option maxRecDepth 100000
namespace L2
open PySem PySem.Spec PyProof.Rows
section
variable {κ : Type} [DecidableEq κ]
def valV (kvs : List (κ × V)) (k : κ) : Option V := (kvs.find? fun kv => decide (kv.1 = k)).map (·.2)
def putK (kvs : List (κ × V)) (k : κ) (v : V) : List (κ × V) :=
  if (kvs.any fun kv => decide (kv.1 = k)) = true then kvs.map (fun kv => if kv.1 = k then (kv.1, v) else kv) else kvs ++ [(k, v)]
theorem valV_pos {p : κ × V} {r : List (κ × V)} {k : κ} (e : p.1 = k) : valV (p :: r) k = some p.2 := by simp [valV, List.find?_cons, e]
theorem valV_neg {p : κ × V} {r : List (κ × V)} {k : κ} (e : ¬ p.1 = k) : valV (p :: r) k = valV r k := by simp [valV, List.find?_cons, e]
theorem valV_any (k : κ) : ∀ kvs : List (κ × V), (kvs.any fun kv => decide (kv.1 = k)) = (valV kvs k).isSome
  | [] => rfl
  | p :: r => by
    rw [List.any_cons]
    by_cases e : p.1 = k
    · simp only [valV_pos e, decide_eq_true e, Bool.true_or, Option.isSome_some]
    · rw [valV_neg e, decide_eq_false e, Bool.false_or]; exact valV_any k r
theorem length_putK (kvs : List (κ × V)) (k : κ) (v : V) : (putK kvs k v).length ≤ kvs.length + 1 := by
  unfold putK
  split
  · rw [List.length_map]; omega
  · rw [List.length_append, List.length_cons, List.length_nil]; omega
theorem putK_new {kvs : List (κ × V)} {k : κ} (v : V) (h : valV kvs k = none) : putK kvs k v = kvs ++ [(k, v)] := by
  unfold putK
  rw [valV_any, h]
  exact if_neg (by decide)
theorem RelO.isSome_eq {o : Option V} {u : Option Value} (r : RelO o u) : o.isSome = u.isSome := by
  cases o with
  | none => cases u with
    | none => rfl
    | some _ => exact (show False from r).elim
  | some _ => cases u with
    | none => exact (show False from r).elim
    | some _ => rfl
theorem RelO.getD {o : Option V} {u : Option Value} {d : V} {d' : Value} (r : RelO o u) (rd : RelV d d') : RelV (o.getD d) (u.getD d') := by
  cases o with
  | none => cases u with
    | none => exact rd
    | some _ => exact (show False from r).elim
  | some _ => cases u with
    | none => exact (show False from r).elim
    | some _ => exact r
theorem KV.val {kvs : List (κ × V)} {vs : List (κ × Value)} (r : KV kvs vs) (k : κ) : RelO (valV kvs k) (valueAt vs k) := by
  unfold KV at r
  induction r with
  | nil => exact True.intro
  | @cons p q ps qs h t ih =>
    obtain ⟨h1, h2⟩ := h
    by_cases e : p.1 = k
    · have e' : q.1 = k := h1.symm.trans e
      have b : valueAt (q :: qs) k = some q.2 := by simp [valueAt, List.find?_cons, e']
      rw [valV_pos e, b]; exact h2
    · have e' : ¬ q.1 = k := fun z => e (h1.trans z)
      have b : valueAt (q :: qs) k = valueAt qs k := by simp [valueAt, List.find?_cons, e']
      rw [valV_neg e, b]; exact ih
theorem KV.any {kvs : List (κ × V)} {vs : List (κ × Value)} (r : KV kvs vs) (k : κ) : (kvs.any fun kv => decide (kv.1 = k)) = vs.any fun kv => decide (kv.1 = k) := by
  unfold KV at r
  induction r with
  | nil => rfl
  | cons h t ih => rw [List.any_cons, List.any_cons, ih, h.1]
theorem KV.repl {kvs : List (κ × V)} {vs : List (κ × Value)} (r : KV kvs vs) (k : κ) {y : V} {u : Value} (ry : RelV y u) :
    KV (kvs.map fun kv => if kv.1 = k then (kv.1, y) else kv) (vs.map fun kv => if kv.1 = k then (kv.1, u) else kv) := by
  unfold KV at r ⊢
  induction r with
  | nil => exact .nil
  | @cons p q ps qs h t ih =>
    rw [List.map_cons, List.map_cons]
    refine .cons ?_ ih
    obtain ⟨h1, h2⟩ := h
    by_cases e : p.1 = k
    · rw [if_pos e, if_pos (h1.symm.trans e)]; exact ⟨h1, ry⟩
    · rw [if_neg e, if_neg (fun z => e (h1.trans z))]; exact ⟨h1, h2⟩
theorem KV.put {kvs : List (κ × V)} {vs : List (κ × Value)} (r : KV kvs vs) (k : κ) {y : V} {u : Value} (ry : RelV y u) : KV (putK kvs k y) (stored vs k u) := by
  unfold putK stored
  rw [r.any k]
  by_cases e : (vs.any fun kv => decide (kv.1 = k)) = true
  · rw [if_pos e, if_pos e]; exact r.repl k ry
  · rw [if_neg e, if_neg e]; exact Paired.snoc r ⟨rfl, ry⟩
theorem KV.length {kvs : List (κ × V)} {vs : List (κ × Value)} (r : KV kvs vs) : kvs.length = vs.length := Paired.length r
end
theorem kV_is {P : Program} {w : World} {k : Key} {u : Value} (r : RelV (kV k) u) : (mixKind P w).is k u = true := by
  cases k with
  | inl i => obtain ⟨t, e⟩ := (show ∃ t, u = Value.int i t from r); subst e; exact mixKind_int P w i t
  | inr x => obtain ⟨t, e⟩ := (show ∃ t, u = Value.str x t from r); subst e; exact mixKind_str P w x t
theorem items_are {P : Program} {w : World} : ∀ {ks : List Key} {us : List Value}, Vals (ks.map kV) us → ItemsAre (mixKind P w) ks us
  | [], _, r => by rw [List.map_nil] at r; cases r; exact .nil
  | k :: ks, _, r => by
    rw [List.map_cons] at r
    cases r with
    | cons h t => exact .cons (kV_is h) (items_are t)
abbrev KT (H : Hp) : List (List Key × V) → List (List Key × Addr × Value) → Prop := Paired fun p q => p.1 = q.1 ∧ H q.2.1 = some (.tup (p.1.map kV)) ∧ RelV p.2 q.2.2
theorem KT.val {H : Hp} {kvs : List (List Key × V)} {xs : List (List Key × Addr × Value)} (r : KT H kvs xs) (k : List Key) : RelO (valV kvs k) ((atKey xs k).map (·.2)) := by
  induction r with
  | nil => exact True.intro
  | @cons p q ps qs h t ih =>
    obtain ⟨h1, _, h2⟩ := h
    by_cases e : p.1 = k
    · have e' : q.1 = k := h1.symm.trans e
      have b : atKey (q :: qs) k = some q.2 := by simp [atKey, List.find?_cons, e']
      rw [valV_pos e, b]; exact h2
    · have e' : ¬ q.1 = k := fun z => e (h1.trans z)
      have b : atKey (q :: qs) k = atKey qs k := by simp [atKey, List.find?_cons, e']
      rw [valV_neg e, b]; exact ih
theorem KT.repl {H : Hp} {kvs : List (List Key × V)} {xs : List (List Key × Addr × Value)} (r : KT H kvs xs) (k : List Key) {y : V} {u : Value} (ry : RelV y u) :
    KT H (kvs.map fun kv => if kv.1 = k then (kv.1, y) else kv) (xs.map (putAt k u)) := by
  induction r with
  | nil => exact .nil
  | @cons p q ps qs h t ih =>
    rw [List.map_cons, List.map_cons]
    refine .cons ?_ ih
    obtain ⟨h1, h2, h3⟩ := h
    unfold putAt
    by_cases e : p.1 = k
    · rw [if_pos e, if_pos (h1.symm.trans e)]; exact ⟨h1, h2, ry⟩
    · rw [if_neg e, if_neg (fun z => e (h1.trans z))]; exact ⟨h1, h2, h3⟩
theorem KT.put {H : Hp} {kvs : List (List Key × V)} {xs : List (List Key × Addr × Value)} (r : KT H kvs xs) (k : List Key) {b : Addr} {y : V} {u : Value} (hb : H b = some (.tup (k.map kV))) (ry : RelV y u) :
    KT H (putK kvs k y) (storedH xs k b u) := by
  have e : (kvs.any fun kv => decide (kv.1 = k)) = (atKey xs k).isSome := by
    rw [valV_any, (r.val k).isSome_eq, Option.isSome_map]
  unfold putK storedH
  rw [e]
  by_cases q : (atKey xs k).isSome = true
  · rw [if_pos q, if_pos q]; exact r.repl k ry
  · rw [if_neg q, if_neg q]; exact Paired.snoc r ⟨rfl, hb, ry⟩
theorem KT.keeps {H H' : Hp} {kvs : List (List Key × V)} {xs : List (List Key × Addr × Value)} (r : KT H kvs xs) (ht : ∀ b ys, H b = some (.tup ys) → H' b = some (.tup ys)) : KT H' kvs xs :=
  Paired.mapP r fun _ _ z => ⟨z.1, ht _ _ z.2.1, z.2.2⟩
section
variable {P : Program} {w : World} {H : Hp} {h : Heap} {a : Addr}
theorem rd_of {u : HO} (ok : HOk P w H h) (e : Rd H a u) : ObjOk P w H h a u := e.ok ok
theorem dk_rd {kvs : List (Key × V)} (ok : HOk P w H h) (e : Rd H a (.dK kvs)) : kvs.length ≤ sizeLine ∧ (a == sysModules) = false ∧ ∃ vs, KV kvs vs ∧ h.DictOf (mixKind P w) a vs :=
  show ObjOk P w H h a (.dK kvs) from rd_of ok e
theorem dk_of {kvs : List (Key × V)} (ok : HOk P w H h) (e : H a = some (.dK kvs)) : kvs.length ≤ sizeLine ∧ (a == sysModules) = false ∧ ∃ vs, KV kvs vs ∧ h.DictOf (mixKind P w) a vs := dk_rd ok (.inl e)
theorem key_of {ks : List Key} (ok : HOk P w H h) (e : H a = some (.tup (ks.map kV))) : (tupleKind (mixKind P w)).is h ks a := by
  obtain ⟨_, its, r, o, h1, h2, n, h3⟩ := (show ObjOk P w H h a (.tup (ks.map kV)) from ok a _ e)
  exact ⟨o, its.toArray, n, h1, h2, h3, by simpa using items_are r⟩
theorem dt_rd {kvs : List (List Key × V)} (ok : HOk P w H h) (e : Rd H a (.dT kvs)) : kvs.length ≤ sizeLine ∧ (a == sysModules) = false ∧
    ∃ xs, KT H kvs xs ∧ h.DictOfH (tupleKind (mixKind P w)) a xs := by
  obtain ⟨z, y, xs, r, o, es, ep, h1, h2, h3, h4, h5⟩ := (show ObjOk P w H h a (.dT kvs) from rd_of ok e)
  refine ⟨z, y, xs, r, o, es, ep, h1, h2, h3, h4, fun x hx => ?_, h5⟩
  have all : ∀ {l : List (List Key × V)} {m : List (List Key × Addr × Value)}, KT H l m → ∀ x ∈ m, (tupleKind (mixKind P w)).is h x.1 x.2.1 := by
    intro l m q
    induction q with
    | nil => intro x hx; exact nomatch hx
    | @cons p q ps qs hq t ih =>
      intro x hx
      rcases List.mem_cons.mp hx with e | hx
      · subst e
        exact key_of ok (by rw [← hq.1]; exact hq.2.1)
      · exact ih x hx
  exact all r x hx
theorem dt_of {kvs : List (List Key × V)} (ok : HOk P w H h) (e : H a = some (.dT kvs)) : kvs.length ≤ sizeLine ∧ (a == sysModules) = false ∧
    ∃ xs, KT H kvs xs ∧ h.DictOfH (tupleKind (mixKind P w)) a xs := dt_rd ok (.inl e)
end
def DGet (H : Hp) (a : Addr) (y : V) (r : Option V) : Prop :=
  (∃ kvs k, Rd H a (.dK kvs) ∧ y = kV k ∧ r = valV kvs k) ∨ ∃ kvs k b, Rd H a (.dT kvs) ∧ y = .ref b ∧ H b = some (.tup (k.map kV)) ∧ r = valV kvs k
def DPut (H : Hp) (a : Addr) (y v : V) (H' : Hp) : Prop :=
  (∃ kvs k, H a = some (.dK kvs) ∧ y = kV k ∧ kvs.length < sizeLine ∧ H' = upd H a (.dK (putK kvs k v))) ∨
  ∃ kvs k b, H a = some (.dT kvs) ∧ y = .ref b ∧ H b = some (.tup (k.map kV)) ∧ kvs.length < sizeLine ∧ H' = upd H a (.dT (putK kvs k v))
theorem DGet.k {H : Hp} {a : Addr} {kvs : List (Key × V)} {k : Key} (e : H a = some (.dK kvs)) : DGet H a (kV k) (valV kvs k) := .inl ⟨kvs, k, .inl e, rfl, rfl⟩
theorem DPut.k {H : Hp} {a : Addr} {kvs : List (Key × V)} {k : Key} {v : V} (e : H a = some (.dK kvs)) (hl : kvs.length < sizeLine) : DPut H a (kV k) v (upd H a (.dK (putK kvs k v))) := .inl ⟨kvs, k, e, rfl, hl, rfl⟩
section
variable {X : Cx} {pins : List (Addr × Obj)} {σ : St} {H : Hp} {s : Shared} {a : Addr} {y v : V} {u r : Value} {o : Option V} {A : Around} {E : Value → Shared → Prop}
theorem Inv.big (I : Inv X pins σ H s) : sysModules < s.heap.objs.size := by
  have h : mainGlobals < s.heap.objs.size := (I.mod.glob.keeps I.bk).lt
  exact Nat.lt_trans (by decide) h
theorem d_getItem {Q : Value → Shared → Prop} (hu : A.units + 1 < cLine) (I : Inv X pins σ H s) (g : DGet H a y (some v)) (ry : RelV y u) (h : ∀ w' s', Inv X pins σ H s' → RelV v w' → Q w' s') :
    wpAny (model X.prog X.w) A (getItem (.ref a) u) Q E s := by
  rcases g with ⟨kvs, k, e, ey, l⟩ | ⟨kvs, k, b, e, ey, eb, l⟩
  · subst ey
    obtain ⟨z, hd, vs, rel, dd⟩ := dk_rd I.hok e
    obtain ⟨w', hw, rw'⟩ := RelO.some_of (v := v) (o := valueAt vs k) (by rw [l]; exact rel.val k)
    exact wpAny_getItem_of (kV_is ry) dd.mapOf hw (h w' _ (I.tok _) rw')
  · subst ey
    cases (show u = Value.ref b from ry)
    obtain ⟨z, hd, xs, rel, dd⟩ := dt_rd I.hok e
    obtain ⟨w', hw, rw'⟩ := RelO.some_of (v := v) (o := (atKey xs k).map (·.2)) (by rw [l]; exact rel.val k)
    obtain ⟨p, hp, hp2⟩ := Option.map_eq_some_iff.mp hw
    refine wpAny_getItem_heap (tupleKind_room_in1 hu) (key_of I.hok eb) dd hp ?_
    rw [hp2]
    exact h w' _ (I.tok _) rw'
theorem d_write {h' : Heap} {t' : Nat} {ob : HO} (I : Inv X pins σ H s) (mu : Mut (H a)) (hs : Heap.SameBut a s.heap h') (he : ∃ q, h'.get? a = some q) (new : ObjOk X.prog X.w (upd H a ob) h' a ob) :
    Inv X pins σ (upd H a ob) { s with heap := h', toks := t' } :=
  I.write (x := a) (e := a) mu (.inl rfl) (fun b q hb z => (hs.2 b hb).trans z) he new
theorem dk_new {P : Program} {w : World} {H' : Hp} {h' : Heap} {kvs : List (Key × V)} {vs : List (Key × Value)} (z : kvs.length ≤ sizeLine) (hd : (a == sysModules) = false) (rel : KV kvs vs) (dd : h'.DictOf (mixKind P w) a vs) :
    ObjOk P w H' h' a (.dK kvs) := ⟨z, hd, vs, rel, dd⟩
theorem d_setItem {H' : Hp} {Q : Unit → Shared → Prop} (hu : A.units + 1 < cLine) (I : Inv X pins σ H s) (g : DPut H a y v H') (ry : RelV y u) (rv : RelV v r) (h : ∀ s', Inv X pins σ H' s' → Q () s') :
    wpAny (model X.prog X.w) A (setItem (.ref a) u r) Q E s := by
  rcases g with ⟨kvs, k, e, ey, l, eH⟩ | ⟨kvs, k, b, e, ey, eb, l, eH⟩
  · subst ey eH
    obtain ⟨z, hd, vs, rel, dd⟩ := dk_of I.hok e
    have hz : vs.length ≤ sizeLine := by rw [← rel.length]; exact z
    have hl : (putK kvs k v).length ≤ sizeLine := by have := length_putK kvs k v; omega
    refine wpAny_setItem_pairs (hsz := hz) (kV_is ry) dd fun h' dd' hs => h _ ?_
    have he : ∃ q, h'.get? a = some q := let ⟨q, _, _, hq, _⟩ := dd'; ⟨q, hq⟩
    exact d_write I (by rw [e]; exact True.intro) hs he (dk_new hl hd (rel.put k rv) dd')
  · subst ey eH
    cases (show u = Value.ref b from ry)
    obtain ⟨z, hd, xs, rel, dd⟩ := dt_of I.hok e
    have hz : xs.length ≤ sizeLine := by rw [← Paired.length rel]; exact z
    have hl : (putK kvs k v).length ≤ sizeLine := by have := length_putK kvs k v; omega
    refine wpAny_setItem_heap (hsz := hz) (tupleKind_room_in1 hu) (key_of I.hok eb) dd fun h' dd' hs => h _ ?_
    obtain ⟨q, es, ep, hq, h2, h3, h4, _, h5⟩ := dd'
    refine d_write I (by rw [e]; exact True.intro) hs ⟨q, hq⟩ ⟨hl, hd, _, (rel.put k eb rv).keeps fun c ys ec => ?_, q, es, ep, hq, h2, h3, h4, h5⟩
    rw [upd_ne (ne_of ec e (fun z => nomatch z))]
    exact ec
end
section
variable {X : Cx} {pins : List (Addr × Obj)} {σ : St} {H : Hp} {s : Shared} {a : Addr} {kvs : List (Key × V)} {k : Key} {u : Value} {A : Around} {E : Value → Shared → Prop}
end
def NoSl (i : Expr) : Prop := ∀ ov iv, subscripted i false ov iv = operate [ov, iv] (getItem ov iv)
theorem subD_of {prog : Program} {w : World} {A : Around} {E : Value → Shared → Prop} {s : Shared} {env : Env} {value slice : Expr} {pos : Pos} {T id : String} {Q : Value → Shared → Prop}
    (hl : typeLookup (.type T) "__getitem__" = pure (some (.builtin id))) (hs : NoSl slice)
    (h : wpAny (model prog w) A (eval value env) (fun o s₁ => wpAny (model prog w) A (eval slice env) (fun i s₂ => s₂.TypeIs o T ∧ wpAny (model prog w) A (getItem o i) Q E s₂) E s₁) E s) :
    wpAny (model prog w) A (eval (.Subscript value slice pos) env) Q E s := by
  refine Subscript_ (wpAny_mono h (fun o s₁ h₁ => wpAny_mono h₁ (fun i s₂ h₂ => ?_) fun _ _ x => x) fun _ _ x => x)
  obtain ⟨hT, h₂⟩ := h₂
  unfold subscriptTail
  refine wpAny_bind ?_
  rw [getitemInPython_of_ne hT.not_modules]
  refine wpAny_bind (wpAny_specialOf hT hl ?_)
  have fin : wpAny (model prog w) A (subscripted slice false o i) (fun r s₃ => wpAny (model prog w) A (letTemporaryGo value o r >>= fun _ => pure r) Q E s₃) E s₂ := by
    rw [hs o i]
    exact wpAny_operating (wpAny_mono h₂ (fun r s₃ h₃ => wpAny_bind (wpAny_letTemporaryGo (wpAny_pure h₃))) fun _ _ x => x)
  first
    | exact wpAny_pure (wpAny_bind fin)
    | exact wpAny_bind (wpAny_pure (wpAny_bind fin))
    | exact wpAny_bind fin
theorem dict_typeIs {X : Cx} {pins : List (Addr × Obj)} {σ : St} {H : Hp} {s : Shared} {a : Addr} {y : V} {o : Option V} (I : Inv X pins σ H s) (g : DGet H a y o) : s.TypeIs (.ref a) "dict" := by
  rcases g with ⟨kvs, k, e, _, _⟩ | ⟨kvs, k, b, e, _, _, _⟩
  · obtain ⟨_, _, vs, _, dd⟩ := dk_rd I.hok e
    exact dd.typeIs
  · obtain ⟨_, _, xs, _, dd⟩ := dt_rd I.hok e
    exact dd.typeIs
def tDGet (td ty : TE) : TE := fun σ H Q => td σ H fun x H1 => ty σ H1 fun y H2 => ∃ a v, x = .ref a ∧ DGet H2 a y (some v) ∧ Q v H2
def sDPut (td ty tv : TE) : TS := fun D σ H => tv σ H fun v H1 => td σ H1 fun x H2 => ty σ H2 fun y H3 => ∃ a H4, x = .ref a ∧ DPut H3 a y v H4 ∧ D.nx σ H4
section
variable {X : Cx} {o i e value : Expr} {pos pos' tpos : Pos} {td ty tv : TE}
theorem pe_dget (hu : X.A.units + 1 < cLine) (ho : PE X o td) (hi : PE X i ty) (hs : NoSl i) : PE X (.Subscript o i pos) (tDGet td ty) := by
  intro pins s σ H Q I h
  refine subD_of PySem.F.slot_dict_getitem.lookup hs (thn (ho pins s σ H _ I h) fun u s1 ⟨x, H1, I1, rx, q1⟩ => thn (hi pins s1 σ H1 _ I1 q1) fun iv s2 ⟨y, H2, I2, ry, a, v, ex, g, q2⟩ => ?_)
  subst ex
  obtain rfl : u = Value.ref a := rx
  exact ⟨dict_typeIs I2 g, d_getItem hu I2 g ry fun w' s3 I3 rw' => ⟨v, H2, I3, rw', q2⟩⟩
theorem ps_dput (hu : X.A.units + 1 < cLine) (ho : PE X o td) (hi : PE X i ty) (hv : PE X value tv) (hs : swapsWith value (some (.Subscript o i pos')) pos.line X.env = pure false) :
    PS X (.Assign [.Subscript o i pos'] value pos) (sDPut td ty tv) := by
  intro pins s σ H D I h
  refine wpAny_Assign_Subscript (thn (hv pins s σ H _ I h) fun r s1 ⟨v, H1, I1, rv, q1⟩ => thn (ho pins s1 σ H1 _ I1 q1) fun u s2 ⟨x, H2, I2, rx, q2⟩ => thn (hi pins s2 σ H2 _ I2 q2) fun iv s3 ⟨y, H3, I3, ry, a, H4, ex, g, q3⟩ => ?_) hs
  subst ex
  obtain rfl : u = Value.ref a := rx
  exact d_setItem hu I3 g ry rv fun s4 I4 => ⟨σ, H4, I4, q3⟩
end
theorem dk_empty {P : Program} {w : World} {H : Hp} (h : Heap) (hb : sysModules < h.objs.size) : ObjOk P w H (h.push { cls := .type "dict", data := .dict #[] }) h.objs.size (.dK []) :=
  ⟨Nat.zero_le _, beq_eq_false_iff_ne.mpr (Ne.symm (Nat.ne_of_lt hb)), [], .nil, Heap.DictOf.new h⟩
section
variable {X : Cx} {pos : Pos}
end
def tPairs : List (TE × TE) → St → Hp → (List (V × V) → Hp → Prop) → Prop
  | [], _, H, Q => Q [] H
  | (tk, tv) :: r, σ, H, Q => tk σ H fun x H1 => tv σ H1 fun y H2 => tPairs r σ H2 fun ps H3 => Q ((x, y) :: ps) H3
abbrev VV : List (V × V) → List (Value × Value) → Prop := Paired fun p q => RelV p.1 q.1 ∧ RelV p.2 q.2
def PPs (X : Cx) (pos : Pos) (keys : List (Option Expr)) (values : List Expr) (trs : List (TE × TE)) : Prop :=
  ∀ (pins : List (Addr × Obj)) (s : Shared) (σ : St) (H : Hp) (Q : List (V × V) → Hp → Prop), Inv X pins σ H s → tPairs trs σ H Q →
    wpAny (model X.prog X.w) X.A (evalPairs (pairTrees keys values X.env pos)) (fun vs s' => ∃ ps H', Inv X pins σ H' s' ∧ VV ps vs ∧ Q ps H') X.xe s
theorem pps_nil {X : Cx} {pos : Pos} : PPs X pos [] [] [] := fun pins s σ H Q I h => pairTrees_nil_walk ⟨[], H, I, .nil, h⟩
theorem pps_cons {X : Cx} {pos : Pos} {k v : Expr} {ks : List (Option Expr)} {vs : List Expr} {tk tv : TE} {trs : List (TE × TE)} (hk : PE X k tk) (hv : PE X v tv) (hr : PPs X pos ks vs trs) :
    PPs X pos (some k :: ks) (v :: vs) ((tk, tv) :: trs) := fun pins s σ H Q I h =>
  pairTrees_cons_walk (thn (hk pins s σ H _ I h) fun u s1 ⟨x, H1, I1, rx, q1⟩ => thn (hv pins s1 σ H1 _ I1 q1) fun w2 s2 ⟨y, H2, I2, ry, q2⟩ =>
    thn (hr pins s2 σ H2 _ I2 q2) fun ws s3 ⟨ps, H3, I3, rel, q3⟩ => ⟨(x, y) :: ps, H3, I3, .cons ⟨rx, ry⟩ rel, q3⟩)
def mergeK (kvs more : List (Key × V)) : List (Key × V) := more.foldl (fun acc kv => putK acc kv.1 kv.2) kvs
theorem KV.merge : ∀ {more : List (Key × V)} {rs : List (Key × Value)} {kvs : List (Key × V)} {vs : List (Key × Value)}, KV more rs → KV kvs vs → KV (mergeK kvs more) (merged vs rs) := by
  intro more rs kvs vs r
  unfold KV at r
  induction r generalizing kvs vs with
  | nil => intro q; exact q
  | @cons p q ps qs h t ih =>
    intro r0
    have e : KV (putK kvs p.1 p.2) (stored vs q.1 q.2) := by
      have := r0.put p.1 h.2
      rw [← h.1]; exact this
    exact ih e
theorem length_mergeK : ∀ (more kvs : List (Key × V)), (mergeK kvs more).length ≤ kvs.length + more.length
  | [], kvs => by show kvs.length ≤ kvs.length + 0; omega
  | p :: r, kvs => by
    have h1 := length_mergeK r (putK kvs p.1 p.2)
    have h2 := length_putK kvs p.1 p.2
    show (mergeK (putK kvs p.1 p.2) r).length ≤ _
    rw [List.length_cons]; omega
theorem carries_of {P : Program} {w : World} : ∀ {kvs : List (Key × V)} {ws : List (Value × Value)}, VV (kvs.map fun kv => (kV kv.1, kv.2)) ws → ∃ rs, Carries (mixKind P w) ws rs ∧ KV kvs rs
  | [], _, r => by rw [List.map_nil] at r; cases r; exact ⟨[], True.intro, .nil⟩
  | p :: kvs, _, r => by
    rw [List.map_cons] at r
    cases r with
    | @cons a b as bs h t =>
      obtain ⟨rs, c, q⟩ := carries_of (P := P) (w := w) t
      obtain ⟨b1, b2⟩ := b
      exact ⟨(p.1, b2) :: rs, ⟨kV_is h.1, rfl, c⟩, .cons ⟨rfl, h.2⟩ q⟩
def tDisp (trs : List (TE × TE)) : TE := fun σ H Q => ∀ p, H p = none → tPairs trs σ (upd H p (.dK [])) fun ps H2 => H2 p = some (.dK []) ∧ ∃ kvs : List (Key × V), ps = kvs.map (fun kv => (kV kv.1, kv.2)) ∧ kvs.length ≤ 15 ∧ Q (.ref p) (upd H2 p (.dK (mergeK [] kvs)))
theorem pe_disp {X : Cx} {pos : Pos} {keys : List (Option Expr)} {values : List Expr} {trs : List (TE × TE)} (h : PPs X pos keys values trs) (hall : keys.all (·.isSome) = true) (hl : keys.length = values.length) (h0 : keys ≠ [])
    (h15 : keys.length ≤ 15) : PE X (.Dict keys values pos) (tDisp trs) := by
  intro pins s σ H Q I q
  have hn := I.hok.fresh (Nat.le_refl s.heap.objs.size)
  have I1 := I.laid (a := s.heap.objs.size) (o := .dK []) (h' := s.heap.push { cls := .type "dict", data := .dict #[] }) (t' := s.toks) (fun _ _ q => Heap.get?_push_of_some _ q) (Nat.le_refl _) (dk_empty s.heap I.big)
  refine wpAny_Dict_walk (knd := mixKind X.prog X.w) hall hl h0 h15 (thn (h pins _ σ _ _ I1 (q _ hn)) fun ws s2 ⟨ps, H2, I2, rel, e, kvs, ep, lk, q2⟩ => ?_)
  subst ep
  obtain ⟨rs, c, rk⟩ := carries_of (P := X.prog) (w := X.w) rel
  obtain ⟨z, hd, vs0, r0, dd⟩ := dk_of I2.hok e
  cases r0
  refine ⟨rs, c, dd, fun h' dd' hs => ⟨.ref s.heap.objs.size, _, ?_, rfl, q2⟩⟩
  have hz : (mergeK [] kvs).length ≤ sizeLine := by
    have h1 := length_mergeK kvs []
    rw [List.length_nil] at h1
    rw [sizeLine_eq]; omega
  have he : ∃ q, h'.get? s.heap.objs.size = some q := let ⟨q, _, _, hq, _⟩ := dd'; ⟨q, hq⟩
  exact d_write I2 (by rw [e]; exact True.intro) hs he (dk_new hz hd (rk.merge .nil) dd')
structure M2 (X : Cx) (o : Expr) (m : Str) (apos : Pos) (e f : Expr) (cpos : Pos) : Prop where
  base : attributeBase o m X.env (eval o X.env) = eval o X.env
  few : ((backTo cpos (starEach [e, f] X.env)).all (fun x => !x.1) && (backToKw cpos (keywordEach [] X.env)).all (fun x => x.1.isSome)
    && decide (([e, f] : List Expr).length + ([] : List Keyword).length + (if ([] : List Keyword).isEmpty then 0 else 1) < 30)) = true
  line : (apos.endLine == cpos.line) = true
  trees : backTo cpos (starEach [e, f] X.env) = [(false, eval e X.env), (false, eval f X.env)]
def IsD (H : Hp) (a : Addr) : Prop := (∃ kvs, Rd H a (.dK kvs)) ∨ ∃ kvs, Rd H a (.dT kvs)
theorem isD_at {X : Cx} {pins : List (Addr × Obj)} {σ : St} {H : Hp} {s : Shared} {a : Addr} (I : Inv X pins σ H s) (d : IsD H a) :
    s.TypeIs (.ref a) "dict" ∧ (∀ b, Value.ref a = .ref b → ∃ ob, s.heap.get? b = some ob ∧ ob.dict = none) ∧ (a == sysModules) = false := by
  rcases d with ⟨kvs, e⟩ | ⟨kvs, e⟩
  · obtain ⟨_, hd, vs, _, dd⟩ := dk_rd I.hok e
    refine ⟨dd.typeIs, fun b q => ?_, hd⟩
    cases q
    obtain ⟨ob, _, _, h1, h2, _⟩ := dd
    exact ⟨ob, h1, h2.2.1⟩
  · obtain ⟨_, hd, xs, _, dd⟩ := dt_rd I.hok e
    refine ⟨dd.typeIs, fun b q => ?_, hd⟩
    cases q
    obtain ⟨ob, _, _, h1, h2, _⟩ := dd
    exact ⟨ob, h1, h2.2.1⟩
section
variable {X : Cx} {pins : List (Addr × Obj)} {σ : St} {H : Hp} {s : Shared} {a : Addr} {y d : V} {u r : Value} {o : Option V} {A : Around} {E : Value → Shared → Prop}
theorem d_get2 {Q : Value → Shared → Prop} (hu : A.units + 1 < cLine) (I : Inv X pins σ H s) (g : DGet H a y o) (ry : RelV y u) (rd : RelV d r) (h : ∀ w' s', Inv X pins σ H s' → RelV (o.getD d) w' → Q w' s') :
    wpAny (model X.prog X.w) A (call (.builtin "dict.get") [.ref a, u, r]) Q E s := by
  rcases g with ⟨kvs, k, e, ey, l⟩ | ⟨kvs, k, b, e, ey, eb, l⟩
  · subst ey
    obtain ⟨z, hd, vs, rel, dd⟩ := dk_rd I.hok e
    refine call_meetsIn PySem.F.slot_dict_get dd.typeIs PySem.F.entry_dict_get (PySem.F.args_dict_get_3 _ _ _) (meets_dict_get_default (mixKind X.prog X.w) a (kV_is ry) hd r) ⟨_, dd.mapOf, h _ _ (I.tok _) ?_⟩
    rw [l]
    exact (rel.val k).getD rd
  · subst ey
    cases (show u = Value.ref b from ry)
    obtain ⟨z, hd, xs, rel, dd⟩ := dt_rd I.hok e
    refine call_meetsIn PySem.F.slot_dict_get dd.typeIs PySem.F.entry_dict_get (PySem.F.args_dict_get_3 _ _ _) (meetsH_dict_get_default (tupleKind (mixKind X.prog X.w)) a b hd r) ⟨tupleKind_room_in1 hu, k, xs, key_of I.hok eb, dd, h _ _ (I.tok _) ?_⟩
    rw [l]
    exact (rel.val k).getD rd
end
def tDGet2 (td ty tx : TE) : TE := fun σ H Q => td σ H fun x H1 => ∃ a, x = .ref a ∧ IsD H1 a ∧ ty σ H1 fun y H2 => tx σ H2 fun z H3 => ∃ o, DGet H3 a y o ∧ Q (o.getD z) H3
section
variable {X : Cx} {o e f : Expr} {apos cpos : Pos} {td ty tx : TE}
theorem pe_dget2 (hu : X.A.units + 1 < cLine) (ho : PE X o td) (he : PE X e ty) (hf : PE X f tx) (m : M2 X o "get" apos e f cpos) : PE X (.Call (.Attribute o "get" apos) [e, f] [] cpos) (tDGet2 td ty tx) := by
  intro pins s σ H Q I h
  refine wpAny_Call_method m.base m.few m.line PySem.F.plainAttrs_dict PySem.F.slot_dict_get PySem.F.type_dict_get (thn (ho pins s σ H _ I h) fun u s1 ⟨x, H1, I1, rx, a, ex, d, q1⟩ => ?_)
  subst ex
  obtain rfl : u = Value.ref a := rx
  obtain ⟨t1, t2, _⟩ := isD_at I1 d
  refine ⟨t1, t2, ?_⟩
  rw [m.trees]
  refine Calls.callWith_builtin rfl (Calls.evalArgs_plain (Calls.spliced_cons (thn (he pins s1 σ H1 _ I1 q1) fun iv s2 ⟨y, H2, I2, ry, q2⟩ =>
    Calls.spliced_cons (thn (hf pins s2 σ H2 _ I2 q2) fun fv s3 ⟨z, H3, I3, rz, ov, g, q3⟩ => Calls.spliced_nil ?_))))
  exact d_get2 hu I3 g ry rz fun w' s4 I4 rw' => ⟨_, H3, I4, rw', q3⟩
end
section
variable {X : Cx} {pins : List (Addr × Obj)} {σ : St} {H : Hp} {s : Shared} {a : Addr} {kvs : List (Key × V)} {A : Around} {E : Value → Shared → Prop}
end
section
variable {X : Cx} {pins : List (Addr × Obj)} {σ : St} {H : Hp} {s : Shared} {a : Addr} {y : V} {u : Value} {A : Around} {E : Value → Shared → Prop}
end
end L2
set_option Elab.async false
set_option linter.all false
set_option maxRecDepth 100000
namespace L2
open PySem PySem.Spec PyProof.Rows
section
variable {prog : Program} {w : World} {A : Around} {E : Value → Shared → Prop} {env : Env}
end
def headIs (H : Hp) (z : Str) (p : Addr) : Bool := match H p with
  | some (.tup (.str y :: _)) => decide (y = z)
  | _ => false
section
variable {X : Cx}
end
end L2
namespace L2
open PySem PySem.Spec PyProof.Rows
section
variable {X : Cx} {td ty tv tx : TE} {σ : St} {H : Hp} {Q : VK} {D : Ends} {trs : List (TE × TE)} {QP : List (V × V) → Hp → Prop}
theorem rd_dget (h : td σ H fun x H1 => ty σ H1 fun y H2 => ∃ a v, x = .ref a ∧ DGet H2 a y (some v) ∧ Q v H2) : tDGet td ty σ H Q := h
theorem rd_dput (h : tv σ H fun v H1 => td σ H1 fun x H2 => ty σ H2 fun y H3 => ∃ a H4, x = .ref a ∧ DPut H3 a y v H4 ∧ D.nx σ H4) : sDPut td ty tv D σ H := h
theorem rd_pcons (h : td σ H fun x H1 => ty σ H1 fun y H2 => tPairs trs σ H2 fun ps H3 => QP ((x, y) :: ps) H3) : tPairs ((td, ty) :: trs) σ H QP := h
theorem rd_pnil (h : QP [] H) : tPairs [] σ H QP := h
theorem rd_disp (h : ∀ p, H p = none → tPairs trs σ (upd H p (.dK [])) fun ps H2 => H2 p = some (.dK []) ∧ ∃ kvs : List (Key × V), ps = kvs.map (fun kv => (kV kv.1, kv.2)) ∧ kvs.length ≤ 15 ∧ Q (.ref p) (upd H2 p (.dK (mergeK [] kvs)))) : tDisp trs σ H Q := h
theorem rd_dget2 (h : td σ H fun x H1 => ∃ a, x = .ref a ∧ IsD H1 a ∧ ty σ H1 fun y H2 => tx σ H2 fun z H3 => ∃ o, DGet H3 a y o ∧ Q (o.getD z) H3) : tDGet2 td ty tx σ H Q := h
theorem m2_of {o e f : Expr} {m : Str} {apos cpos : Pos} (h1 : notStar e = true) (h2 : notStar f = true) (hb : attributeBase o m X.env (eval o X.env) = eval o X.env := by rfl) (hl : (apos.endLine == cpos.line) = true := by rfl) : M2 X o m apos e f cpos := by
  have e1 : starEach [e, f] X.env = [(false, eval e X.env), (false, eval f X.env)] := by rw [star_cons h1, star_cons h2]; rfl
  refine ⟨hb, ?_, hl, ?_⟩
  · rw [e1]
    generalize eval e X.env = z1
    generalize eval f X.env = z2
    rfl
  · rw [e1]
    generalize eval e X.env = z1
    generalize eval f X.env = z2
    rfl
end
section
variable {κ : Type} [DecidableEq κ]
theorem valV_mid {l1 l2 : List (κ × V)} {k : κ} {v : V} (h : ¬ k ∈ l1.map (·.1)) : valV (l1 ++ (k, v) :: l2) k = some v := by
  unfold valV
  rw [List.find?_append, List.find?_eq_none.mpr (fun x hx z => h (List.mem_map.mpr ⟨x, hx, of_decide_eq_true z⟩))]
  simp
theorem valV_none {l : List (κ × V)} {k : κ} (h : ¬ k ∈ l.map (·.1)) : valV l k = none := by
  unfold valV
  rw [List.find?_eq_none.mpr (fun x hx z => h (List.mem_map.mpr ⟨x, hx, of_decide_eq_true z⟩))]
  rfl
theorem putK_mid {l1 l2 : List (κ × V)} {k : κ} {v v' : V} (h1 : ¬ k ∈ l1.map (·.1)) (h2 : ¬ k ∈ l2.map (·.1)) : putK (l1 ++ (k, v) :: l2) k v' = l1 ++ (k, v') :: l2 := by
  unfold putK
  rw [if_pos (by simp)]
  have key : ∀ l : List (κ × V), ¬ k ∈ l.map (·.1) → l.map (fun kv => if kv.1 = k then (kv.1, v') else kv) = l := fun l hl => by
    induction l with
    | nil => rfl
    | cons p r ih =>
      rw [List.map_cons, ih (fun z => hl (by rw [List.map_cons]; exact List.mem_cons_of_mem _ z)), if_neg (fun z => hl (by rw [List.map_cons, z]; exact List.mem_cons_self ..))]
  rw [List.map_append, key l1 h1, List.map_cons, key l2 h2, if_pos rfl]
end
end L2
set_option Elab.async false
set_option linter.all false
set_option maxRecDepth 100000
namespace L2
open PySem PySem.Spec PyProof.Rows
section
variable {X : Cx} {o : Expr} {td : TE} {apos cpos : Pos}
def tDCopy (td : TE) : TE := fun σ H Q => td σ H fun x H1 => ∃ a kvs, x = .ref a ∧ H1 a = some (.dK kvs) ∧ ∀ p, H1 p = none → Q (.ref p) (upd H1 p (.dK kvs))
theorem pe_dcopy (ho : PE X o td) (hbase : attributeBase o "copy" X.env (eval o X.env) = eval o X.env := by rfl) (hline : (apos.endLine == cpos.line) = true := by rfl) : PE X (.Call (.Attribute o "copy" apos) [] [] cpos) (tDCopy td) := by
  intro pins s σ H Q I h
  refine wpAny_Call_method0_late hbase hline (thn (ho pins s σ H _ I h) fun v s1 ⟨x, H1, I1, r1, a, kvs, e, ha, q⟩ => ?_)
  subst e
  cases (show v = Value.ref a from r1)
  obtain ⟨z, hd, vs, rel, dd⟩ := dk_of I1.hok ha
  obtain ⟨t1, t2, _⟩ := isD_at I1 (.inl ⟨kvs, .inl ha⟩)
  refine ⟨"dict", "dict.copy", PySem.F.plainAttrs_dict, PySem.F.slot_dict_copy, PySem.F.type_dict_copy, t1, t2, Calls.callWith_builtin rfl (PySem.evalArgs_none ?_)⟩
  refine call_meetsIn PySem.F.slot_dict_copy dd.typeIs PySem.F.entry_dict_copy (PySem.F.args_dict_copy_1 _) (meets_dict_copy (mixKind X.prog X.w) a hd) ⟨vs, dd, by rw [← rel.length]; exact z, fun h' dd' _ hk => ?_⟩
  exact ⟨.ref s1.heap.objs.size, _, I1.laid (o := .dK kvs) (t' := s1.toks) hk (Nat.le_refl _) (dk_new z (beq_eq_false_iff_ne.mpr (Ne.symm (Nat.ne_of_lt I1.big))) rel dd'), rfl, q _ (I1.hok.fresh (Nat.le_refl _))⟩
theorem rd_dcopy {σ : St} {H : Hp} {Q : VK} (h : td σ H fun x H1 => ∃ a kvs, x = .ref a ∧ H1 a = some (.dK kvs) ∧ ∀ p, H1 p = none → Q (.ref p) (upd H1 p (.dK kvs))) : tDCopy td σ H Q := h
theorem vals_bls : ∀ {bs : List Bool} {us : List Value}, Vals (bs.map V.bl) us → us = bs.map Value.bool
  | [], _, h => by cases h; rfl
  | b :: bs, _, h => by
    cases h with
    | cons a t => cases a; rw [vals_bls t]; rfl
theorem call_allB (hc : X.calm = true) : CallR X (.builtin "all") (fun xs H Q => ∃ (a : Addr) (bs : List Bool), xs = [.ref a] ∧ H a = some (.lst (bs.map V.bl)) ∧ Q (.bl (bs.all id)) H) := by
  intro pins s σ H xs us Q I r h
  obtain ⟨a, bs, rfl, ha, q⟩ := h
  cases r with
  | cons r0 rr =>
    cases rr
    obtain rfl : _ = Value.ref a := r0
    obtain ⟨its, rv, pl, hz⟩ := I.list (SqL.of ha)
    have ei := vals_bls rv
    subst ei
    have ltA : a < s.heap.objs.size := by obtain ⟨o, _, e, _⟩ := pl; exact Heap.lt_size e
    refine call_all_walk (wpAny_pyIter_list pl.isList ⟨s.heap.objs.size, _, _, _, _, _, fun i => bs.getD i true, rfl, Walks.list (A := X.A.in1) (show X.A.in1.handled = none from I.ok.hd hc) s.heap.objs.size a (Nat.ne_of_lt ltA) (bs.map Value.bool).toArray,
      ⟨⟨_, Heap.get?_push_size _ rfl, rfl, rfl⟩, pl.isList.at fun o e => Heap.get?_push_of_some _ e⟩, ?_, fun h' tk hk => ?_⟩)
    · intro i v s' Q' E' hv hq
      have hv' : (bs.map Value.bool)[i]? = some v := by simpa using hv
      rw [List.getElem?_map] at hv'
      obtain ⟨b, hb, rfl⟩ := Option.map_eq_some_iff.mp hv'
      refine wpAny_truthy_bool ?_
      have e2 : bs.getD i true = b := by simp [List.getD, hb]
      have hq' : Q' (bs.getD i true) s' := hq
      rw [e2] at hq'
      exact hq'
    · have e1 : (List.range (bs.map Value.bool).toArray.size).all (fun i => bs.getD i true) = bs.all id := by
        simp only [List.size_toArray, List.length_map]
        rw [Bool.eq_iff_iff]
        simp only [List.all_eq_true, List.mem_range, id]
        constructor
        · intro h b hb
          obtain ⟨i, hi⟩ := List.getElem?_of_mem hb
          have := h i (List.getElem?_eq_some_iff.mp hi).1
          simpa [List.getD, hi] using this
        · intro h i hi
          have := h (bs[i]) (List.getElem_mem hi)
          simpa [List.getD, List.getElem?_eq_getElem hi] using this
      rw [e1]
      exact ⟨.bl _, H, I.kept (t' := tk) fun b o e => hk b o (fun m => by rw [List.mem_singleton.mp m] at e; exact absurd (Heap.lt_size e) (Nat.lt_irrefl _)) (Heap.get?_push_of_some _ e), rfl, q⟩
end
end L2
set_option Elab.async false
set_option linter.all false
set_option maxRecDepth 100000
namespace L2
open PySem PySem.Spec PyProof.Rows
section
variable {prog : Program} {w : World} {A : Around} {R : Result → Shared → Prop} {s : Shared}
theorem comp_loop {elt target iter : Expr} {scope : Scope} {pos : Pos} {it acc : Value} {env : Env} (I : Nat → Shared → Prop) {N : Value → Shared → Prop} (hN : ∀ e t, N e t → notedBy (model prog w) A env (fun e s' => R (.error e) s') e t)
    (turn : ∀ n t, I n t → wpAny (model prog w) A (pyNext it) (fun r t1 => match r with
      | none => R (.ok .next) t1
      | some v => wpAny (model prog w) A (letOwnedTupleGo target it v) (fun _ t2 => wpAny (model prog w) A (assign target env v) (fun _ t3 => wpAny (model prog w) A (eval elt env) (fun x t4 =>
          wpAny (model prog w) A (call (.builtin "list.append") [acc, x]) (fun _ t5 => ∃ m, m < n ∧ I m t5) N t4) N t3) N t2) N t1) N t)
    (n : Nat) (h : I n s) : codeAny (model prog w) A (.compLoop (.ListComp elt [⟨target, iter, [], 0⟩] scope pos) 0 it acc env) R s := by
  refine codeAny_loop rfl I (fun n t hI => ?_) n h
  show wpAny _ A ((compTurn (.ListComp elt [⟨target, iter, [], 0⟩] scope pos) 0 it acc env).onRaise (fun x => do noteFrame x env; theTreesLotGoes x)) _ _ t
  refine wpAny_noted ?_
  rw [compTurn_list]
  refine wpAny_bind (wpAny_standAt (wpAny_bind (wpAny_mono (turn n t hI) (fun r t1 h1 => ?_) hN)))
  cases r with
  | none => exact wpAny_pure h1
  | some v =>
    refine wpAny_bind (wpAny_mono h1 (fun _ t2 h2 => wpAny_bind (wpAny_mono h2 (fun _ t3 h3 => ?_) hN)) hN)
    refine wpAny_bind (wpAny_pure ?_)
    show wpAny _ _ (do (do let _ ← call (.builtin "list.append") [acc, ← eval elt env]); again _) _ _ t3
    exact wpAny_bind (wpAny_bind (wpAny_mono h3 (fun x t4 h4 => wpAny_bind (wpAny_mono h4 (fun _ t5 h5 => wpAny_pure (wpAny_pure ⟨rfl, h5⟩)) hN)) hN))
end
def clOf (cf : Str → Addr) : List (Str × NameKind) → List (Str × Addr) → List (Str × Addr)
  | [], acc => acc
  | (n, k) :: r, acc => clOf cf r (if (k == .free) = true then (n, cf n) :: acc else acc)
theorem closure_of {scope : Scope} {env : Env} (cf : Str → Addr) (h : ∀ u ∈ scope.names, u.2 = .free → cellOf env u.1 = pure (cf u.1)) : closureFor scope env = pure (clOf cf scope.names []) := by
  have key : ∀ (l : List (Str × NameKind)) (acc : List (Str × Addr)), (∀ u ∈ l, u.2 = .free → cellOf env u.1 = pure (cf u.1)) →
      (forIn l acc fun (x : Str × NameKind) cs => (if (x.2 == .free) = true then (do let c ← cellOf env x.1; pure (ForInStep.yield ((x.1, c) :: cs))) else pure (ForInStep.yield cs) : Sem (ForInStep (List (Str × Addr))))) = pure (clOf cf l acc) := by
    intro l
    induction l with
    | nil => intro acc _; rfl
    | cons u r ih =>
      intro acc hu
      rw [List.forIn_cons]
      unfold clOf
      obtain ⟨n, k⟩ := u
      by_cases hk : k = .free
      · subst hk
        rw [hu (n, .free) (List.mem_cons_self ..) rfl]
        exact ih _ fun v hv => hu v (List.mem_cons_of_mem _ hv)
      · have e : (k == .free) = false := by cases k <;> first | rfl | exact absurd rfl hk
        simp only [e]
        exact ih _ fun v hv => hu v (List.mem_cons_of_mem _ hv)
  unfold closureFor
  have := key scope.names [] h
  show (forIn scope.names [] _ >>= _) = _
  exact (congrArg (fun z : Sem (List (Str × Addr)) => z >>= fun cs => pure cs) this).trans rfl
end L2
namespace L2
open PySem PySem.Spec PyProof.Rows
theorem clOf_lookup {cf : Str → Addr} {y : Str} {c : Addr} : ∀ (l : List (Str × NameKind)) (acc : List (Str × Addr)), (clOf cf l acc).lookup y = some c → acc.lookup y = some c ∨ ((y, NameKind.free) ∈ l ∧ c = cf y)
  | [], acc, h => .inl h
  | (n, k) :: r, acc, h => by
    unfold clOf at h
    rcases clOf_lookup r _ h with z | ⟨z1, z2⟩
    · by_cases hk : (k == NameKind.free) = true
      · rw [if_pos hk] at z
        have ek : k = .free := by cases k <;> first | rfl | cases hk
        rw [List.lookup_cons] at z
        cases e : y == n with
        | true =>
          rw [e] at z
          have : y = n := by simpa using e
          subst this; subst ek
          exact .inr ⟨List.mem_cons_self .., (Option.some.inj z).symm⟩
        | false => rw [e] at z; exact .inl z
      · rw [if_neg hk] at z; exact .inl z
    · exact .inr ⟨List.mem_cons_of_mem _ z1, z2⟩
theorem clOf_keep {cf : Str → Addr} {y : Str} : ∀ (l : List (Str × NameKind)) (acc : List (Str × Addr)), (∃ c, acc.lookup y = some c) → ∃ c, (clOf cf l acc).lookup y = some c
  | [], acc, h => h
  | (n, k) :: r, acc, h => by
    unfold clOf
    refine clOf_keep r _ ?_
    split
    · rw [List.lookup_cons]
      cases y == n with
      | true => exact ⟨_, rfl⟩
      | false => exact h
    · exact h
theorem clOf_has {cf : Str → Addr} {y : Str} : ∀ (l : List (Str × NameKind)) (acc : List (Str × Addr)), (y, NameKind.free) ∈ l → ∃ c, (clOf cf l acc).lookup y = some c
  | (n, k) :: r, acc, h => by
    unfold clOf
    rcases List.mem_cons.mp h with z | z
    · cases z
      refine clOf_keep r _ ⟨cf y, ?_⟩
      show List.lookup y ((y, cf y) :: acc) = some (cf y)
      rw [List.lookup_cons]
      simp
    · exact clOf_has r _ z
theorem lookup_mem {y : Str} {k : NameKind} : ∀ {l : List (Str × NameKind)}, l.lookup y = some k → (y, k) ∈ l
  | (n, k') :: r, h => by
    rw [List.lookup_cons] at h
    cases e : y == n with
    | true =>
      rw [e] at h
      have : y = n := by simpa using e
      subst this
      cases h
      exact List.mem_cons_self ..
    | false => rw [e] at h; exact List.mem_cons_of_mem _ (lookup_mem h)
theorem relabel_of {env : Env} {y : Str} {k : NameKind} (hc : k = .cell ∨ k = .free) {scope : Scope} (hcell : ∀ u ∈ scope.names, u.2 ≠ .cell) (h : (relabel scope env).names.lookup y = some k) : (y, NameKind.free) ∈ scope.names := by
  have hm := lookup_mem h
  obtain ⟨u, hu, e⟩ := List.mem_map.mp hm
  obtain ⟨n, k'⟩ := u
  have hne := hcell _ hu
  simp only at e hne
  split at e
  · rename_i hif
    have : k' = .free := by
      simp only [Bool.and_eq_true] at hif
      have := hif.1.1
      cases k' <;> first | rfl | cases this
    subst this
    cases e
    exact hu
  · cases e
    rcases hc with rfl | rfl
    · exact absurd rfl hne
    · exact hu
theorem relabel_free {env : Env} {y : Str} : ∀ {l : List (Str × NameKind)}, l.lookup y = some .free →
    (l.map fun (n, k) => if (k == NameKind.free && env.scope.kind == .function && env.kindOf n == some .cell) then (n, NameKind.cell) else (n, k)).lookup y = some .cell ∨
    (l.map fun (n, k) => if (k == NameKind.free && env.scope.kind == .function && env.kindOf n == some .cell) then (n, NameKind.cell) else (n, k)).lookup y = some .free
  | (n, k) :: r, h => by
    have ih := @relabel_free env y r
    rw [List.lookup_cons] at h
    rw [List.map_cons]
    cases e : y == n with
    | true =>
      rw [e] at h
      cases h
      show List.lookup y ((if (NameKind.free == NameKind.free && env.scope.kind == .function && env.kindOf n == some .cell) = true then (n, NameKind.cell) else (n, NameKind.free)) :: _) = _ ∨ List.lookup y ((if (NameKind.free == NameKind.free && env.scope.kind == .function && env.kindOf n == some .cell) = true then (n, NameKind.cell) else (n, NameKind.free)) :: _) = _
      split
      · left; rw [List.lookup_cons, e]
      · right; rw [List.lookup_cons, e]
    | false =>
      rw [e] at h
      have := ih h
      show List.lookup y ((if (k == NameKind.free && env.scope.kind == .function && env.kindOf n == some .cell) = true then (n, NameKind.cell) else (n, k)) :: _) = _ ∨ List.lookup y ((if (k == NameKind.free && env.scope.kind == .function && env.kindOf n == some .cell) = true then (n, NameKind.cell) else (n, k)) :: _) = _
      split
      · rw [List.lookup_cons, e]; exact this
      · rw [List.lookup_cons, e]; exact this
def Cx.comp (X : Cx) (scope : Scope) (cl : List (Str × Addr)) (C : Addr) (t : Shared) (H : Hp) (N : List Str) (ex : List Addr) : Cx :=
  { X with N := N, s₀ := t, H₀ := H, env := compEnvC scope cl C X.env, outer := X.stack, ex := ex, fn := fun _ => false }
section
variable {X : Cx} {pins : List (Addr × Obj)} {σ : St} {H : Hp} {t : Shared}
theorem comp_ok {scope : Scope} {C : Addr} {N : List Str} {ex : List Addr} {cf : Str → Addr} (I : Inv X pins σ H t) (hC : t.heap.objs.size ≤ C) (hkind : scope.kind = .function) (hcell : ∀ u ∈ scope.names, u.2 ≠ .cell)
    (hcf : ∀ y, (y, NameKind.free) ∈ scope.names → X.env.cells.lookup y = some (cf y)) (hex : ∀ b ∈ ex, FpOk X pins H b ∧ b ≠ C) : (X.comp scope (clOf cf scope.names []) C t H N ex).Ok where
  mod := I.ok.mod
  kind := hkind
  glob := I.ok.glob
  blt := I.ok.blt
  above := hC
  inj := fun x y c h1 h2 => by
    rcases clOf_lookup _ _ h1 with z | ⟨z1, z2⟩
    · cases z
    · rcases clOf_lookup _ _ h2 with w | ⟨w1, w2⟩
      · cases w
      · exact I.ok.inj x y c (by rw [z2]; exact hcf x z1) (by rw [w2]; exact hcf y w1)
  has := fun x h => clOf_has _ _ (h.elim (fun z => relabel_of (.inl rfl) hcell z) (fun z => relabel_of (.inr rfl) hcell z))
  cab := fun x c z => by cases z
  hd := I.ok.hd
  frames := I.ok.frames
  stk := .inl rfl
  exf := fun b hb => ⟨(hex b hb).2, fun x c h => by
    rcases clOf_lookup _ _ h with z | ⟨z1, z2⟩
    · cases z
    · rw [z2]; exact (hex b hb).1.2.2.2.2.1 x _ (hcf x z1)⟩
  bs := fun b o e => I.bs b o e
  bsz := Nat.le_trans I.ok.bsz I.sz
  noex := fun b o e hb => by
    rcases (hex b hb).1.2.2.2.1 with z | z
    · exact I.ok.noex b o e z
    · exact absurd (Nat.lt_of_lt_of_le (Heap.lt_size (I.ok.bs b o e).1) z) (Nat.lt_irrefl _)
  exfs := fun b hb hm => by
    rcases List.mem_cons.mp (I.stkSub b hm) with z | z
    · exact (hex b hb).1.2.1 z
    · exact (hex b hb).1.2.2.1 z
  funs := I.stack
  frf := I.stkFree
end
end L2
set_option Elab.async false
set_option linter.all false
set_option maxRecDepth 100000
namespace L2
open PySem PySem.Spec PyProof.Rows
def tCompR (j1 j2 : Nat) (wi : TI) (te : TE) : TE := fun σ H Q => wi σ H fun J H1 => ∃ (n : Nat) (v1 v2 : V), σ[j1]? = some (some v1) ∧ σ[j2]? = some (some v2) ∧ n ≤ 1000 ∧ (∀ i, i < n → J.go i H1) ∧ J.stop n H1 ∧
  (∀ i v H2, i < n → J.yld i H1 v H2 → H2 = H1 ∧ te [some v, some v1, some v2] H1 fun u H3 => H3 = H1 ∧ u = .bl true) ∧ ∀ d, H1 d = none → Q (.ref d) (upd H1 d (.lst ((List.replicate n true).map V.bl)))
theorem vals_rep : ∀ i : Nat, Vals (List.replicate i (V.bl true)) (List.replicate i (Value.bool true))
  | 0 => .nil
  | i + 1 => by rw [List.replicate_succ, List.replicate_succ]; exact .cons rfl (vals_rep i)
section
variable {X : Cx}
theorem comp_start {pins : List (Addr × Obj)} {σ : St} {H : Hp} {t : Shared} {scope : Scope} {ex : List Addr} {cf : Str → Addr} {x y1 y2 : Str} {j1 j2 : Nat} {v1 v2 : V} {g : Heap} {tk : Nat} {m' : Str → Option Value} (I : Inv X pins σ H t) (hcell : ∀ u ∈ scope.names, u.2 ≠ .cell)
    (hcf : ∀ y, (y, NameKind.free) ∈ scope.names → X.env.cells.lookup y = some (cf y)) (ok : (X.comp scope (clOf cf scope.names []) t.heap.objs.size t H [x, y1, y2] ex).Ok) (hN1 : X.N[j1]? = some y1) (hN2 : X.N[j2]? = some y2)
    (hk1 : X.env.kindOf y1 = some .cell) (hk2 : X.env.kindOf y2 = some .cell) (hy1 : scope.names.lookup y1 = some .free) (hy2 : scope.names.lookup y2 = some .free) (e1 : σ[j1]? = some (some v1)) (e2 : σ[j2]? = some (some v2))
    (hg : g.Ns t.heap.objs.size m') (old : ∀ b o, t.heap.get? b = some o → g.get? b = some o) : Inv (X.comp scope (clOf cf scope.names []) t.heap.objs.size t H [x, y1, y2] ex) pins [none, some v1, some v2] H { t with heap := g, toks := tk } := by
  have clk : ∀ {y c}, X.env.cells.lookup y = some c → scope.names.lookup y = some .free → (clOf cf scope.names []).lookup y = some c := fun {y c} h1 h2 => by
    have hm := lookup_mem h2
    obtain ⟨c', e⟩ := clOf_has (cf := cf) scope.names [] hm
    rcases clOf_lookup _ _ e with z | ⟨_, z⟩
    · cases z
    · have := hcf y hm
      rw [h1] at this
      rw [e, z]; exact this.symm
  have look : ∀ {j : Nat} {y : Str} {v : V}, X.N[j]? = some y → X.env.kindOf y = some .cell → scope.names.lookup y = some .free → σ[j]? = some (some v) → ∃ u, RelV v u ∧ Look (compEnvC scope (clOf cf scope.names []) t.heap.objs.size X.env) g m' y u := fun {j y v} h1 h2 h3 h4 => by
    obtain ⟨m, hn, hl⟩ := I.loc
    obtain ⟨u, r, l⟩ := hl j y v h1 h4 (.inr (.inl h2))
    refine ⟨u, r, ?_⟩
    rcases l with ⟨k, _⟩ | ⟨_, c, hc, o, ho, hd⟩
    · rw [h2] at k; cases k
    · exact .inr ⟨relabel_free h3, c, clk hc h3, o, old _ _ ho, hd⟩
  refine ⟨ok, rfl, I.bare, Un.kept old, ⟨m', hg, fun i z v hi hv _ => ?_⟩, fun y c h => ?_, I.hok.fresh (Nat.le_refl _), fun y c h => ?_, fun p hp => ?_, I.hok.kept old, rfl⟩
  · match i, hi, hv with
    | 0, _, hv => cases hv
    | 1, hi, hv => cases hi; cases hv; exact look hN1 hk1 hy1 e1
    | 2, hi, hv => cases hi; cases hv; exact look hN2 hk2 hy2 e2
    | i + 3, hi, _ => cases hi
  · rcases clOf_lookup _ _ h with z | ⟨z1, z2⟩
    · cases z
    · obtain ⟨v, o, ho, hd⟩ := I.cell y c (by rw [z2]; exact hcf y z1)
      exact ⟨v, o, old _ _ ho, hd⟩
  · rcases clOf_lookup _ _ h with z | ⟨z1, z2⟩
    · cases z
    · exact I.freeC y c (by rw [z2]; exact hcf y z1)
  · obtain ⟨e, n, ne, nf, d⟩ := I.pin p hp
    refine ⟨old _ _ e, n, Nat.ne_of_lt (Heap.lt_size e), fun hm => ?_, d⟩
    rcases List.mem_cons.mp (I.stkSub _ hm) with z | z
    · exact ne z
    · exact nf z
theorem pe_compR {x y1 y2 : Str} {j1 j2 : Nat} {elt iter : Expr} {scope : Scope} {px pos : Pos} {wi : TI} {te : TE}
    (hc : X.calm = true) (hxe : ∀ v t, ¬ X.xe v t) (hN1 : X.N[j1]? = some y1) (hN2 : X.N[j2]? = some y2) (hk1 : X.env.kindOf y1 = some .cell) (hk2 : X.env.kindOf y2 = some .cell)
    (hcell : ∀ u ∈ scope.names, u.2 ≠ .cell) (hkind : scope.kind = .function) (hnames : ∀ u ∈ scope.names, u.2 = .local → scope.names.lookup u.1 = some .local) (hx : scope.names.lookup x = some .local)
    (hfr : ∀ u ∈ scope.names, u.2 = .free → X.env.kindOf u.1 = some .cell) (hy1 : scope.names.lookup y1 = some .free) (hy2 : scope.names.lookup y2 = some .free) (hnd : [x, y1, y2].Nodup)
    (hit : PI X (.Name x px) iter wi) (helt : ∀ cl C t H' ex, PE (X.comp scope cl C t H' [x, y1, y2] ex) elt te) (hs : ∀ v, foldedSetIterable iter X.env v = pure v := by intro _; rfl) :
    PE X (.ListComp elt [⟨.Name x px, iter, [], 0⟩] scope pos) (tCompR j1 j2 wi te) := by
  intro pins s σ H Q I h
  have hcf : ∀ y, (y, NameKind.free) ∈ scope.names → X.env.cells.lookup y = some ((X.env.cells.lookup y).getD 0) := fun y hy => by
    obtain ⟨c, e⟩ := I.ok.has y (.inl (hfr _ hy rfl))
    rw [e]; rfl
  rw [eval_ListComp]
  refine wpAny_comprehension_free (use := none) rfl hs (closure_of (fun y => (X.env.cells.lookup y).getD 0) fun u hu hf => ?_) hkind hnames (thn (hit pins s σ H _ I h) fun v s1 h1 => thn h1 fun itv s2 h2 => ?_)
  · obtain ⟨n, k⟩ := u
    cases (show k = .free from hf)
    show (match X.env.cells.lookup n with | some a => pure a | none => unsupported "internal:no-cell-for-name") = _
    rw [hcf n hu]; rfl
  obtain ⟨it, fp, tn, J, H1, rfl, I2, T, st0, f2, n, v1, v2, e1, e2, hn, hgo, hstop, hyld, q⟩ := h2
  refine wpAny_newObj_type (wpAny_newFunctionEnv hcell (fun y hy => by cases hy) (fun g hg sg => ?_) hkind)
  dsimp only at hg sg ⊢
  have I3 : Inv X pins σ H1 { s2 with heap := s2.heap.push { cls := .type "list", dict := none, data := .seq ([] : List Value).toArray } } := I2.kept (t' := s2.toks) fun b o e => Heap.get?_push_of_some _ e
  generalize e3 : s2.heap.push { cls := .type "list", dict := none, data := .seq ([] : List Value).toArray } = G at hg sg I3 ⊢
  have eG : G.objs.size = s2.heap.objs.size + 1 := by rw [← e3, Heap.size_push]
  have hD0 : H1 s2.heap.objs.size = none := I2.hok.fresh (Nat.le_refl _)
  have hC0 : H1 G.objs.size = none := I3.hok.fresh (Nat.le_refl _)
  have fpl : ∀ b ∈ fp, b < s2.heap.objs.size := fun b hb => by obtain ⟨o, e, _⟩ := T.obj _ _ st0 b hb; exact Heap.lt_size e
  have hDC : s2.heap.objs.size ≠ G.objs.size := by omega
  have old : ∀ b o, G.get? b = some o → g.get? b = some o := fun b o e => sg.extBut b o (Nat.ne_of_lt (Heap.lt_size e)) (Heap.get?_push_of_some _ e)
  have hex : ∀ b ∈ fp ++ [s2.heap.objs.size], FpOk X pins H1 b ∧ b ≠ G.objs.size := fun b hb => by
    rcases List.mem_append.mp hb with z | z
    · exact ⟨f2 b z, Nat.ne_of_lt (by rw [eG]; exact Nat.lt_succ_of_lt (fpl b z))⟩
    · rw [List.mem_singleton.mp z]; exact ⟨I2.fpOk (Nat.le_refl _) hD0, hDC⟩
  have ok := comp_ok (N := [x, y1, y2]) I3 (Nat.le_refl G.objs.size) hkind hcell hcf hex
  have I4 := comp_start (tk := s2.toks + ([] : List (Str × Value)).length) (v1 := v1) (v2 := v2) I3 hcell hcf ok hN1 hN2 hk1 hk2 hy1 hy2 e1 e2 hg old
  have HE := helt (clOf (fun y => (X.env.cells.lookup y).getD 0) scope.names []) G.objs.size { s2 with heap := G } H1 (fp ++ [s2.heap.objs.size])
  have eenv : (X.comp scope (clOf (fun y => (X.env.cells.lookup y).getD 0) scope.names []) G.objs.size { s2 with heap := G } H1 [x, y1, y2] (fp ++ [s2.heap.objs.size])).env = compEnvC scope (clOf (fun y => (X.env.cells.lookup y).getD 0) scope.names []) G.objs.size X.env := rfl
  have eA : (X.comp scope (clOf (fun y => (X.env.cells.lookup y).getD 0) scope.names []) G.objs.size { s2 with heap := G } H1 [x, y1, y2] (fp ++ [s2.heap.objs.size])).A = X.A := rfl
  have ep : (X.comp scope (clOf (fun y => (X.env.cells.lookup y).getD 0) scope.names []) G.objs.size { s2 with heap := G } H1 [x, y1, y2] (fp ++ [s2.heap.objs.size])).prog = X.prog := rfl
  have ew : (X.comp scope (clOf (fun y => (X.env.cells.lookup y).getD 0) scope.names []) G.objs.size { s2 with heap := G } H1 [x, y1, y2] (fp ++ [s2.heap.objs.size])).w = X.w := rfl
  have eK : (X.comp scope (clOf (fun y => (X.env.cells.lookup y).getD 0) scope.names []) G.objs.size { s2 with heap := G } H1 [x, y1, y2] (fp ++ [s2.heap.objs.size])).K = X.K := rfl
  have ecalm : (X.comp scope (clOf (fun y => (X.env.cells.lookup y).getD 0) scope.names []) G.objs.size { s2 with heap := G } H1 [x, y1, y2] (fp ++ [s2.heap.objs.size])).calm = X.calm := rfl
  have exe : (X.comp scope (clOf (fun y => (X.env.cells.lookup y).getD 0) scope.names []) G.objs.size { s2 with heap := G } H1 [x, y1, y2] (fp ++ [s2.heap.objs.size])).xe = X.xe := rfl
  have eN : (X.comp scope (clOf (fun y => (X.env.cells.lookup y).getD 0) scope.names []) G.objs.size { s2 with heap := G } H1 [x, y1, y2] (fp ++ [s2.heap.objs.size])).N = [x, y1, y2] := rfl
  have eex : (X.comp scope (clOf (fun y => (X.env.cells.lookup y).getD 0) scope.names []) G.objs.size { s2 with heap := G } H1 [x, y1, y2] (fp ++ [s2.heap.objs.size])).ex = fp ++ [s2.heap.objs.size] := rfl
  have es0 : (X.comp scope (clOf (fun y => (X.env.cells.lookup y).getD 0) scope.names []) G.objs.size { s2 with heap := G } H1 [x, y1, y2] (fp ++ [s2.heap.objs.size])).s₀ = { s2 with heap := G } := rfl
  have eH0 : (X.comp scope (clOf (fun y => (X.env.cells.lookup y).getD 0) scope.names []) G.objs.size { s2 with heap := G } H1 [x, y1, y2] (fp ++ [s2.heap.objs.size])).H₀ = H1 := rfl
  have efs : (X.comp scope (clOf (fun y => (X.env.cells.lookup y).getD 0) scope.names []) G.objs.size { s2 with heap := G } H1 [x, y1, y2] (fp ++ [s2.heap.objs.size])).fs = frs X.stack := rfl
  have epn : (X.comp scope (clOf (fun y => (X.env.cells.lookup y).getD 0) scope.names []) G.objs.size { s2 with heap := G } H1 [x, y1, y2] (fp ++ [s2.heap.objs.size])).pn = X.pn := rfl
  have hxl : (X.comp scope (clOf (fun y => (X.env.cells.lookup y).getD 0) scope.names []) G.objs.size { s2 with heap := G } H1 [x, y1, y2] (fp ++ [s2.heap.objs.size])).env.scope.names.lookup x = some .local := lookup_relabel_local hx
  have hcl : ∀ y c, (X.comp scope (clOf (fun y => (X.env.cells.lookup y).getD 0) scope.names []) G.objs.size { s2 with heap := G } H1 [x, y1, y2] (fp ++ [s2.heap.objs.size])).env.cells.lookup y = some c → X.env.cells.lookup y = some c := fun y c h => by
    rcases clOf_lookup _ _ h with z | ⟨z1, z2⟩
    · cases z
    · rw [z2]; exact hcf y z1
  generalize X.comp scope (clOf (fun y => (X.env.cells.lookup y).getD 0) scope.names []) G.objs.size { s2 with heap := G } H1 [x, y1, y2] (fp ++ [s2.heap.objs.size]) = Y at I4 HE eenv eA ep ew eK ecalm exe eN eex es0 eH0 efs epn hxl hcl
  have fpY : ∀ {pl : List (Addr × Obj)}, (∀ p ∈ pl, p ∈ pins ∨ p.1 = s2.heap.objs.size) → ∀ b ∈ fp, FpOk Y pl H1 b := fun {pl} hpl b hb => by
    obtain ⟨f0, f1, f2', f3, f4, f5⟩ := f2 b hb
    have lt := fpl b hb
    refine ⟨f0, ?_, ?_, .inl (by rw [eex]; exact List.mem_append_left _ hb), fun y c h => f4 y c (hcl y c h), fun p hp => ?_⟩
    · rw [eenv]; exact Nat.ne_of_lt (by rw [eG]; exact Nat.lt_succ_of_lt lt)
    · rw [efs]; intro hm
      rcases List.mem_cons.mp (I2.stkSub _ hm) with z | z
      · exact f1 z
      · exact f2' z
    · rw [epn] at hp
      rcases List.mem_append.mp hp with z | z
      · exact f5 p (List.mem_append_left _ z)
      · rcases hpl p z with z | z
        · exact f5 p (List.mem_append_right _ z)
        · rw [z]; exact (Nat.ne_of_lt lt).symm
  have fpD : FpOk Y pins H1 s2.heap.objs.size := by
    obtain ⟨f0, f1, f2', f3, f4, f5⟩ := I2.fpOk (b := s2.heap.objs.size) (H' := H1) (Nat.le_refl _) hD0
    refine ⟨f0, by rw [eenv]; exact hDC, ?_, .inl (by rw [eex]; exact List.mem_append_right _ (List.mem_singleton.mpr rfl)), fun y c h => f4 y c (hcl y c h), by rw [epn]; exact f5⟩
    rw [efs]; intro hm
    rcases List.mem_cons.mp (I2.stkSub _ hm) with z | z
    · exact f1 z
    · exact f2' z
  have hDl : g.PlainList s2.heap.objs.size (List.replicate 0 (Value.bool true)).toArray := ⟨_, old _ _ (by rw [← e3]; exact Heap.get?_push_size _ rfl)⟩
  have key : ∀ t0 : Shared, Inv Y pins [none, some v1, some v2] H1 t0 → tn 0 t0.heap → t0.heap.PlainList s2.heap.objs.size (List.replicate 0 (Value.bool true)).toArray →
      codeAny (model X.prog X.w) X.A (.compLoop (.ListComp elt [⟨.Name x px, iter, [], 0⟩] scope pos) 0 (.ref it) (.ref s2.heap.objs.size) (compEnvC scope (clOf (fun y => (X.env.cells.lookup y).getD 0) scope.names []) G.objs.size X.env))
        (compPost (model X.prog X.w) X.A X.xe none (EP X pins σ Q) (.ref s2.heap.objs.size) G.objs.size) t0 := by
    intro t0 J0 st1 hD1
    refine comp_loop (N := X.xe) (fun k t => ∃ i v0, i ≤ n ∧ k = n - i + 1 ∧ Inv Y pins [v0, some v1, some v2] H1 t ∧ tn i t.heap ∧ t.heap.PlainList s2.heap.objs.size (List.replicate i (Value.bool true)).toArray)
      (fun e t z => absurd z (hxe e t)) ?_ (n - 0 + 1) ⟨0, none, Nat.zero_le _, rfl, J0, st1, hD1⟩
    rintro k t ⟨i, v0, hi, rfl, It, stt, hDt⟩
    have pD : ∀ {t' : Shared} {v : Option V}, Inv Y pins [v, some v1, some v2] H1 t' → t'.heap.PlainList s2.heap.objs.size (List.replicate i (Value.bool true)).toArray → Inv Y (pins ++ pinsAt [s2.heap.objs.size] t'.heap) [v, some v1, some v2] H1 t' := fun {t' v} I' hd' =>
      I'.pinned (fun b hb => by rw [List.mem_singleton.mp hb]; exact fpD) (fun b hb => by rw [List.mem_singleton.mp hb]; obtain ⟨k, e⟩ := hd'; exact ⟨_, e, fun v z => by cases z⟩)
    have hpl : ∀ p ∈ pins ++ pinsAt [s2.heap.objs.size] t.heap, p ∈ pins ∨ p.1 = s2.heap.objs.size := fun p hp => (List.mem_append.mp hp).imp id fun z => List.mem_singleton.mp (of_pinsAt z).1
    by_cases hlt : i < n
    · have step := T.item Y ep ew eK (by rw [ecalm]; exact hc) i _ t _ H1 X.xe (pD It hDt) (fpY hpl) stt (hgo i hlt)
      rw [eA] at step
      refine thn step fun r t1 ⟨u, hr, h4⟩ => ?_
      subst hr
      refine thn h4 fun _ t2 ⟨xv, H5, I5, r5, y5, st5, fr5⟩ => ?_
      obtain ⟨e5, hte⟩ := hyld i xv H5 hlt y5
      rw [e5] at I5
      have I5' := I5.pinned (fpY hpl) (T.obj _ _ st5)
      have sto := store_ok (M := model X.prog X.w) (A := X.A) (E := X.xe) (X := Y) (i := 0) (x := x) (u := u) (Q := fun _ t3 => wpAny (model X.prog X.w) X.A (eval elt (compEnvC scope (clOf (fun y => (X.env.cells.lookup y).getD 0) scope.names []) G.objs.size X.env)) (fun z t4 =>
        wpAny (model X.prog X.w) X.A (call (.builtin "list.append") [.ref s2.heap.objs.size, z]) (fun _ t5 => ∃ m, m < n - i + 1 ∧ ∃ i' v0, i' ≤ n ∧ m = n - i' + 1 ∧ Inv Y pins [v0, some v1, some v2] H1 t5 ∧ tn i' t5.heap ∧ t5.heap.PlainList s2.heap.objs.size (List.replicate i' (Value.bool true)).toArray) X.xe t4) X.xe t3)
        I5' (by rw [eN]; exact hnd) (by rw [eN]; rfl) (.inl hxl) r5 (fun t3 I6 => ?_) (.inr hxl)
      · rw [eenv] at sto
        exact wpAny_assign_Name sto
      · have HE2 := HE _ t3 _ H1 _ I6 hte
        rw [eA, ep, ew, eenv, exe] at HE2
        refine thn HE2 fun z t4 ⟨vv, H7, I7, r7, eH7, ev⟩ => ?_
        rw [eH7] at I7
        subst ev
        cases (show z = Value.bool true from r7)
        obtain ⟨kD, eD⟩ := hDt
        have inD : (s2.heap.objs.size, _) ∈ pinsAt [s2.heap.objs.size] t.heap := mem_pinsAt (List.mem_singleton.mpr rfl) eD
        have hD4 : t4.heap.PlainList s2.heap.objs.size (List.replicate i (Value.bool true)).toArray := ⟨kD, (I7.pin _ (List.mem_append_right _ (List.mem_append_left _ (List.mem_append_right _ inD)))).1⟩
        have st4 : tn (i + 1) t4.heap := T.keep _ _ _ st5 fun b hb o e => (I7.pin (b, o) (List.mem_append_right _ (List.mem_append_right _ (mem_pinsAt hb e)))).1
        refine wpAny_list_append_plain hD4 (fun h5 hp5 sb5 => ?_) (by rw [List.size_toArray, List.length_replicate]; have : 1000 ≤ sizeLine := (by decide); omega)
        refine ⟨n - (i + 1) + 1, by omega, i + 1, _, hlt, rfl, I7.unpinned.unpinned.turned (t' := t4.toks) (fun b o hb e => (sb5.2 b hb).trans e) fpD.1 fpD.2.1 fpD.2.2.2.1 fpD.2.2.2.2.1 fpD.2.2.2.2.2, ?_, ?_⟩
        · exact T.keep _ _ _ st4 fun b hb o e => (sb5.2 b (Nat.ne_of_lt (fpl b hb))).trans e
        · have : (List.replicate i (Value.bool true)).toArray.push (Value.bool true) = (List.replicate (i + 1) (Value.bool true)).toArray := by
            rw [List.push_toArray, List.replicate_succ']
          rw [← this]; exact hp5
    · have hin : i = n := by omega
      subst hin
      have fin := T.done Y ep ew eK (by rw [ecalm]; exact hc) i _ t _ H1 X.xe (pD It hDt) (fpY hpl) stt hstop
      rw [eA] at fin
      refine thn fin fun r t1 ⟨hr, I9⟩ => ?_
      subst hr
      obtain ⟨m, hn9, _⟩ := id I9.loc
      rw [eenv] at hn9
      refine ⟨m, hn9, fun h'' hs'' => ?_⟩
      obtain ⟨kD, eD⟩ := hDt
      have inD : (s2.heap.objs.size, _) ∈ pinsAt [s2.heap.objs.size] t.heap := mem_pinsAt (List.mem_singleton.mpr rfl) eD
      have hD9 := (I9.pin _ (List.mem_append_right _ (List.mem_append_right _ inD))).1
      have base9 : Un (frs X.stack) (fp ++ [s2.heap.objs.size]) H1 H1 G t1.heap := by
        have := I9.base
        rw [efs, eex, eH0, es0] at this
        exact this
      have hok9 : HOk X.prog X.w H1 t1.heap := by have := I9.hok; rw [ep, ew] at this; exact this
      have ho9 : t1.os = s2.os := by have := I9.os; rw [es0] at this; exact this
      have hokC : HOk X.prog X.w H1 h'' := fun b u e => (hok9 b u e).stay (fun c w hc q => (hs''.2 c (fun z => by
        rcases hc with y | y
        · rw [← y, z, hC0] at e; cases e
        · rw [z, hC0] at y; cases y)).trans q) (fun _ q => q) (fun _ _ q => q)
      have inG : ∀ {b o}, s2.heap.get? b = some o → G.get? b = some o := fun {b o} e => by rw [← e3]; exact Heap.get?_push_of_some _ e
      have nD : ∀ {b o}, s2.heap.get? b = some o → b ≠ s2.heap.objs.size := fun {b o} e => Nat.ne_of_lt (Heap.lt_size e)
      have nC : ∀ {b o}, s2.heap.get? b = some o → b ≠ G.objs.size := fun {b o} e => Nat.ne_of_lt (Heap.lt_size (inG e))
      have nX : ∀ {b o}, s2.heap.get? b = some o → b ∉ fp → b ∉ fp ++ [s2.heap.objs.size] := fun {b o} e hx hm => (List.mem_append.mp hm).elim hx fun z => nD e (List.mem_singleton.mp z)
      have nH : ∀ {b u}, H1 b = some u → b ≠ s2.heap.objs.size := fun {b u} e z => by rw [z, hD0] at e; cases e
      have uu : Un (frs X.stack) fp H1 (upd H1 s2.heap.objs.size (.lst ((List.replicate i true).map V.bl))) s2.heap h'' := by
        refine ⟨fun b o e nn hb hx => (hs''.2 b (nC e)).trans (base9.keep b o (inG e) nn hb (nX e hx)), fun b o e nn hb hx => ?_, fun b o e nn hx => by rw [upd_ne (nD e)]; exact nn, fun b o e hx => ?_,
          fun b xs e => by rw [upd_ne (nH e)]; exact e, fun b o xs e => by rw [upd_ne (nH e)]; exact e, fun b ps e => ⟨#[], by rw [upd_ne (nH e), e]; simp⟩⟩
        · obtain ⟨sl, e9⟩ := base9.slot b o (inG e) nn hb (nX e hx)
          exact ⟨sl, (hs''.2 b (nC e)).trans e9⟩
        · obtain ⟨o', e9⟩ := base9.there b o (inG e) (nX e hx)
          exact ⟨o', (hs''.2 b (nC e)).trans e9⟩
      have hokD : HOk X.prog X.w (upd H1 s2.heap.objs.size (.lst ((List.replicate i true).map V.bl))) h'' := fun b u e => by
        by_cases hb : b = s2.heap.objs.size
        · subst hb
          rw [upd_same] at e
          cases e
          refine ⟨by rw [List.length_map, List.length_replicate]; have : 1000 ≤ sizeLine := (by decide); omega, (List.replicate i (Value.bool true)), kD, ?_, (hs''.2 _ hDC).trans hD9⟩
          rw [List.map_replicate]
          exact vals_rep i
        · rw [upd_ne hb] at e
          exact (hokC b u e).stay (fun c w _ q => q) (fun c q => by rw [upd_ne (nH q)]; exact q) (fun c xs q => by rw [upd_ne (nH q)]; exact q)
      exact ⟨.ref s2.heap.objs.size, _, I2.call' (s' := { t1 with heap := h'' }) ho9 uu hokD I9.bare (fun b hb => ⟨(f2 b hb).2.2.2.1, (f2 b hb).2.1, (f2 b hb).2.2.2.2.1, (f2 b hb).2.2.2.2.2⟩), rfl, q _ hD0⟩
  exact codeAny_compStart_list (key _ I4 (T.keep _ _ _ st0 fun b hb o e => old _ _ (by rw [← e3]; exact Heap.get?_push_of_some _ e)) hDl) (T.self _ 0 _ _ _ (T.keep _ _ _ st0 fun b hb o e => old _ _ (by rw [← e3]; exact Heap.get?_push_of_some _ e)) (key _ I4 (T.keep _ _ _ st0 fun b hb o e => old _ _ (by rw [← e3]; exact Heap.get?_push_of_some _ e)) hDl))
end
end L2
set_option Elab.async false
set_option linter.all false
set_option maxRecDepth 100000
set_option maxHeartbeats 4000000
namespace My
open PySem L2 PyProof.Rows
def top (i : Nat) : Stmt := PySem.Challenge.pw_chessclock_k10_whole_clock.main.body.getD i (.Pass ⟨0, 0, 0, 0⟩)
abbrev s_is_whole_within : Stmt := top 13
abbrev s_is_good_main : Stmt := top 14
abbrev s_is_good_over : Stmt := top 15
abbrev s_is_main : Stmt := top 16
abbrev s_is_over : Stmt := top 17
abbrev s_is_endless : Stmt := top 18
abbrev s_ticks_of : Stmt := top 19
abbrev s_is_good_stage : Stmt := top 20
abbrev s_may_stand_behind : Stmt := top 21
abbrev s_check_each : Stmt := top 22
abbrev s_check_order : Stmt := top 23
abbrev s_read_stages : Stmt := top 24
abbrev s_ticks_not_counted : Stmt := top 28
abbrev s_ticks_for_move : Stmt := top 29
abbrev s_law_cell : Stmt := top 34
abbrev s_law_mix : Stmt := top 35
abbrev s_law_stages : Stmt := top 36
abbrev s_law_deeds : Stmt := top 37
abbrev s_law_new : Stmt := top 38
abbrev s_law_next : Stmt := top 39
abbrev s_law_tick : Stmt := top 40
abbrev s_law_press : Stmt := top 41
abbrev s_law_due : Stmt := top 42
abbrev s_law_state : Stmt := top 43
abbrev s_law_told : Stmt := top 44
abbrev s_law_shown : Stmt := top 45
abbrev s_law_same : Stmt := top 46
abbrev s_Side_begin_stage : Stmt := inClass (top 30) 1
abbrev s_Side_has_fallen : Stmt := inClass (top 30) 2
abbrev s_Side_pass_ticks : Stmt := inClass (top 30) 3
abbrev s_Side_pass_until_empty : Stmt := inClass (top 30) 4
abbrev s_Side_go_on_if_possible : Stmt := inClass (top 30) 5
abbrev s_Side_make_move : Stmt := inClass (top 30) 6
abbrev s_Side_count_move_in_stage : Stmt := inClass (top 30) 7
abbrev s_Side_put_right : Stmt := inClass (top 30) 8
abbrev s_Side_told : Stmt := inClass (top 30) 9
abbrev s_Clock_refuse_if_over : Stmt := inClass (top 32) 1
abbrev s_Clock_refuse_if_running : Stmt := inClass (top 32) 2
abbrev s_Clock_refuse_if_still : Stmt := inClass (top 32) 3
abbrev s_Clock_start : Stmt := inClass (top 32) 4
abbrev s_Clock_stop : Stmt := inClass (top 32) 5
abbrev s_Clock_go : Stmt := inClass (top 32) 6
abbrev s_Clock_press : Stmt := inClass (top 32) 7
abbrev s_Clock_give : Stmt := inClass (top 32) 8
abbrev s_Clock_state : Stmt := inClass (top 32) 9
abbrev s_Clock_game : Stmt := inClass (top 32) 10
abbrev s_Side_init : Stmt := inClass (top 30) 0
abbrev s_Clock_init : Stmt := inClass (top 32) 0
abbrev s_law : Stmt := top 47
structure Ads where
  cSide : Addr
  cClock : Addr
  xClockError : Addr
  xBadStages : Addr
  xBadTicks : Addr
  xNotNow : Addr
  xOver : Addr
  aW : Addr
def ways : List V := [.str "plain", .str "add", .str "back", .str "wait"]
theorem ways_of {K : PySem.W.Frag} {H : Hp} {AW : Addr} {od : Option Addr} {w1 w2 w3 w4 : Tok} {n : Nat} {sl : Array (Option Value)} (l : K.lookup AW = some ⟨.type "tuple", od, .seq #[.str "plain" w1, .str "add" w2, .str "back" w3, .str "wait" w4] n, sl⟩) : SqT K H AW ways :=
  .inr ⟨_, _, n, l, rfl, rfl, (by show 4 ≤ sizeLine; decide), .cons ⟨_, rfl⟩ (.cons ⟨_, rfl⟩ (.cons ⟨_, rfl⟩ (.cons ⟨_, rfl⟩ .nil)))⟩
structure Txt (K : PySem.W.Frag) (mg : Str → Option Value) (a : Ads) : Prop where
  f_is_whole_within : FnAt K mg "is_whole_within" s_is_whole_within ["value", "least", "most"]
  f_is_good_main : FnAt K mg "is_good_main" s_is_good_main ["stage"]
  f_is_good_over : FnAt K mg "is_good_over" s_is_good_over ["stage"]
  f_is_main : FnAt K mg "is_main" s_is_main ["stage"]
  f_is_over : FnAt K mg "is_over" s_is_over ["stage"]
  f_is_endless : FnAt K mg "is_endless" s_is_endless ["stage"]
  f_ticks_of : FnAt K mg "ticks_of" s_ticks_of ["stage"]
  f_is_good_stage : FnAt K mg "is_good_stage" s_is_good_stage ["stage"]
  f_may_stand_behind : FnAt K mg "may_stand_behind" s_may_stand_behind ["later", "earlier"]
  f_check_each : FnAt K mg "check_each" s_check_each ["stages"]
  f_check_order : FnAt K mg "check_order" s_check_order ["stages"]
  f_read_stages : FnAt K mg "read_stages" s_read_stages ["stages"]
  f_ticks_not_counted : FnAt K mg "ticks_not_counted" s_ticks_not_counted ["stage", "passed"]
  f_ticks_for_move : FnAt K mg "ticks_for_move" s_ticks_for_move ["stage", "passed"]
  f_law_cell : FnAt K mg "_law_cell" s_law_cell ["_law_script", "_law_k"]
  f_law_mix : FnAt K mg "_law_mix" s_law_mix ["_law_script", "_law_k"]
  f_law_stages : FnAt K mg "_law_stages" s_law_stages ["_law_script", "_law_k"]
  f_law_deeds : FnAt K mg "_law_deeds" s_law_deeds ["_law_script", "_law_k", "_law_many"]
  f_law_new : FnAt K mg "_law_new" s_law_new ["_law_stages_here"]
  f_law_next : FnAt K mg "_law_next" s_law_next ["_law_world", "_law_side"]
  f_law_tick : FnAt K mg "_law_tick" s_law_tick ["_law_world"]
  f_law_press : FnAt K mg "_law_press" s_law_press ["_law_world"]
  f_law_due : FnAt K mg "_law_due" s_law_due ["_law_world", "_law_word", "_law_number"]
  f_law_state : FnAt K mg "_law_state" s_law_state ["_law_world"]
  f_law_told : FnAt K mg "_law_told" s_law_told ["_law_clock", "_law_word", "_law_number"]
  f_law_shown : FnAt K mg "_law_shown" s_law_shown ["_law_clock"]
  f_law_same : FnAt K mg "_law_same" s_law_same ["_law_one", "_law_other"]
  m_Side_begin_stage : MtAt K a.cSide "begin_stage" "Side.begin_stage" s_Side_begin_stage ["self", "number"]
  m_Side_has_fallen : MtAt K a.cSide "has_fallen" "Side.has_fallen" s_Side_has_fallen ["self"]
  m_Side_pass_ticks : MtAt K a.cSide "pass_ticks" "Side.pass_ticks" s_Side_pass_ticks ["self", "ticks"]
  m_Side_pass_until_empty : MtAt K a.cSide "pass_until_empty" "Side.pass_until_empty" s_Side_pass_until_empty ["self", "ticks"]
  m_Side_go_on_if_possible : MtAt K a.cSide "go_on_if_possible" "Side.go_on_if_possible" s_Side_go_on_if_possible ["self"]
  m_Side_make_move : MtAt K a.cSide "make_move" "Side.make_move" s_Side_make_move ["self"]
  m_Side_count_move_in_stage : MtAt K a.cSide "count_move_in_stage" "Side.count_move_in_stage" s_Side_count_move_in_stage ["self", "stage"]
  m_Side_put_right : MtAt K a.cSide "put_right" "Side.put_right" s_Side_put_right ["self", "ticks"]
  m_Side_told : MtAt K a.cSide "told" "Side.told" s_Side_told ["self"]
  m_Clock_refuse_if_over : MtAt K a.cClock "refuse_if_over" "Clock.refuse_if_over" s_Clock_refuse_if_over ["self"]
  m_Clock_refuse_if_running : MtAt K a.cClock "refuse_if_running" "Clock.refuse_if_running" s_Clock_refuse_if_running ["self"]
  m_Clock_refuse_if_still : MtAt K a.cClock "refuse_if_still" "Clock.refuse_if_still" s_Clock_refuse_if_still ["self"]
  m_Clock_start : MtAt K a.cClock "start" "Clock.start" s_Clock_start ["self"]
  m_Clock_stop : MtAt K a.cClock "stop" "Clock.stop" s_Clock_stop ["self"]
  m_Clock_go : MtAt K a.cClock "go" "Clock.go" s_Clock_go ["self", "ticks"]
  m_Clock_press : MtAt K a.cClock "press" "Clock.press" s_Clock_press ["self", "who"]
  m_Clock_give : MtAt K a.cClock "give" "Clock.give" s_Clock_give ["self", "who", "ticks"]
  m_Clock_state : MtAt K a.cClock "state" "Clock.state" s_Clock_state ["self", "who"]
  m_Clock_game : MtAt K a.cClock "game" "Clock.game" s_Clock_game ["self"]
  i_Side : InAt K a.cSide "Side.__init__" s_Side_init ["self", "stages"]
  i_Clock : InAt K a.cClock "Clock.__init__" s_Clock_init ["self", "stages"]
  cl_Side : Cls K a.cSide
  g_Side : mg "Side" = some (.ref a.cSide)
  a_Side_stages : NoAttr K a.cSide "stages"
  a_Side_number : NoAttr K a.cSide "number"
  a_Side_moves_in_stage : NoAttr K a.cSide "moves_in_stage"
  a_Side_left : NoAttr K a.cSide "left"
  a_Side_periods : NoAttr K a.cSide "periods"
  a_Side_moves : NoAttr K a.cSide "moves"
  a_Side_passed : NoAttr K a.cSide "passed"
  cl_Clock : Cls K a.cClock
  g_Clock : mg "Clock" = some (.ref a.cClock)
  a_Clock_sides : NoAttr K a.cClock "sides"
  a_Clock_turn : NoAttr K a.cClock "turn"
  a_Clock_running : NoAttr K a.cClock "running"
  a_Clock_fallen : NoAttr K a.cClock "fallen"
  a_Clock_passed : NoAttr K a.cClock "passed"
  g_ClockError : mg "ClockError" = some (.ref a.xClockError)
  x_ClockError : ExcC K a.xClockError
  g_BadStages : mg "BadStages" = some (.ref a.xBadStages)
  x_BadStages : ExcC K a.xBadStages
  g_BadTicks : mg "BadTicks" = some (.ref a.xBadTicks)
  x_BadTicks : ExcC K a.xBadTicks
  g_NotNow : mg "NotNow" = some (.ref a.xNotNow)
  x_NotNow : ExcC K a.xNotNow
  g_Over : mg "Over" = some (.ref a.xOver)
  x_Over : ExcC K a.xOver
  c_MOST_STAGES : ∃ u, mg "MOST_STAGES" = some (.int 5 u)
  c_MOST_MOVES : ∃ u, mg "MOST_MOVES" = some (.int 200 u)
  c_MOST_PERIODS : ∃ u, mg "MOST_PERIODS" = some (.int 200 u)
  c_MOST_TICKS : ∃ u, mg "MOST_TICKS" = some (.int 1000000 u)
  c_MOST_EXTRA : ∃ u, mg "MOST_EXTRA" = some (.int 1000000 u)
  c_LEAST_LEFT : ∃ u, mg "LEAST_LEFT" = some (.int 1 u)
  c_MOST_LEFT : ∃ u, mg "MOST_LEFT" = some (.int 10000000 u)
  n_len : mg "len" = none
  n_isinstance : mg "isinstance" = none
  n_range : mg "range" = none
  n_enumerate : mg "enumerate" = none
  n_tuple : mg "tuple" = none
  n_list : mg "list" = none
  n_int : mg "int" = none
  n_bool : mg "bool" = none
  n_ValueError : mg "ValueError" = none
  n_max : mg "max" = none
  n_min : mg "min" = none
  n_str : mg "str" = none
  n_all : mg "all" = none
  g_WAYS : mg "WAYS" = some (.ref a.aW)
  ways : ∀ H, SqT K H a.aW ways
  k0 : PySem.W.kitOne K (.type "int") (.type "bool") = some false
  k1 : PySem.W.kitOne K (.ref a.xBadTicks) (.ref a.xBadTicks) = some true
  k2 : PySem.W.kitOne K (.ref a.xBadTicks) (.ref a.xNotNow) = some false
  k3 : PySem.W.kitOne K (.ref a.xBadTicks) (.ref a.xOver) = some false
  k4 : PySem.W.kitOne K (.ref a.xBadTicks) (.ref a.xBadStages) = some false
  k5 : PySem.W.kitOne K (.ref a.xBadTicks) (.type "ValueError") = some true
  k6 : PySem.W.kitOne K (.ref a.xNotNow) (.ref a.xBadTicks) = some false
  k7 : PySem.W.kitOne K (.ref a.xNotNow) (.ref a.xNotNow) = some true
  k8 : PySem.W.kitOne K (.ref a.xNotNow) (.ref a.xOver) = some false
  k9 : PySem.W.kitOne K (.ref a.xNotNow) (.ref a.xBadStages) = some false
  k10 : PySem.W.kitOne K (.ref a.xNotNow) (.type "ValueError") = some true
  k11 : PySem.W.kitOne K (.ref a.xOver) (.ref a.xBadTicks) = some false
  k12 : PySem.W.kitOne K (.ref a.xOver) (.ref a.xNotNow) = some false
  k13 : PySem.W.kitOne K (.ref a.xOver) (.ref a.xOver) = some true
  k14 : PySem.W.kitOne K (.ref a.xOver) (.ref a.xBadStages) = some false
  k15 : PySem.W.kitOne K (.ref a.xOver) (.type "ValueError") = some true
  k16 : PySem.W.kitOne K (.type "tuple") (.type "bool") = some false
  k17 : PySem.W.kitOne K (.type "str") (.type "bool") = some false
  k18 : PySem.W.kitOne K (.type "NoneType") (.type "bool") = some false
  e0 : PySem.W.exmOne K (.ref a.xBadTicks) (.ref a.xClockError) = some true
  e1 : PySem.W.exmOne K (.ref a.xNotNow) (.ref a.xClockError) = some true
  e2 : PySem.W.exmOne K (.ref a.xOver) (.ref a.xClockError) = some true
inductive Sg where
  | five (z : Str) (m : Option Int) (t : Int) (w : Str) (e : Int)
  | three (z : Str) (p t : Int)
def optV : Option Int → V
  | some i => .int i
  | none => .non
def Sg.vs : Sg → List V
  | .five z m t w e => [.str z, optV m, .int t, .str w, .int e]
  | .three z p t => [.str z, .int p, .int t]
def Sg.word : Sg → Str
  | .five z _ _ _ _ => z
  | .three z _ _ => z
def Sg.one : Sg → V
  | .five _ m _ _ _ => optV m
  | .three _ p _ => .int p
def Sg.t : Sg → Int
  | .five _ _ t _ _ => t
  | .three _ _ t => t
theorem Sg.at0 (g : Sg) : atI g.vs 0 = some (.str g.word) := by cases g <;> rfl
theorem Sg.at1 (g : Sg) : atI g.vs 1 = some g.one := by cases g <;> rfl
theorem Sg.at2 (g : Sg) : atI g.vs 2 = some (.int g.t) := by cases g <;> rfl
def Sg.isW (g : Sg) (z : Str) : Bool := decide (V.str g.word = V.str z)
def Sg.endless (g : Sg) : Bool := g.isW "main" && decide (g.one = V.non)
def inn (i lo hi : Int) : Bool := decide (lo ≤ i) && decide (i ≤ hi)
def mOk : Option Int → Bool
  | some k => inn k 1 200
  | none => true
def goodMain : Sg → Bool
  | .five _ m t w e => mOk m && inn t 1 1000000 && inV (.str w) ways && inn e 0 1000000
  | .three _ _ _ => false
def goodOver : Sg → Bool
  | .five _ _ _ _ _ => false
  | .three _ p t => inn p 1 200 && inn t 1 1000000
def goodSg (g : Sg) : Bool := if g.isW "main" = true then goodMain g else g.isW "over" && goodOver g
def may (l e : Sg) : Bool := !e.isW "over" && (l.isW "over" || !e.endless)
section
variable {P : Program} {w : World} {K : PySem.W.Frag} {mg : Str → Option Value} {base : Heap} {a : Ads}
local macro_rules | `(tactic| walk_at "rd1") => `(tactic| first
  | with_reducible refine rd_seq ?_
  | with_reducible refine rd_next ?_
  | with_reducible refine rd_ifS ?_
  | with_reducible refine rd_test ?_
  | with_reducible refine rd_tB ?_
  | with_reducible refine rd_and ?_
  | with_reducible refine rd_or ?_
  | with_reducible refine rd_not ?_
  | with_reducible refine rd_andV ?_
  | with_reducible refine rd_orV ?_
  | with_reducible refine rd_notV ?_
  | with_reducible refine rd_op ?_
  | with_reducible refine rd_un ?_
  | with_reducible refine rd_rU ?_
  | with_reducible refine rd_chain ?_
  | with_reducible refine rd_ifE ?_
  | ((with_reducible refine rd_var (v := ?_) ?rv ?_); (case rv => rfl))
  | with_reducible refine rd_c ?_
  | with_reducible refine rd_I0 ?_
  | ((with_reducible refine rd_I ?rs ?_); (case rs => first | (show (0 : Int) < _; decide) | (refine Or.inl ⟨?_, ?_⟩ <;> decide) | (refine Or.inr ⟨?_, ?_⟩ <;> decide) | (refine And.intro ?_ ?_ <;> decide)))
  | ((with_reducible refine rd_eq ?rv ?_); (case rv => rfl))
  | ((with_reducible refine rd_ne ?rv ?_); (case rv => rfl))
  | with_reducible refine rd_bl ?_
  | with_reducible refine rd_blp ?_
  | with_reducible refine rd_and1 ?_
  | with_reducible refine rd_ret ?_
  | with_reducible refine rd_retN ?_
  | with_reducible refine rd_drop ?_
  | with_reducible refine rd_asg ?_
  | with_reducible refine rd_gName ?_
  | with_reducible refine rd_cons ?_
  | with_reducible refine rd_nil ?_
  | with_reducible refine rd_cb ?_
  | with_reducible refine rd_call ?_
  | with_reducible refine rd_tup ?_
  | with_reducible refine rd_lst ?_
  | with_reducible refine rd_fld ?_
  | with_reducible refine rd_sfld ?_
  | with_reducible refine rd_sfldaug ?_
  | with_reducible refine rd_for ?_
  | with_reducible refine rd_rng1 ?_
  | with_reducible refine rd_rng2 ?_
  | with_reducible refine rd_iList ?_
  | with_reducible refine rd_bm ?_
  | with_reducible refine rd_bm0 ?_
  | with_reducible refine rd_make ?_
  | with_reducible refine rd_meth ?_
  | with_reducible refine rd_raise ?_
  | with_reducible refine rd_rev ?_
  | with_reducible refine rd_try ?_
  | with_reducible refine rd_dropX ?_
  | with_reducible refine rd_setX ?_
  | with_reducible refine rd_ifX ?_
  | with_reducible refine rd_makeX ?_
  | with_reducible refine rd_methX ?_
  | with_reducible refine rd_sub ?_
  | with_reducible refine rd_sl ?_
  | with_reducible refine rd_noPart ?_
  | with_reducible refine rd_part ?_
  | with_reducible refine rd_intx ?_
  | with_reducible refine rd_fs ?_
  | with_reducible refine rd_iteT ?_
  | with_reducible refine rd_iteF ?_
  | with_reducible refine rd_iteNT ?_
  | with_reducible refine rd_iteNF ?_)
local macro_rules | `(tactic| walk_at "rd") => `(tactic| repeat walk_at "rd1")
local macro_rules | `(tactic| walk_at "rs1") => `(tactic| first
  | with_reducible refine rd_seq ?_
  | with_reducible refine rd_next ?_
  | with_reducible refine rd_test ?_
  | with_reducible refine rd_tB ?_
  | with_reducible refine rd_and ?_
  | with_reducible refine rd_or ?_
  | with_reducible refine rd_not ?_
  | with_reducible refine rd_andV ?_
  | with_reducible refine rd_orV ?_
  | with_reducible refine rd_notV ?_
  | with_reducible refine rd_op ?_
  | with_reducible refine rd_un ?_
  | with_reducible refine rd_rU ?_
  | with_reducible refine rd_chain ?_
  | with_reducible refine rd_ifE ?_
  | ((with_reducible refine rd_var (v := ?_) ?rv ?_); (case rv => rfl))
  | with_reducible refine rd_c ?_
  | with_reducible refine rd_I0 ?_
  | ((with_reducible refine rd_I ?rs ?_); (case rs => first | (show (0 : Int) < _; decide) | (refine Or.inl ⟨?_, ?_⟩ <;> decide) | (refine Or.inr ⟨?_, ?_⟩ <;> decide) | (refine And.intro ?_ ?_ <;> decide)))
  | ((with_reducible refine rd_eq ?rv ?_); (case rv => rfl))
  | ((with_reducible refine rd_ne ?rv ?_); (case rv => rfl))
  | with_reducible refine rd_bl ?_
  | with_reducible refine rd_blp ?_
  | with_reducible refine rd_and1 ?_
  | with_reducible refine rd_ret ?_
  | with_reducible refine rd_retN ?_
  | with_reducible refine rd_drop ?_
  | with_reducible refine rd_asg ?_
  | with_reducible refine rd_gName ?_
  | with_reducible refine rd_cons ?_
  | with_reducible refine rd_nil ?_
  | with_reducible refine rd_cb ?_
  | with_reducible refine rd_call ?_
  | with_reducible refine rd_tup ?_
  | with_reducible refine rd_lst ?_
  | with_reducible refine rd_fld ?_
  | with_reducible refine rd_sfld ?_
  | with_reducible refine rd_sfldaug ?_
  | with_reducible refine rd_rng1 ?_
  | with_reducible refine rd_rng2 ?_
  | with_reducible refine rd_iList ?_
  | with_reducible refine rd_bm ?_
  | with_reducible refine rd_bm0 ?_
  | with_reducible refine rd_make ?_
  | with_reducible refine rd_meth ?_
  | with_reducible refine rd_raise ?_
  | with_reducible refine rd_rev ?_
  | with_reducible refine rd_dropX ?_
  | with_reducible refine rd_setX ?_
  | with_reducible refine rd_makeX ?_
  | with_reducible refine rd_methX ?_
  | with_reducible refine rd_sub ?_
  | with_reducible refine rd_sl ?_
  | with_reducible refine rd_noPart ?_
  | with_reducible refine rd_part ?_
  | with_reducible refine rd_intx ?_
  | with_reducible refine rd_fs ?_
  | with_reducible refine rd_iteT ?_
  | with_reducible refine rd_iteF ?_
  | with_reducible refine rd_iteNT ?_
  | with_reducible refine rd_iteNF ?_)
local macro_rules | `(tactic| walk_at "rs") => `(tactic| repeat walk_at "rs1")
def spWord (z : Str) : Sp := fun vs H Q _ => ∃ p g, vs = [.ref p] ∧ H p = some (.tup (Sg.vs g)) ∧ Q (.bl (g.isW z)) H
theorem sc_is_whole_within : FnScope ["value", "least", "most"] ["value", "least", "most"] (defScope s_is_whole_within) := ⟨rfl, rfl, rfl, by decide +kernel, rfl, by decide +kernel, by decide +kernel⟩
theorem sc_is_good_main : FnScope ["stage"] ["stage"] (defScope s_is_good_main) := ⟨rfl, rfl, rfl, by decide +kernel, rfl, by decide +kernel, by decide +kernel⟩
theorem sc_is_good_over : FnScope ["stage"] ["stage"] (defScope s_is_good_over) := ⟨rfl, rfl, rfl, by decide +kernel, rfl, by decide +kernel, by decide +kernel⟩
theorem sc_is_main : FnScope ["stage"] ["stage"] (defScope s_is_main) := ⟨rfl, rfl, rfl, by decide +kernel, rfl, by decide +kernel, by decide +kernel⟩
theorem sc_is_over : FnScope ["stage"] ["stage"] (defScope s_is_over) := ⟨rfl, rfl, rfl, by decide +kernel, rfl, by decide +kernel, by decide +kernel⟩
theorem sc_is_endless : FnScope ["stage"] ["stage"] (defScope s_is_endless) := ⟨rfl, rfl, rfl, by decide +kernel, rfl, by decide +kernel, by decide +kernel⟩
theorem sc_ticks_of : FnScope ["stage"] ["stage"] (defScope s_ticks_of) := ⟨rfl, rfl, rfl, by decide +kernel, rfl, by decide +kernel, by decide +kernel⟩
theorem sc_is_good_stage : FnScope ["stage"] ["stage"] (defScope s_is_good_stage) := ⟨rfl, rfl, rfl, by decide +kernel, rfl, by decide +kernel, by decide +kernel⟩
theorem sc_may_stand_behind : FnScope ["later", "earlier"] ["later", "earlier"] (defScope s_may_stand_behind) := ⟨rfl, rfl, rfl, by decide +kernel, rfl, by decide +kernel, by decide +kernel⟩
theorem sc_check_each : FnScope ["stages", "number", "stage"] ["stages"] (defScope s_check_each) := ⟨rfl, rfl, rfl, by decide +kernel, rfl, by decide +kernel, by decide +kernel⟩
theorem sc_check_order : FnScope ["stages", "number"] ["stages"] (defScope s_check_order) := ⟨rfl, rfl, rfl, by decide +kernel, rfl, by decide +kernel, by decide +kernel⟩
theorem sc_read_stages : FnScope ["stages"] ["stages"] (defScope s_read_stages) := ⟨rfl, rfl, rfl, by decide +kernel, rfl, by decide +kernel, by decide +kernel⟩
theorem sc_ticks_not_counted : FnScope ["stage", "passed"] ["stage", "passed"] (defScope s_ticks_not_counted) := ⟨rfl, rfl, rfl, by decide +kernel, rfl, by decide +kernel, by decide +kernel⟩
theorem sc_ticks_for_move : FnScope ["stage", "passed"] ["stage", "passed"] (defScope s_ticks_for_move) := ⟨rfl, rfl, rfl, by decide +kernel, rfl, by decide +kernel, by decide +kernel⟩
theorem sc_law_cell : FnScope ["_law_script", "_law_k"] ["_law_script", "_law_k"] (defScope s_law_cell) := ⟨rfl, rfl, rfl, by decide +kernel, rfl, by decide +kernel, by decide +kernel⟩
theorem sc_law_mix : FnScope ["_law_script", "_law_k", "_law_number"] ["_law_script", "_law_k"] (defScope s_law_mix) := ⟨rfl, rfl, rfl, by decide +kernel, rfl, by decide +kernel, by decide +kernel⟩
theorem sc_law_stages : FnScope ["_law_script", "_law_k", "_law_found", "_law_j", "_law_number", "_law_way"] ["_law_script", "_law_k"] (defScope s_law_stages) := ⟨rfl, rfl, rfl, by decide +kernel, rfl, by decide +kernel, by decide +kernel⟩
theorem sc_law_deeds : FnScope ["_law_script", "_law_k", "_law_many", "_law_found", "_law_turn", "_law_j", "_law_number", "_law_way"] ["_law_script", "_law_k", "_law_many"] (defScope s_law_deeds) := ⟨rfl, rfl, rfl, by decide +kernel, rfl, by decide +kernel, by decide +kernel⟩
theorem sc_law_new : FnScope ["_law_stages_here", "_law_first", "_law_side", "_law_found"] ["_law_stages_here"] (defScope s_law_new) := ⟨rfl, rfl, rfl, by decide +kernel, rfl, by decide +kernel, by decide +kernel⟩
theorem sc_law_next : FnScope ["_law_world", "_law_side", "_law_stage"] ["_law_world", "_law_side"] (defScope s_law_next) := ⟨rfl, rfl, rfl, by decide +kernel, rfl, by decide +kernel, by decide +kernel⟩
theorem sc_law_tick : FnScope ["_law_world", "_law_side", "_law_stage"] ["_law_world"] (defScope s_law_tick) := ⟨rfl, rfl, rfl, by decide +kernel, rfl, by decide +kernel, by decide +kernel⟩
theorem sc_law_press : FnScope ["_law_world", "_law_side", "_law_stage", "_law_more"] ["_law_world"] (defScope s_law_press) := ⟨rfl, rfl, rfl, by decide +kernel, rfl, by decide +kernel, by decide +kernel⟩
theorem sc_law_due : FnScope ["_law_world", "_law_word", "_law_number", "_law_many", "_law_side"] ["_law_world", "_law_word", "_law_number"] (defScope s_law_due) := ⟨rfl, rfl, rfl, by decide +kernel, rfl, by decide +kernel, by decide +kernel⟩
theorem sc_law_state : FnScope ["_law_world", "_law_found", "_law_side"] ["_law_world"] (defScope s_law_state) := ⟨rfl, rfl, rfl, by decide +kernel, rfl, by decide +kernel, by decide +kernel⟩
theorem sc_law_told : FnScope ["_law_clock", "_law_word", "_law_number", "_law_kept", "_law_found", "e", "_law_kinds"] ["_law_clock", "_law_word", "_law_number"] (defScope s_law_told) := ⟨rfl, rfl, rfl, by decide +kernel, rfl, by decide +kernel, by decide +kernel⟩
theorem sc_law_shown : FnScope ["_law_clock"] ["_law_clock"] (defScope s_law_shown) := ⟨rfl, rfl, rfl, by decide +kernel, rfl, by decide +kernel, by decide +kernel⟩
theorem sc_law_same : FnScope ["_law_one", "_law_other", "_law_k"] ["_law_one", "_law_other"] (defScope s_law_same) := ⟨rfl, rfl, rfl, by decide +kernel, rfl, by decide +kernel, by decide +kernel⟩
theorem sc_Side_begin_stage : FnScope ["self", "number", "stage"] ["self", "number"] (defScope s_Side_begin_stage) := ⟨rfl, rfl, rfl, by decide +kernel, rfl, by decide +kernel, by decide +kernel⟩
theorem sc_Side_has_fallen : FnScope ["self"] ["self"] (defScope s_Side_has_fallen) := ⟨rfl, rfl, rfl, by decide +kernel, rfl, by decide +kernel, by decide +kernel⟩
theorem sc_Side_pass_ticks : FnScope ["self", "ticks", "gone"] ["self", "ticks"] (defScope s_Side_pass_ticks) := ⟨rfl, rfl, rfl, by decide +kernel, rfl, by decide +kernel, by decide +kernel⟩
theorem sc_Side_pass_until_empty : FnScope ["self", "ticks", "free", "gone"] ["self", "ticks"] (defScope s_Side_pass_until_empty) := ⟨rfl, rfl, rfl, by decide +kernel, rfl, by decide +kernel, by decide +kernel⟩
theorem sc_Side_go_on_if_possible : FnScope ["self", "stage"] ["self"] (defScope s_Side_go_on_if_possible) := ⟨rfl, rfl, rfl, by decide +kernel, rfl, by decide +kernel, by decide +kernel⟩
theorem sc_Side_make_move : FnScope ["self", "stage"] ["self"] (defScope s_Side_make_move) := ⟨rfl, rfl, rfl, by decide +kernel, rfl, by decide +kernel, by decide +kernel⟩
theorem sc_Side_count_move_in_stage : FnScope ["self", "stage"] ["self", "stage"] (defScope s_Side_count_move_in_stage) := ⟨rfl, rfl, rfl, by decide +kernel, rfl, by decide +kernel, by decide +kernel⟩
theorem sc_Side_put_right : FnScope ["self", "ticks"] ["self", "ticks"] (defScope s_Side_put_right) := ⟨rfl, rfl, rfl, by decide +kernel, rfl, by decide +kernel, by decide +kernel⟩
theorem sc_Side_told : FnScope ["self"] ["self"] (defScope s_Side_told) := ⟨rfl, rfl, rfl, by decide +kernel, rfl, by decide +kernel, by decide +kernel⟩
theorem sc_Clock_refuse_if_over : FnScope ["self"] ["self"] (defScope s_Clock_refuse_if_over) := ⟨rfl, rfl, rfl, by decide +kernel, rfl, by decide +kernel, by decide +kernel⟩
theorem sc_Clock_refuse_if_running : FnScope ["self"] ["self"] (defScope s_Clock_refuse_if_running) := ⟨rfl, rfl, rfl, by decide +kernel, rfl, by decide +kernel, by decide +kernel⟩
theorem sc_Clock_refuse_if_still : FnScope ["self"] ["self"] (defScope s_Clock_refuse_if_still) := ⟨rfl, rfl, rfl, by decide +kernel, rfl, by decide +kernel, by decide +kernel⟩
theorem sc_Clock_start : FnScope ["self"] ["self"] (defScope s_Clock_start) := ⟨rfl, rfl, rfl, by decide +kernel, rfl, by decide +kernel, by decide +kernel⟩
theorem sc_Clock_stop : FnScope ["self"] ["self"] (defScope s_Clock_stop) := ⟨rfl, rfl, rfl, by decide +kernel, rfl, by decide +kernel, by decide +kernel⟩
theorem sc_Clock_go : FnScope ["self", "ticks", "side", "gone"] ["self", "ticks"] (defScope s_Clock_go) := ⟨rfl, rfl, rfl, by decide +kernel, rfl, by decide +kernel, by decide +kernel⟩
theorem sc_Clock_press : FnScope ["self", "who"] ["self", "who"] (defScope s_Clock_press) := ⟨rfl, rfl, rfl, by decide +kernel, rfl, by decide +kernel, by decide +kernel⟩
theorem sc_Clock_give : FnScope ["self", "who", "ticks"] ["self", "who", "ticks"] (defScope s_Clock_give) := ⟨rfl, rfl, rfl, by decide +kernel, rfl, by decide +kernel, by decide +kernel⟩
theorem sc_Clock_state : FnScope ["self", "who"] ["self", "who"] (defScope s_Clock_state) := ⟨rfl, rfl, rfl, by decide +kernel, rfl, by decide +kernel, by decide +kernel⟩
theorem sc_Clock_game : FnScope ["self"] ["self"] (defScope s_Clock_game) := ⟨rfl, rfl, rfl, by decide +kernel, rfl, by decide +kernel, by decide +kernel⟩
theorem sc_Side_init : FnScope ["self", "stages"] ["self", "stages"] (defScope s_Side_init) := ⟨rfl, rfl, rfl, by decide +kernel, rfl, by decide +kernel, by decide +kernel⟩
theorem sc_Clock_init : FnScope ["self", "stages", "own_stages"] ["self", "stages"] (defScope s_Clock_init) := ⟨rfl, rfl, rfl, by decide +kernel, rfl, by decide +kernel, by decide +kernel⟩
theorem sc_law : FnScope ["_law_script", "_law_stages_here", "_law_handed", "_law_clock", "_law_world", "_law_deeds_here", "_law_word", "_law_number", "_law_found", "_law_due_here", "_law_shown_here", "_law_state_here"] ["_law_script"] (defScope s_law) := ⟨rfl, rfl, rfl, by decide +kernel, rfl, by decide +kernel, by decide +kernel⟩
theorem ok_is_main (T : Txt K mg a) : Has P w K mg base CX0 1 "is_main" ["stage"] (spWord "main") := by
  refine T.f_is_main.has fun f fd F => F.ok sc_is_main (fun vs H Q E h => ?_) (fun cdv A outer s H vs Q E hr h => ?_)
  · obtain ⟨p, g, rfl, _⟩ := h; rfl
  · obtain ⟨p, g, rfl, hp, k⟩ := h
    refine ⟨_, (pss_one (ps_ret (pe_cmpR op_eq (pe_ix ix_tup (pv 0) pe_int (fun _ _ => rfl)) pe_str (nomark _)))), ?_⟩
    walk_at "rd"
    refine rd_ixT (SqT.of hp) g.at0 ?_
    walk_at "rd"
    exact k
theorem ok_is_over (T : Txt K mg a) : Has P w K mg base CX0 1 "is_over" ["stage"] (spWord "over") := by
  refine T.f_is_over.has fun f fd F => F.ok sc_is_over (fun vs H Q E h => ?_) (fun cdv A outer s H vs Q E hr h => ?_)
  · obtain ⟨p, g, rfl, _⟩ := h; rfl
  · obtain ⟨p, g, rfl, hp, k⟩ := h
    refine ⟨_, (pss_one (ps_ret (pe_cmpR op_eq (pe_ix ix_tup (pv 0) pe_int (fun _ _ => rfl)) pe_str (nomark _)))), ?_⟩
    walk_at "rd"
    refine rd_ixT (SqT.of hp) g.at0 ?_
    walk_at "rd"
    exact k
def spEndless : Sp := fun vs H Q _ => ∃ p g, vs = [.ref p] ∧ H p = some (.tup (Sg.vs g)) ∧ Q (.bl g.endless) H
theorem ok_is_endless (T : Txt K mg a) : Has P w K mg base CX0 2 "is_endless" ["stage"] spEndless := by
  have G_is_main := ok_is_main (P := P) (w := w) (base := base) T
  refine T.f_is_endless.has fun f fd F => F.ok sc_is_endless (fun vs H Q E h => ?_) (fun cdv A outer s H vs Q E hr h => ?_)
  · obtain ⟨p, g, rfl, _⟩ := h; rfl
  · obtain ⟨p, g, rfl, hp, k⟩ := h
    refine ⟨_, (pss_one (ps_ret (pe_and (pe_callH G_is_main hr (pa_c (pv 0) pa_nil ns_name) (he := star_cons ns_name) (hpl := star_any ns_nil)) (pe_one (pe_cmpR op_isN (pe_ix ix_tup (pv 0) pe_int (fun _ _ => rfl)) pe_non (nomark _)))))), ?_⟩
    walk_at "rd"
    refine ⟨p, g, rfl, hp, ?_⟩
    walk_at "rd"
    refine rd_iteB (fun hm => ?_) (fun hm => ?_)
    · walk_at "rd"
      refine rd_ixT (SqT.of hp) g.at1 ?_
      walk_at "rd"
      have e : g.endless = decide (g.one = V.non) := by simp [Sg.endless, hm]
      rw [← e]
      exact k
    · have e : g.endless = false := by simp [Sg.endless, hm]
      rw [e] at k
      exact k
def spTicks : Sp := fun vs H Q _ => ∃ p g, vs = [.ref p] ∧ H p = some (.tup (Sg.vs g)) ∧ Q (.int g.t) H
theorem ok_ticks_of (T : Txt K mg a) : Has P w K mg base CX0 1 "ticks_of" ["stage"] spTicks := by
  refine T.f_ticks_of.has fun f fd F => F.ok sc_ticks_of (fun vs H Q E h => ?_) (fun cdv A outer s H vs Q E hr h => ?_)
  · obtain ⟨p, g, rfl, _⟩ := h; rfl
  · obtain ⟨p, g, rfl, hp, k⟩ := h
    refine ⟨_, (pss_one (ps_ret (pe_ix ix_tup (pv 0) pe_int (fun _ _ => rfl)))), ?_⟩
    walk_at "rd"
    exact rd_ixT (SqT.of hp) g.at2 k
theorem kit_self {t : Value} : PySem.W.kitOne K t t = some true := by
  unfold PySem.W.kitOne
  rw [if_pos (beq_self_eq_true t)]
def spWhole : Sp := fun vs H Q _ => ∃ i lo hi, vs = [.int i, .int lo, .int hi] ∧ Q (.bl (inn i lo hi)) H
theorem ok_is_whole_within (T : Txt K mg a) : Has P w K mg base CX0 1 "is_whole_within" ["value", "least", "most"] spWhole := by
  refine T.f_is_whole_within.has fun f fd F => F.ok sc_is_whole_within (fun vs H Q E h => ?_) (fun cdv A outer s H vs Q E hr h => ?_)
  · obtain ⟨i, lo, hi, rfl, _⟩ := h; rfl
  · obtain ⟨i, lo, hi, rfl, k⟩ := h
    refine ⟨_, (pss_cons (ps_if (PW.pt (pw_or (pt_not (pt_val (pe_callB call_isinst (by rfl) T.n_isinstance boot_isinstance (pa_c (pv 0) (pa_c (pe_bT rfl T.n_int boot_int) pa_nil ns_name) ns_name) (he := star_cons ns_name) (hpl := star_any (ns_cons ns_name ns_nil))) (fun _ => rfl))) (pw_or1 (pt_val (pe_callB call_isinst (by rfl) T.n_isinstance boot_isinstance (pa_c (pv 0) (pa_c (pe_bT rfl T.n_bool boot_bool) pa_nil ns_name) ns_name) (he := star_cons ns_name) (hpl := star_any (ns_cons ns_name ns_nil))) (fun _ => rfl))))) (pss_one (ps_ret pe_bl)) pss_nil) (pss_one (ps_ret (pe_chain op_le op_le (pv 1) (pv 0) (pv 2))))), ?_⟩
    walk_at "rd"
    refine ⟨_, _, _, _, true, rfl, rfl, TyOf.int i, kit_self, ?_⟩
    walk_at "rd"
    refine ⟨_, _, _, _, false, rfl, rfl, TyOf.int i, T.k0, ?_⟩
    walk_at "rd"
    refine rd_ite (fun h1 => ?_) (fun h1 => ?_)
    · walk_at "rd"
      have e : inn i lo hi = decide (i ≤ hi) := by simp [inn, h1]
      rw [← e]
      exact k
    · have e : inn i lo hi = false := by simp [inn, h1]
      rw [e] at k
      exact k
def spGood (fn : Sg → Bool) : Sp := fun vs H Q _ => ∃ p g, vs = [.ref p] ∧ H p = some (.tup (Sg.vs g)) ∧ Q (.bl (fn g)) H
theorem ok_is_good_main (T : Txt K mg a) : Has P w K mg base CX0 2 "is_good_main" ["stage"] (spGood goodMain) := by
  have G_is_whole_within := ok_is_whole_within (P := P) (w := w) (base := base) T
  refine T.f_is_good_main.has fun f fd F => F.ok sc_is_good_main (fun vs H Q E h => ?_) (fun cdv A outer s H vs Q E hr h => ?_)
  · obtain ⟨p, g, rfl, _⟩ := h; rfl
  · obtain ⟨p, g, rfl, hp, k⟩ := h
    refine ⟨_, (pss_cons (ps_if (pt_cmpR op_ne (pe_callB call_len_seq (by rfl) T.n_len PySem.boot_len (pa_c (pv 0) pa_nil ns_name) (he := star_cons ns_name) (hpl := star_any ns_nil)) pe_int (nomark _)) (pss_one (ps_ret pe_bl)) pss_nil) (pss_cons (ps_if (PW.pt (pw_and (pt_cmpR op_notN (pe_ix ix_tup (pv 0) pe_int (fun _ _ => rfl)) pe_non (nomark _)) (pw_and1 (pt_not (pt_val (pe_callH G_is_whole_within hr (pa_c (pe_ix ix_tup (pv 0) pe_int (fun _ _ => rfl)) (pa_c pe_int (pa_c (pe_gI rfl T.c_MOST_MOVES) pa_nil ns_name) ns_con) ns_sub) (he := star_cons ns_sub) (hpl := star_any (ns_cons ns_con (ns_cons ns_name ns_nil)))) (fun _ => rfl)))))) (pss_one (ps_ret pe_bl)) pss_nil) (pss_cons (ps_if (pt_not (pt_val (pe_callH G_is_whole_within hr (pa_c (pe_ix ix_tup (pv 0) pe_int (fun _ _ => rfl)) (pa_c pe_int (pa_c (pe_gI rfl T.c_MOST_TICKS) pa_nil ns_name) ns_con) ns_sub) (he := star_cons ns_sub) (hpl := star_any (ns_cons ns_con (ns_cons ns_name ns_nil)))) (fun _ => rfl))) (pss_one (ps_ret pe_bl)) pss_nil) (pss_one (ps_ret (pe_and (pe_cmpR op_in_seq (pe_ix ix_tup (pv 0) pe_int (fun _ _ => rfl)) (pe_gR rfl T.g_WAYS) (by with_unfolding_all rfl)) (pe_one (pe_callH G_is_whole_within hr (pa_c (pe_ix ix_tup (pv 0) pe_int (fun _ _ => rfl)) (pa_c pe_int (pa_c (pe_gI rfl T.c_MOST_EXTRA) pa_nil ns_name) ns_con) ns_sub) (he := star_cons ns_sub) (hpl := star_any (ns_cons ns_con (ns_cons ns_name ns_nil))))))))))), ?_⟩
    walk_at "rd"
    refine ⟨p, _, rfl, .inr (SqT.of hp), ?_⟩
    walk_at "rd"
    cases g with
    | three z q t =>
      refine rd_iteN (fun _ => ?_) (fun h => by cases h)
      walk_at "rd"
      exact k
    | five z m t w e =>
      refine rd_iteN (fun h => (h rfl).elim) (fun _ => ?_)
      walk_at "rd"
      refine rd_ixT (SqT.of hp) (Sg.at1 _) ?_
      walk_at "rd"
      have rest : mOk m = true →
          (tSeq (tIfS (tNot (tB (tCall spWhole [] E0 (tCons (tOp (rIxT K) (tVar 0) (tC (.int 2))) (tCons (tC (.int 1)) (tCons (tC (.int 1000000)) tNil)))))) (tRet (tC (.bl false))) tNext)
            (tRet (tAndV (tOp (rIn K false) (tOp (rIxT K) (tVar 0) (tC (.int 3))) (tC (.ref a.aW))) (tCall spWhole [] E0 (tCons (tOp (rIxT K) (tVar 0) (tC (.int 4))) (tCons (tC (.int 0)) (tCons (tC (.int 1000000)) tNil)))))))
            { nx := fun _ H' => Q .non H', rt := Q } (start ["stage"] [.ref p]) H := fun hm => by
        walk_at "rd"
        refine rd_ixT (SqT.of hp) (Sg.at2 _) ?_
        walk_at "rd"
        refine ⟨t, 1, 1000000, rfl, ?_⟩
        walk_at "rd"
        refine rd_iteNB (fun ht => ?_) (fun ht => ?_)
        · walk_at "rd"
          have e1 : goodMain (.five z m t w e) = false := by simp only [goodMain, hm, ht, Bool.and_false, Bool.false_and, Bool.true_and]
          rw [e1] at k
          exact k
        · walk_at "rd"
          refine rd_ixT (v := .str w) (SqT.of hp) rfl ?_
          walk_at "rd"
          refine ⟨a.aW, ways, rfl, .inr (T.ways _), rfl, rfl, ?_⟩
          rw [if_neg Bool.false_ne_true]
          walk_at "rd"
          refine rd_iteB (fun hw => ?_) (fun hw => ?_)
          · walk_at "rd"
            refine rd_ixT (v := .int e) (SqT.of hp) rfl ?_
            walk_at "rd"
            refine ⟨e, 0, 1000000, rfl, ?_⟩
            have e1 : goodMain (.five z m t w e) = inn e 0 1000000 := by simp only [goodMain, hm, ht, hw, Bool.true_and]
            rw [e1] at k
            exact k
          · have e1 : goodMain (.five z m t w e) = false := by simp only [goodMain, hm, ht, hw, Bool.and_false, Bool.false_and, Bool.true_and]
            rw [e1] at k
            exact k
      cases m with
      | none =>
        refine rd_iteN (fun h => (h rfl).elim) (fun _ => ?_)
        exact rest rfl
      | some n =>
        refine rd_iteN (fun _ => ?_) (fun h => by cases h)
        walk_at "rd"
        refine rd_ixT (SqT.of hp) (Sg.at1 _) ?_
        walk_at "rd"
        refine ⟨n, 1, 200, rfl, ?_⟩
        walk_at "rd"
        refine rd_iteNB (fun hn => ?_) (fun hn => ?_)
        · walk_at "rd"
          have e1 : goodMain (.five z (some n) t w e) = false := by simp only [goodMain, mOk, hn, Bool.false_and]
          rw [e1] at k
          exact k
        · exact rest hn
theorem ok_is_good_over (T : Txt K mg a) : Has P w K mg base CX0 2 "is_good_over" ["stage"] (spGood goodOver) := by
  have G_is_whole_within := ok_is_whole_within (P := P) (w := w) (base := base) T
  refine T.f_is_good_over.has fun f fd F => F.ok sc_is_good_over (fun vs H Q E h => ?_) (fun cdv A outer s H vs Q E hr h => ?_)
  · obtain ⟨p, g, rfl, _⟩ := h; rfl
  · obtain ⟨p, g, rfl, hp, k⟩ := h
    refine ⟨_, (pss_cons (ps_if (pt_cmpR op_ne (pe_callB call_len_seq (by rfl) T.n_len PySem.boot_len (pa_c (pv 0) pa_nil ns_name) (he := star_cons ns_name) (hpl := star_any ns_nil)) pe_int (nomark _)) (pss_one (ps_ret pe_bl)) pss_nil) (pss_one (ps_ret (pe_and (pe_callH G_is_whole_within hr (pa_c (pe_ix ix_tup (pv 0) pe_int (fun _ _ => rfl)) (pa_c pe_int (pa_c (pe_gI rfl T.c_MOST_PERIODS) pa_nil ns_name) ns_con) ns_sub) (he := star_cons ns_sub) (hpl := star_any (ns_cons ns_con (ns_cons ns_name ns_nil)))) (pe_one (pe_callH G_is_whole_within hr (pa_c (pe_ix ix_tup (pv 0) pe_int (fun _ _ => rfl)) (pa_c pe_int (pa_c (pe_gI rfl T.c_MOST_TICKS) pa_nil ns_name) ns_con) ns_sub) (he := star_cons ns_sub) (hpl := star_any (ns_cons ns_con (ns_cons ns_name ns_nil))))))))), ?_⟩
    walk_at "rd"
    refine ⟨p, _, rfl, .inr (SqT.of hp), ?_⟩
    walk_at "rd"
    cases g with
    | five z m t w e =>
      refine rd_iteN (fun _ => ?_) (fun h => by cases h)
      walk_at "rd"
      exact k
    | three z q t =>
      refine rd_iteN (fun h => (h rfl).elim) (fun _ => ?_)
      walk_at "rd"
      refine rd_ixT (SqT.of hp) (Sg.at1 _) ?_
      walk_at "rd"
      refine ⟨q, 1, 200, rfl, ?_⟩
      walk_at "rd"
      refine rd_iteB (fun hq => ?_) (fun hq => ?_)
      · walk_at "rd"
        refine rd_ixT (SqT.of hp) (Sg.at2 _) ?_
        walk_at "rd"
        refine ⟨t, 1, 1000000, rfl, ?_⟩
        have e1 : goodOver (.three z q t) = inn t 1 1000000 := by simp only [goodOver, hq, Bool.true_and]
        rw [e1] at k
        exact k
      · have e1 : goodOver (.three z q t) = false := by simp only [goodOver, hq, Bool.false_and]
        rw [e1] at k
        exact k
theorem ok_is_good_stage (T : Txt K mg a) : Has P w K mg base CX0 3 "is_good_stage" ["stage"] (spGood goodSg) := by
  have G_is_main := ok_is_main (P := P) (w := w) (base := base) T
  have G_is_over := ok_is_over (P := P) (w := w) (base := base) T
  have G_is_good_main := ok_is_good_main (P := P) (w := w) (base := base) T
  have G_is_good_over := ok_is_good_over (P := P) (w := w) (base := base) T
  refine T.f_is_good_stage.has fun f fd F => F.ok sc_is_good_stage (fun vs H Q E h => ?_) (fun cdv A outer s H vs Q E hr h => ?_)
  · obtain ⟨p, g, rfl, _⟩ := h; rfl
  · obtain ⟨p, g, rfl, hp, k⟩ := h
    refine ⟨_, (pss_cons (ps_if (PW.pt (pw_or (pt_not (pt_val (pe_callB call_isinst (by rfl) T.n_isinstance boot_isinstance (pa_c (pv 0) (pa_c (pe_bT rfl T.n_tuple boot_tuple) pa_nil ns_name) ns_name) (he := star_cons ns_name) (hpl := star_any (ns_cons ns_name ns_nil))) (fun _ => rfl))) (pw_or1 (pt_cmpR op_eq (pe_callB call_len_seq (by rfl) T.n_len PySem.boot_len (pa_c (pv 0) pa_nil ns_name) (he := star_cons ns_name) (hpl := star_any ns_nil)) pe_int (nomark _))))) (pss_one (ps_ret pe_bl)) pss_nil) (pss_cons (ps_if (pt_val (pe_callH G_is_main hr (pa_c (pv 0) pa_nil ns_name) (he := star_cons ns_name) (hpl := star_any ns_nil)) (fun _ => rfl)) (pss_one (ps_ret (pe_callH G_is_good_main hr (pa_c (pv 0) pa_nil ns_name) (he := star_cons ns_name) (hpl := star_any ns_nil)))) pss_nil) (pss_one (ps_ret (pe_and (pe_callH G_is_over hr (pa_c (pv 0) pa_nil ns_name) (he := star_cons ns_name) (hpl := star_any ns_nil)) (pe_one (pe_callH G_is_good_over hr (pa_c (pv 0) pa_nil ns_name) (he := star_cons ns_name) (hpl := star_any ns_nil)))))))), ?_⟩
    walk_at "rd"
    refine ⟨_, _, _, _, true, rfl, rfl, TyOf.tup hp, kit_self, ?_⟩
    walk_at "rd"
    refine ⟨p, _, rfl, .inr (SqT.of hp), ?_⟩
    walk_at "rd"
    refine rd_ite (fun h => by cases g <;> cases h) (fun _ => ?_)
    walk_at "rd"
    refine ⟨p, g, rfl, hp, ?_⟩
    walk_at "rd"
    refine rd_iteB (fun hm => ?_) (fun hm => ?_)
    · walk_at "rd"
      refine ⟨p, g, rfl, hp, ?_⟩
      have e1 : goodSg g = goodMain g := by simp only [goodSg, hm, if_true]
      rw [e1] at k
      exact k
    · walk_at "rd"
      refine ⟨p, g, rfl, hp, ?_⟩
      walk_at "rd"
      refine rd_iteB (fun ho => ?_) (fun ho => ?_)
      · walk_at "rd"
        refine ⟨p, g, rfl, hp, ?_⟩
        have e1 : goodSg g = goodOver g := by simp only [goodSg, hm, ho, Bool.true_and, Bool.false_eq_true, if_false]
        rw [e1] at k
        exact k
      · have e1 : goodSg g = false := by simp only [goodSg, hm, ho, Bool.false_and, Bool.false_eq_true, if_false]
        rw [e1] at k
        exact k
def spMay : Sp := fun vs H Q _ => ∃ p q l e, vs = [.ref p, .ref q] ∧ H p = some (.tup (Sg.vs l)) ∧ H q = some (.tup (Sg.vs e)) ∧ Q (.bl (may l e)) H
theorem ok_may_stand_behind (T : Txt K mg a) : Has P w K mg base CX0 3 "may_stand_behind" ["later", "earlier"] spMay := by
  have G_is_over := ok_is_over (P := P) (w := w) (base := base) T
  have G_is_endless := ok_is_endless (P := P) (w := w) (base := base) T
  refine T.f_may_stand_behind.has fun f fd F => F.ok sc_may_stand_behind (fun vs H Q E h => ?_) (fun cdv A outer s H vs Q E hr h => ?_)
  · obtain ⟨p, q, l, e, rfl, _⟩ := h; rfl
  · obtain ⟨p, q, l, e, rfl, hp, hq, k⟩ := h
    refine ⟨_, (pss_cons (ps_if (pt_val (pe_callH G_is_over hr (pa_c (pv 1) pa_nil ns_name) (he := star_cons ns_name) (hpl := star_any ns_nil)) (fun _ => rfl)) (pss_one (ps_ret pe_bl)) pss_nil) (pss_one (ps_ret (pe_or (pe_callH G_is_over hr (pa_c (pv 0) pa_nil ns_name) (he := star_cons ns_name) (hpl := star_any ns_nil)) (pe_one (pe_not (pe_callH G_is_endless hr (pa_c (pv 1) pa_nil ns_name) (he := star_cons ns_name) (hpl := star_any ns_nil)))))))), ?_⟩
    walk_at "rd"
    refine ⟨q, e, rfl, hq, ?_⟩
    walk_at "rd"
    refine rd_iteB (fun ho => ?_) (fun ho => ?_)
    · walk_at "rd"
      have e1 : may l e = false := by simp only [may, ho, Bool.not_true, Bool.false_and]
      rw [e1] at k
      exact k
    · walk_at "rd"
      refine ⟨p, l, rfl, hp, ?_⟩
      walk_at "rd"
      refine rd_iteB (fun hl => ?_) (fun hl => ?_)
      · have e1 : may l e = true := by simp only [may, ho, hl, Bool.not_false, Bool.true_and, Bool.true_or]
        rw [e1] at k
        exact k
      · walk_at "rd"
        refine ⟨q, e, rfl, hq, ?_⟩
        walk_at "rd"
        have e1 : may l e = !e.endless := by simp only [may, ho, hl, Bool.not_false, Bool.true_and, Bool.false_or]
        rw [e1] at k
        exact k
def refs (ps : List Addr) : List V := ps.map V.ref
theorem refs_len (ps : List Addr) : (refs ps).length = ps.length := List.length_map ..
theorem refs_get {ps : List Addr} {i : Nat} {v : V} (h : (refs ps)[i]? = some v) : ∃ p, ps[i]? = some p ∧ v = .ref p := by
  unfold refs at h
  rw [List.getElem?_map] at h
  cases e : ps[i]? with
  | none => rw [e] at h; cases h
  | some p => rw [e] at h; exact ⟨p, rfl, (Option.some.inj h).symm⟩
structure StAt (H : Hp) (ps : List Addr) (gs : List Sg) : Prop where
  len : ps.length = gs.length
  at_ : ∀ (i : Nat) p g, ps[i]? = some p → gs[i]? = some g → H p = some (.tup g.vs)
theorem StAt.same {H H' : Hp} {ps : List Addr} {gs : List Sg} (x : StAt H ps gs) (s : Same H H') : StAt H' ps gs := ⟨x.len, fun i p g h1 h2 => s _ _ (x.at_ i p g h1 h2)⟩
theorem StAt.get {H : Hp} {ps : List Addr} {gs : List Sg} (x : StAt H ps gs) {i : Nat} {p : Addr} (h : ps[i]? = some p) : ∃ g, gs[i]? = some g ∧ H p = some (.tup g.vs) := by
  have hi : i < gs.length := by rw [← x.len]; exact (List.getElem?_eq_some_iff.mp h).1
  exact ⟨gs[i], List.getElem?_eq_getElem hi, x.at_ i p _ h (List.getElem?_eq_getElem hi)⟩
theorem same_upd {H : Hp} {t : Addr} {o : HO} (h : H t = none) : Same H (upd H t o) := fun b u e => by rw [upd_ne (ne_of_none e h)]; exact e
def eachOk (gs : List Sg) : Prop := ∀ (j : Nat) g, gs[j]? = some g → goodSg g = true
def orderOk (gs : List Sg) : Prop := (∀ (j : Nat) e l, gs[j]? = some e → gs[j + 1]? = some l → may l e = true) ∧ ∀ g, gs[gs.length - 1]? = some g → (g.isW "over" = true ∨ g.endless = true)
def spCheck (a : Ads) (K : PySem.W.Frag) (fn : List Sg → Prop) : Sp := fun vs H Q E => ∃ l ps gs, vs = [.ref l] ∧ SqL K H l (refs ps) ∧ StAt H ps gs ∧ ps.length ≤ 5 ∧ 1 ≤ ps.length ∧
  (fn gs → ∀ H', Same H H' → Q .non H') ∧ (¬ fn gs → ∀ H', Same H H' → E (.ref a.xBadStages) none H')
theorem str_len_small {i : Int} (h0 : 0 ≤ i) (h1 : i ≤ 9) : (toString i : Str).length ≤ 1 := by
  have : i = 0 ∨ i = 1 ∨ i = 2 ∨ i = 3 ∨ i = 4 ∨ i = 5 ∨ i = 6 ∨ i = 7 ∨ i = 8 ∨ i = 9 := by omega
  rcases this with rfl | rfl | rfl | rfl | rfl | rfl | rfl | rfl | rfl | rfl <;> decide +kernel
theorem log_small {i : Int} (h0 : 0 ≤ i) (h1 : i ≤ 9) : i.natAbs.log2 < 1920 := by
  have : i = 0 ∨ i = 1 ∨ i = 2 ∨ i = 3 ∨ i = 4 ∨ i = 5 ∨ i = 6 ∨ i = 7 ∨ i = 8 ∨ i = 9 := by omega
  rcases this with rfl | rfl | rfl | rfl | rfl | rfl | rfl | rfl | rfl | rfl <;> decide +kernel
theorem ok_check_each (T : Txt K mg a) : Has P w K mg base (CX1 P w) 4 "check_each" ["stages"] (spCheck a K eachOk) := by
  have G_is_good_stage := ok_is_good_stage (P := P) (w := w) (base := base) T
  refine T.f_check_each.has fun f fd F => F.ok1 sc_check_each (fun vs H Q E h => ?_) (fun cdv A outer s H vs Q E hr h => ?_)
  · obtain ⟨l, ps, gs, rfl, _⟩ := h; rfl
  · obtain ⟨l, ps, gs, rfl, hl, hg, h5, h1, kq, ke⟩ := h
    refine ⟨_, (pss_one (ps_for PassesOwn.leaving rfl (pi_enum rfl T.n_enumerate (pa_c (pv 0) pa_nil ns_name)) (pg_tup rfl (pgs_cons (pg_name (i := 1) sc_check_each.nd rfl (Or.inl rfl)) (pgs_cons (pg_name (i := 2) sc_check_each.nd rfl (Or.inl rfl)) pgs_nil))) (pss_one (ps_if (pt_not (pt_val (pe_callH G_is_good_stage hr (pa_c (pv 2) pa_nil ns_name) (he := star_cons ns_name) (hpl := star_any ns_nil)) (fun _ => rfl))) (pss_one (ps_raise leaves_cx rfl T.x_BadStages.is rfl T.g_BadStages (pa_c (pe_fstr (pf_str (pf_int (pv 1) (pf_str pf_nil)))) pa_nil ns_js))) pss_nil)))), ?_⟩
    refine ⟨_, rfl, l, rfl, ⟨_, hl⟩, for_enum (K := K) (a := l) (xs := refs ps) (fun i σ H1 => (∃ v1 v2, σ = [some (.ref l), v1, v2]) ∧ Same H H1 ∧ ∀ (j : Nat) g, j < i → gs[j]? = some g → goodSg g = true)
      ⟨⟨none, none, rfl⟩, Same.refl _, fun j g hj => absurd hj (Nat.not_lt_zero _)⟩ (fun i σ H1 _ hp => hp.2.1.seq hl) ?_ ?_⟩
    · rintro i x t σ H1 hx ⟨⟨v1, v2, rfl⟩, sm, hall⟩ ht
      obtain ⟨p, hp, rfl⟩ := refs_get hx
      obtain ⟨g, hgi, hpt⟩ := hg.get hp
      have hil : i < ps.length := (List.getElem?_eq_some_iff.mp hp).1
      have sm2 : Same H (upd H1 t (.tup [.int i, .ref p])) := sm.trans (same_upd ht)
      refine ⟨t, _, rfl, SqT.of upd_same, rfl, _, _, rfl, _, _, rfl, rfl, ?_⟩
      walk_at "rd"
      refine ⟨p, g, rfl, sm2 _ _ hpt, ?_⟩
      walk_at "rd"
      refine rd_iteNB (fun hb => ?_) (fun hb => ?_)
      · have h0 : (0 : Int) ≤ i := Int.natCast_nonneg i
        have h9 : (i : Int) ≤ 9 := by omega
        have s1 : (Str.empty ++ ("stage " : Str)).length ≤ 6 := by decide +kernel
        have s3 := str_len_small h0 h9
        have s2 : (Str.ofString " is none of those that there are").length ≤ 40 := by decide +kernel
        have hz : 1000 ≤ sizeLine := by decide
        refine ⟨Nat.le_trans s1 (by decide), _, rfl, _, rfl, log_small h0 h9, by rw [strLen_append]; omega, by rw [strLen_append, strLen_append]; omega, by rw [strLen_append, strLen_append]; omega, (by show 1 ≤ sizeLine; decide), ?_⟩
        exact ke (fun z => by have z2 := z i g hgi; rw [hb] at z2; cases z2) _ sm2
      · walk_at "rd"
        exact ⟨⟨_, _, rfl⟩, sm2, fun j g' hj hj' => by
          by_cases e : j = i
          · subst e; rw [hgi] at hj'; cases hj'; exact hb
          · exact hall j g' (by omega) hj'⟩
    · rintro σ H1 ⟨_, sm, hall⟩
      refine kq ?_ H1 sm
      intro j g hj
      exact hall j g (by rw [refs_len, hg.len]; exact (List.getElem?_eq_some_iff.mp hj).1) hj
theorem at_neg1 {α : Type} {xs : List α} {v : α} (h : 1 ≤ xs.length) (e : xs[xs.length - 1]? = some v) : atI xs (-1) = some v := by
  unfold atI ixN
  rw [if_neg (by decide), if_pos (by omega)]
  have : ((-1 : Int) + (xs.length : Int)).toNat = xs.length - 1 := by omega
  simp only [Option.bind_some, this]
  exact e
theorem ok_check_order (T : Txt K mg a) : Has P w K mg base (CX1 P w) 4 "check_order" ["stages"] (spCheck a K orderOk) := by
  have G_is_over := ok_is_over (P := P) (w := w) (base := base) T
  have G_is_endless := ok_is_endless (P := P) (w := w) (base := base) T
  have G_may_stand_behind := ok_may_stand_behind (P := P) (w := w) (base := base) T
  refine T.f_check_order.has fun f fd F => F.ok1 sc_check_order (fun vs H Q E h => ?_) (fun cdv A outer s H vs Q E hr h => ?_)
  · obtain ⟨l, ps, gs, rfl, _⟩ := h; rfl
  · obtain ⟨l, ps, gs, rfl, hl, hg, h5, h1, kq, ke⟩ := h
    refine ⟨_, (pss_cons (ps_for PassesOwn.leaving rfl (pi_range2 rfl T.n_range (pa_c pe_int (pa_c (pe_callB call_len_seq (by rfl) T.n_len PySem.boot_len (pa_c (pv 0) pa_nil ns_name) (he := star_cons ns_name) (hpl := star_any ns_nil)) pa_nil ns_call) ns_con)) (pg_name (i := 1) sc_check_order.nd rfl (Or.inl rfl)) (pss_one (ps_if (pt_not (pt_val (pe_callH G_may_stand_behind hr (pa_c (pe_ix ix_list (pv 0) (pv 1) (fun _ _ => rfl)) (pa_c (pe_ix ix_list (pv 0) (pe_op op_sub (pv 1) pe_int) (fun _ _ => rfl)) pa_nil ns_sub) ns_sub) (he := star_cons ns_sub) (hpl := star_any (ns_cons ns_sub ns_nil))) (fun _ => rfl))) (pss_one (ps_raise leaves_cx rfl T.x_BadStages.is rfl T.g_BadStages (pa_c (pe_fstr (pf_str (pf_int (pv 1) (pf_str pf_nil)))) pa_nil ns_js))) pss_nil))) (pss_one (ps_if (PW.pt (pw_and (pt_not (pt_val (pe_callH G_is_over hr (pa_c (pe_ix ix_list (pv 0) (pe_un un_neg pe_int) (fun _ _ => rfl)) pa_nil ns_sub) (he := star_cons ns_sub) (hpl := star_any ns_nil)) (fun _ => rfl))) (pw_and1 (pt_not (pt_val (pe_callH G_is_endless hr (pa_c (pe_ix ix_list (pv 0) (pe_un un_neg pe_int) (fun _ _ => rfl)) pa_nil ns_sub) (he := star_cons ns_sub) (hpl := star_any ns_nil)) (fun _ => rfl)))))) (pss_one (ps_raise leaves_cx rfl T.x_BadStages.is rfl T.g_BadStages (pa_c pe_str pa_nil ns_con))) pss_nil))), ?_⟩
    walk_at "rd"
    refine ⟨l, _, rfl, .inl hl, ?_⟩
    walk_at "rd"
    have hlen : (refs ps).length = ps.length := refs_len ps
    refine ⟨1, _, rfl, ⟨by decide, by decide, by omega, by omega⟩, for_range (lo := 1) (fun i σ H1 => (∃ v1, σ = [some (.ref l), v1]) ∧ H1 = H ∧ ∀ (j : Nat) e l, j < i → gs[j]? = some e → gs[j + 1]? = some l → may l e = true)
      ⟨⟨none, rfl⟩, rfl, fun j e l hj => absurd hj (Nat.not_lt_zero _)⟩ ?_ ?_⟩
    · rintro i σ H1 hi ⟨⟨v1, rfl⟩, rfl, hall⟩
      have hi1 : i + 1 < ps.length := by omega
      obtain ⟨g, hgi, hp⟩ := hg.get (List.getElem?_eq_getElem hi1)
      obtain ⟨g0, hgi0, hp0⟩ := hg.get (List.getElem?_eq_getElem (show i < ps.length by omega))
      have r1 : (refs ps)[i + 1]? = some (.ref ps[i + 1]) := by unfold refs; rw [List.getElem?_map, List.getElem?_eq_getElem hi1]; rfl
      have r0 : (refs ps)[i]? = some (.ref ps[i]) := by unfold refs; rw [List.getElem?_map, List.getElem?_eq_getElem (show i < ps.length by omega)]; rfl
      walk_at "rd"
      refine rd_ixL hl (by rw [show (1 : Int) + (i : Int) = ((i + 1 : Nat) : Int) by omega]; exact atI_nat r1) ?_
      walk_at "rd"
      refine rd_ixL hl (by rw [show (1 : Int) + (i : Int) - 1 = (i : Int) by omega]; exact atI_nat r0) ?_
      walk_at "rd"
      refine ⟨_, _, g, g0, rfl, hp, hp0, ?_⟩
      walk_at "rd"
      refine rd_iteNB (fun hb => ?_) (fun hb => ?_)
      · have h0 : (0 : Int) ≤ 1 + (i : Int) := by omega
        have h9 : (1 : Int) + (i : Int) ≤ 9 := by omega
        have s1 : (Str.empty ++ ("stage " : Str)).length ≤ 6 := by decide +kernel
        have s3 := str_len_small h0 h9
        have s2 : (Str.ofString " may not stand behind the one ahead of it").length ≤ 60 := by decide +kernel
        have hz : 1000 ≤ sizeLine := by decide
        walk_at "rd"
        refine ⟨Nat.le_trans s1 (by decide), _, rfl, _, rfl, log_small h0 h9, by rw [strLen_append]; omega, by rw [strLen_append, strLen_append]; omega, by rw [strLen_append, strLen_append]; omega, (by show 1 ≤ sizeLine; decide), ?_⟩
        exact ke (fun z => by have z2 := z.1 i g0 g hgi0 hgi; rw [hb] at z2; cases z2) _ (Same.refl _)
      · walk_at "rd"
        exact ⟨⟨_, rfl⟩, rfl, fun j e' l' hj h1' h2' => by
          by_cases ej : j = i
          · subst ej; rw [hgi0] at h1'; rw [hgi] at h2'; cases h1'; cases h2'; exact hb
          · exact hall j e' l' (by omega) h1' h2'⟩
    · rintro σ H1 ⟨⟨v1, rfl⟩, rfl, hall⟩
      have hlast : ps.length - 1 < ps.length := by omega
      obtain ⟨g, hgi, hp⟩ := hg.get (List.getElem?_eq_getElem hlast)
      have rl : (refs ps)[(refs ps).length - 1]? = some (.ref ps[ps.length - 1]) := by rw [hlen]; unfold refs; rw [List.getElem?_map, List.getElem?_eq_getElem hlast]; rfl
      have hgl : gs[gs.length - 1]? = some g := by rw [← hg.len]; exact hgi
      walk_at "rd"
      refine rd_ixL hl (at_neg1 (by omega) rl) ?_
      walk_at "rd"
      refine ⟨_, g, rfl, hp, ?_⟩
      walk_at "rd"
      have fin : (g.isW "over" = true ∨ g.endless = true) → orderOk gs := fun hh => ⟨fun j e' l' h1' h2' => hall j e' l' (by
        have := (List.getElem?_eq_some_iff.mp h2').1
        have := hg.len
        omega) h1' h2', fun g' hg' => by rw [hgl] at hg'; cases hg'; exact hh⟩
      refine rd_iteNB (fun ho => ?_) (fun ho => ?_)
      · walk_at "rd"
        refine rd_ixL hl (at_neg1 (by omega) rl) ?_
        walk_at "rd"
        refine ⟨_, g, rfl, hp, ?_⟩
        walk_at "rd"
        refine rd_iteNB (fun hen => ?_) (fun hen => ?_)
        · walk_at "rd"
          refine ⟨by show 1 ≤ sizeLine; decide, ke (fun z => ?_) _ (Same.refl _)⟩
          rcases z.2 g hgl with z | z
          · rw [ho] at z; cases z
          · rw [hen] at z; cases z
        · walk_at "rd"
          exact kq (fin (.inr hen)) _ (Same.refl _)
      · walk_at "rd"
        exact kq (fin (.inl ho)) _ (Same.refl _)
theorem putF_mid {f : Str} {v x : V} : ∀ {l1 l2 : List (Str × V)}, f ∉ l1.map (·.1) → putF f v (l1 ++ (f, x) :: l2) = l1 ++ (f, v) :: l2
  | [], l2, _ => by show (if f = f then (f, v) :: l2 else _) = _; rw [if_pos rfl]; rfl
  | (g, y) :: r, l2, h => by
    have h1 : ¬ g = f := fun z => h (by simp [z])
    have h2 : f ∉ r.map (·.1) := fun z => h (by simp only [List.map_cons]; exact List.mem_cons_of_mem _ z)
    show (if g = f then (g, v) :: (r ++ (f, x) :: l2) else (g, y) :: putF f v (r ++ (f, x) :: l2)) = _
    rw [if_neg h1, putF_mid h2]
    rfl
theorem putF_end {f : Str} {v : V} : ∀ {l : List (Str × V)}, f ∉ l.map (·.1) → putF f v l = l ++ [(f, v)]
  | [], _ => rfl
  | (g, y) :: r, h => by
    have h1 : ¬ g = f := fun z => h (by simp [z])
    have h2 : f ∉ r.map (·.1) := fun z => h (by simp only [List.map_cons]; exact List.mem_cons_of_mem _ z)
    show (if g = f then (g, v) :: r else (g, y) :: putF f v r) = _
    rw [if_neg h1, putF_end h2]
    rfl
theorem lk_mid {f : Str} {x : V} : ∀ {l1 l2 : List (Str × V)}, f ∉ l1.map (·.1) → (l1 ++ (f, x) :: l2).lookup f = some x
  | [], l2, _ => by simp
  | (g, y) :: r, l2, h => by
    have h1 : ¬ f = g := fun z => h (by simp [z])
    have h2 : f ∉ r.map (·.1) := fun z => h (by simp only [List.map_cons]; exact List.mem_cons_of_mem _ z)
    show List.lookup f ((g, y) :: (r ++ (f, x) :: l2)) = some x
    rw [List.lookup_cons, (beq_eq_false_iff_ne.mpr h1)]
    exact lk_mid h2
theorem lk_no {f : Str} : ∀ {l : List (Str × V)}, f ∉ l.map (·.1) → l.lookup f = none
  | [], _ => rfl
  | (g, y) :: r, h => by
    have h1 : ¬ f = g := fun z => h (by simp [z])
    have h2 : f ∉ r.map (·.1) := fun z => h (by simp only [List.map_cons]; exact List.mem_cons_of_mem _ z)
    rw [List.lookup_cons, (beq_eq_false_iff_ne.mpr h1)]
    exact lk_no h2
structure Sd where
  num : Nat
  made : Int
  left : Int
  periods : Int
  moves : Int
  passed : Int
def sideF (t : Addr) (s : Sd) : List (Str × V) := [("stages", .ref t), ("number", .int s.num), ("moves_in_stage", .int s.made), ("left", .int s.left), ("periods", .int s.periods), ("moves", .int s.moves), ("passed", .int s.passed)]
theorem sf_num (t : Addr) (s : Sd) (n : Nat) : putF "number" (.int n) (sideF t s) = sideF t { s with num := n } := putF_mid (l1 := [("stages", V.ref t)]) (by show ("number" : Str) ∉ (["stages"] : List Str); decide +kernel)
theorem sf_made (t : Addr) (s : Sd) (n : Int) : putF "moves_in_stage" (.int n) (sideF t s) = sideF t { s with made := n } := putF_mid (l1 := [("stages", V.ref t), ("number", .int s.num)]) (by show ("moves_in_stage" : Str) ∉ (["stages", "number"] : List Str); decide +kernel)
theorem sf_left (t : Addr) (s : Sd) (n : Int) : putF "left" (.int n) (sideF t s) = sideF t { s with left := n } := putF_mid (l1 := [("stages", V.ref t), ("number", .int s.num), ("moves_in_stage", .int s.made)]) (by show ("left" : Str) ∉ (["stages", "number", "moves_in_stage"] : List Str); decide +kernel)
theorem sf_periods (t : Addr) (s : Sd) (n : Int) : putF "periods" (.int n) (sideF t s) = sideF t { s with periods := n } := putF_mid (l1 := [("stages", V.ref t), ("number", .int s.num), ("moves_in_stage", .int s.made), ("left", .int s.left)]) (by show ("periods" : Str) ∉ (["stages", "number", "moves_in_stage", "left"] : List Str); decide +kernel)
theorem sf_moves (t : Addr) (s : Sd) (n : Int) : putF "moves" (.int n) (sideF t s) = sideF t { s with moves := n } := putF_mid (l1 := [("stages", V.ref t), ("number", .int s.num), ("moves_in_stage", .int s.made), ("left", .int s.left), ("periods", .int s.periods)]) (by show ("moves" : Str) ∉ (["stages", "number", "moves_in_stage", "left", "periods"] : List Str); decide +kernel)
theorem sf_passed (t : Addr) (s : Sd) (n : Int) : putF "passed" (.int n) (sideF t s) = sideF t { s with passed := n } := putF_mid (l1 := [("stages", V.ref t), ("number", .int s.num), ("moves_in_stage", .int s.made), ("left", .int s.left), ("periods", .int s.periods), ("moves", .int s.moves)]) (by show ("passed" : Str) ∉ (["stages", "number", "moves_in_stage", "left", "periods", "moves"] : List Str); decide +kernel)
theorem sl_stages (t : Addr) (s : Sd) : (sideF t s).lookup ("stages" : Str) = some (.ref t) := lk_mid (l1 := []) (by simp)
theorem sl_num (t : Addr) (s : Sd) : (sideF t s).lookup ("number" : Str) = some (.int s.num) := lk_mid (l1 := [("stages", V.ref t)]) (by show ("number" : Str) ∉ (["stages"] : List Str); decide +kernel)
theorem sl_made (t : Addr) (s : Sd) : (sideF t s).lookup ("moves_in_stage" : Str) = some (.int s.made) := lk_mid (l1 := [("stages", V.ref t), ("number", .int s.num)]) (by show ("moves_in_stage" : Str) ∉ (["stages", "number"] : List Str); decide +kernel)
theorem sl_left (t : Addr) (s : Sd) : (sideF t s).lookup ("left" : Str) = some (.int s.left) := lk_mid (l1 := [("stages", V.ref t), ("number", .int s.num), ("moves_in_stage", .int s.made)]) (by show ("left" : Str) ∉ (["stages", "number", "moves_in_stage"] : List Str); decide +kernel)
theorem sl_periods (t : Addr) (s : Sd) : (sideF t s).lookup ("periods" : Str) = some (.int s.periods) := lk_mid (l1 := [("stages", V.ref t), ("number", .int s.num), ("moves_in_stage", .int s.made), ("left", .int s.left)]) (by show ("periods" : Str) ∉ (["stages", "number", "moves_in_stage", "left"] : List Str); decide +kernel)
theorem sl_moves (t : Addr) (s : Sd) : (sideF t s).lookup ("moves" : Str) = some (.int s.moves) := lk_mid (l1 := [("stages", V.ref t), ("number", .int s.num), ("moves_in_stage", .int s.made), ("left", .int s.left), ("periods", .int s.periods)]) (by show ("moves" : Str) ∉ (["stages", "number", "moves_in_stage", "left", "periods"] : List Str); decide +kernel)
theorem sl_passed (t : Addr) (s : Sd) : (sideF t s).lookup ("passed" : Str) = some (.int s.passed) := lk_mid (l1 := [("stages", V.ref t), ("number", .int s.num), ("moves_in_stage", .int s.made), ("left", .int s.left), ("periods", .int s.periods), ("moves", .int s.moves)]) (by show ("passed" : Str) ∉ (["stages", "number", "moves_in_stage", "left", "periods", "moves"] : List Str); decide +kernel)
def sideN : List Str := ["stages", "number", "moves_in_stage", "left", "periods", "moves", "passed"]
theorem sl_no (t : Addr) (s : Sd) {m : Str} (h : m ∉ sideN) : (sideF t s).lookup m = none := lk_no h
theorem sf_len (t : Addr) (s : Sd) : (sideF t s).length < 1000 := by show 7 < 1000; decide
theorem StAt.upd {H : Hp} {ps : List Addr} {gs : List Sg} {p C dx : Addr} {fs : List (Str × V)} {o : HO} (x : StAt H ps gs) (hp : H p = some (.ins C dx fs)) : StAt (upd H p o) ps gs :=
  ⟨x.len, fun i q g h1 h2 => by rw [upd_ne (ne_of (x.at_ i q g h1 h2) hp (by intro z; cases z))]; exact x.at_ i q g h1 h2⟩
def beginS (g : Sg) (n : Nat) (s : Sd) : Sd := match g with
  | .three _ p t => { s with num := n, made := 0, periods := p, left := t }
  | .five _ _ t _ _ => { s with num := n, made := 0, left := s.left + t }
theorem good_five {z : Str} {m : Option Int} {t : Int} {w : Str} {e : Int} (h : goodSg (.five z m t w e) = true) : (Sg.five z m t w e).isW "main" = true ∧ (Sg.five z m t w e).isW "over" = false := by
  unfold goodSg at h
  have hm : (Sg.five z m t w e).isW "main" = true := by
    cases q : (Sg.five z m t w e).isW "main" with
    | true => rfl
    | false => rw [q] at h; simp [goodOver] at h
  refine ⟨hm, ?_⟩
  have hz : V.str z = V.str "main" := of_decide_eq_true hm
  show decide (V.str z = V.str "over") = false
  rw [hz]
  decide +kernel
theorem good_three {z : Str} {p t : Int} (h : goodSg (.three z p t) = true) : (Sg.three z p t).isW "over" = true ∧ (Sg.three z p t).isW "main" = false := by
  unfold goodSg at h
  cases q : (Sg.three z p t).isW "main" with
  | true => rw [q] at h; simp [goodMain] at h
  | false =>
    rw [q] at h
    simp only [Bool.false_eq_true, if_false, Bool.and_eq_true] at h
    exact ⟨h.1, rfl⟩
def spBegin (a : Ads) : Sp := fun vs H Q _ => ∃ p dx t ps gs, ∃ (n : Nat), ∃ g s, vs = [.ref p, .int n] ∧ H p = some (.ins a.cSide dx (sideF t s)) ∧ H t = some (.tup (refs ps)) ∧ StAt H ps gs ∧ gs[n]? = some g ∧ goodSg g = true ∧
  Q .non (upd H p (.ins a.cSide dx (sideF t (beginS g n s))))
theorem ok_begin_stage (T : Txt K mg a) : HasM P w K mg base CX0 2 a.cSide "begin_stage" ["self", "number"] (spBegin a) := by
  have G_is_over := ok_is_over (P := P) (w := w) (base := base) T
  have G_ticks_of := ok_ticks_of (P := P) (w := w) (base := base) T
  refine T.m_Side_begin_stage.has fun f fd F => F.ok sc_Side_begin_stage (fun vs H Q E h => ?_) (fun cdv A outer s H vs Q E hr h => ?_)
  · obtain ⟨p, dx, t, ps, gs, n, g, s, rfl, _⟩ := h; rfl
  · obtain ⟨p, dx, t, ps, gs, n, g, sd, rfl, hp, ht, hs, hn, hgd, k⟩ := h
    refine ⟨_, (pss_cons (ps_fld (pv 0) (pv 1) rfl) (pss_cons (ps_fld (pv 0) pe_int rfl) (pss_cons (ps_set (i := 2) sc_Side_begin_stage.nd rfl (Or.inl rfl) (pe_ix ix_tup (pe_fld (pv 0) rfl) (pv 1) (fun _ _ => rfl))) (pss_one (ps_if (pt_val (pe_callH G_is_over hr (pa_c (pv 2) pa_nil ns_name) (he := star_cons ns_name) (hpl := star_any ns_nil)) (fun _ => rfl)) (pss_cons (ps_fld (pv 0) (pe_ix ix_tup (pv 2) pe_int (fun _ _ => rfl)) rfl) (pss_one (ps_fld (pv 0) (pe_callH G_ticks_of hr (pa_c (pv 2) pa_nil ns_name) (he := star_cons ns_name) (hpl := star_any ns_nil)) rfl))) (pss_one (ps_fldaug (pv 0) (pe_callH G_ticks_of hr (pa_c (pv 2) pa_nil ns_name) (he := star_cons ns_name) (hpl := star_any ns_nil)) in_add))))))), ?_⟩
    have hlt : n < ps.length := by rw [hs.len]; exact (List.getElem?_eq_some_iff.mp hn).1
    have hpg : H ps[n] = some (.tup g.vs) := hs.at_ n _ g (List.getElem?_eq_getElem hlt) hn
    have ntp : t ≠ p := ne_of ht hp (by intro z; cases z)
    have ngp : ps[n] ≠ p := ne_of hpg hp (by intro z; cases z)
    have rn : (refs ps)[n]? = some (.ref ps[n]) := by unfold refs; rw [List.getElem?_map, List.getElem?_eq_getElem hlt]; rfl
    walk_at "rd"
    refine rd_sfldx hp T.cl_Side T.a_Side_number (sf_len _ _) ?_
    rw [sf_num]
    walk_at "rd"
    refine rd_sfldx upd_same T.cl_Side T.a_Side_moves_in_stage (sf_len _ _) ?_
    rw [sf_made, upd_upd]
    walk_at "rd"
    refine ⟨_, _, _, _, _, rfl, upd_same, T.cl_Side, T.a_Side_stages, sl_stages _ _, ?_⟩
    walk_at "rd"
    refine rd_ixT (SqT.of (by rw [upd_ne ntp]; exact ht)) (atI_nat rn) ?_
    walk_at "rd"
    refine ⟨_, g, rfl, by rw [upd_ne ngp]; exact hpg, ?_⟩
    walk_at "rd"
    cases g with
    | three z q tt =>
      rw [(good_three hgd).1]
      walk_at "rd"
      refine rd_ixT (SqT.of (by rw [upd_ne ngp]; exact hpg)) (Sg.at1 _) ?_
      walk_at "rd"
      refine rd_sfldx upd_same T.cl_Side T.a_Side_periods (sf_len _ _) ?_
      rw [show putF "periods" (Sg.one (.three z q tt)) _ = _ from sf_periods t _ q, upd_upd]
      walk_at "rd"
      refine ⟨_, .three z q tt, rfl, by rw [upd_ne ngp]; exact hpg, ?_⟩
      walk_at "rd"
      refine rd_sfldx upd_same T.cl_Side T.a_Side_left (sf_len _ _) ?_
      rw [sf_left, upd_upd]
      exact k
    | five z m tt ww e =>
      rw [(good_five hgd).2]
      walk_at "rd"
      refine ⟨_, _, _, _, _, rfl, upd_same, T.cl_Side, T.a_Side_left, sl_left _ _, ?_⟩
      walk_at "rd"
      refine ⟨_, .five z m tt ww e, rfl, by rw [upd_ne ngp]; exact hpg, ?_⟩
      refine ⟨_, _, rfl, rfl, _, _, upd_same, sf_len _ _, ?_⟩
      rw [sf_left, upd_upd]
      exact k
def sd0 : Sd := ⟨0, 0, 0, 0, 0, 0⟩
def spSideInit (a : Ads) : Sp := fun vs H Q _ => ∃ p dx t ps gs g, vs = [.ref p, .ref t] ∧ H p = some (.ins a.cSide dx []) ∧ H t = some (.tup (refs ps)) ∧ StAt H ps gs ∧ gs[0]? = some g ∧ goodSg g = true ∧
  Q .non (upd H p (.ins a.cSide dx (sideF t (beginS g 0 sd0))))
theorem ok_Side_init (T : Txt K mg a) : HasI P w K mg base CX0 3 a.cSide ["self", "stages"] (spSideInit a) := by
  have G_Side_begin_stage := ok_begin_stage (P := P) (w := w) (base := base) T
  refine T.i_Side.has fun f fd F => F.ok sc_Side_init (fun vs H Q E h => ?_) (fun cdv A outer s H vs Q E hr h => ?_)
  · obtain ⟨p, dx, t, ps, gs, g, rfl, _⟩ := h; rfl
  · obtain ⟨p, dx, t, ps, gs, g, rfl, hp, ht, hs, hn, hgd, k⟩ := h
    refine ⟨_, (pss_cons (ps_fld (pv 0) (pv 1) rfl) (pss_cons (ps_fld (pv 0) pe_int rfl) (pss_cons (ps_fld (pv 0) pe_int rfl) (pss_cons (ps_fld (pv 0) pe_int rfl) (pss_cons (ps_fld (pv 0) pe_int rfl) (pss_cons (ps_fld (pv 0) pe_int rfl) (pss_cons (ps_fld (pv 0) pe_int rfl) (pss_one (ps_expr (pe_methH (pv 0) T.cl_Side G_Side_begin_stage hr (pa_c pe_int pa_nil ns_con) (hst := star_cons ns_con) (hpl := star_any ns_nil))))))))))), ?_⟩
    have ntp : t ≠ p := ne_of ht hp (by intro z; cases z)
    walk_at "rd"
    refine rd_sfldx hp T.cl_Side T.a_Side_stages (by show 0 < 1000; decide) ?_
    rw [show putF "stages" (V.ref t) ([] : List (Str × V)) = ([("stages", V.ref t)] : List (Str × V)) from putF_end (by show ("stages" : Str) ∉ ([] : List Str); decide +kernel)]
    walk_at "rd"
    refine rd_sfldx upd_same T.cl_Side T.a_Side_number (by show 1 < 1000; decide) ?_
    rw [show putF "number" (V.int 0) ([("stages", V.ref t)] : List (Str × V)) = ([("stages", V.ref t), ("number", V.int 0)] : List (Str × V)) from putF_end (by show ("number" : Str) ∉ (["stages"] : List Str); decide +kernel), upd_upd]
    walk_at "rd"
    refine rd_sfldx upd_same T.cl_Side T.a_Side_moves_in_stage (by show 2 < 1000; decide) ?_
    rw [show putF "moves_in_stage" (V.int 0) ([("stages", V.ref t), ("number", V.int 0)] : List (Str × V)) = ([("stages", V.ref t), ("number", V.int 0), ("moves_in_stage", V.int 0)] : List (Str × V)) from putF_end (by show ("moves_in_stage" : Str) ∉ (["stages", "number"] : List Str); decide +kernel), upd_upd]
    walk_at "rd"
    refine rd_sfldx upd_same T.cl_Side T.a_Side_left (by show 3 < 1000; decide) ?_
    rw [show putF "left" (V.int 0) ([("stages", V.ref t), ("number", V.int 0), ("moves_in_stage", V.int 0)] : List (Str × V)) = ([("stages", V.ref t), ("number", V.int 0), ("moves_in_stage", V.int 0), ("left", V.int 0)] : List (Str × V)) from putF_end (by show ("left" : Str) ∉ (["stages", "number", "moves_in_stage"] : List Str); decide +kernel), upd_upd]
    walk_at "rd"
    refine rd_sfldx upd_same T.cl_Side T.a_Side_periods (by show 4 < 1000; decide) ?_
    rw [show putF "periods" (V.int 0) ([("stages", V.ref t), ("number", V.int 0), ("moves_in_stage", V.int 0), ("left", V.int 0)] : List (Str × V)) = ([("stages", V.ref t), ("number", V.int 0), ("moves_in_stage", V.int 0), ("left", V.int 0), ("periods", V.int 0)] : List (Str × V)) from putF_end (by show ("periods" : Str) ∉ (["stages", "number", "moves_in_stage", "left"] : List Str); decide +kernel), upd_upd]
    walk_at "rd"
    refine rd_sfldx upd_same T.cl_Side T.a_Side_moves (by show 5 < 1000; decide) ?_
    rw [show putF "moves" (V.int 0) ([("stages", V.ref t), ("number", V.int 0), ("moves_in_stage", V.int 0), ("left", V.int 0), ("periods", V.int 0)] : List (Str × V)) = ([("stages", V.ref t), ("number", V.int 0), ("moves_in_stage", V.int 0), ("left", V.int 0), ("periods", V.int 0), ("moves", V.int 0)] : List (Str × V)) from putF_end (by show ("moves" : Str) ∉ (["stages", "number", "moves_in_stage", "left", "periods"] : List Str); decide +kernel), upd_upd]
    walk_at "rd"
    refine rd_sfldx upd_same T.cl_Side T.a_Side_passed (by show 6 < 1000; decide) ?_
    rw [show putF "passed" (V.int 0) ([("stages", V.ref t), ("number", V.int 0), ("moves_in_stage", V.int 0), ("left", V.int 0), ("periods", V.int 0), ("moves", V.int 0)] : List (Str × V)) = ([("stages", V.ref t), ("number", V.int 0), ("moves_in_stage", V.int 0), ("left", V.int 0), ("periods", V.int 0), ("moves", V.int 0), ("passed", V.int 0)] : List (Str × V)) from putF_end (by show ("passed" : Str) ∉ (["stages", "number", "moves_in_stage", "left", "periods", "moves"] : List Str); decide +kernel), upd_upd]
    walk_at "rd"
    refine ⟨_, _, _, rfl, upd_same, lk_no (by show ("begin_stage" : Str) ∉ sideN; decide +kernel), ?_⟩
    walk_at "rd"
    refine ⟨p, dx, t, ps, gs, 0, g, sd0, rfl, upd_same, by rw [upd_ne ntp]; exact ht, hs.upd hp, hn, hgd, ?_⟩
    rw [upd_upd]
    exact k
def progOk (gs : List Sg) : Prop := 1 ≤ gs.length ∧ gs.length ≤ 5 ∧ eachOk gs ∧ orderOk gs
def spRead (a : Ads) : Sp := fun vs H Q E => ∃ l ps gs, vs = [.ref l] ∧ H l = some (.lst (refs ps)) ∧ StAt H ps gs ∧
  (progOk gs → ∀ H' t, Same H H' → H t = none → H' t = some (.tup (refs ps)) → Q (.ref t) H') ∧ (¬ progOk gs → ∀ H', Same H H' → E (.ref a.xBadStages) none H')
theorem ok_read_stages (T : Txt K mg a) : Has P w K mg base (CX1 P w) 5 "read_stages" ["stages"] (spRead a) := by
  have G_check_each := ok_check_each (P := P) (w := w) (base := base) T
  have G_check_order := ok_check_order (P := P) (w := w) (base := base) T
  refine T.f_read_stages.has fun f fd F => F.ok1 sc_read_stages (fun vs H Q E h => ?_) (fun cdv A outer s H vs Q E hr h => ?_)
  · obtain ⟨l, ps, gs, rfl, _⟩ := h; rfl
  · obtain ⟨l, ps, gs, rfl, hl, hg, kq, ke⟩ := h
    refine ⟨_, (pss_cons (ps_if (PW.pt (pw_or (pt_not (pt_val (pe_callB call_isinst (by rfl) T.n_isinstance boot_isinstance (pa_c (pv 0) (pa_c (pe_bT rfl T.n_list boot_list) pa_nil ns_name) ns_name) (he := star_cons ns_name) (hpl := star_any (ns_cons ns_name ns_nil))) (fun _ => rfl))) (pw_or1 (pt_not (pt_chain op_le op_le pe_int (pe_callB call_len_seq (by rfl) T.n_len PySem.boot_len (pa_c (pv 0) pa_nil ns_name) (he := star_cons ns_name) (hpl := star_any ns_nil)) (pe_gI rfl T.c_MOST_STAGES)))))) (pss_one (ps_raise leaves_cx rfl T.x_BadStages.is rfl T.g_BadStages (pa_c (pe_fstr (pf_str (pf_int (pe_gI rfl T.c_MOST_STAGES) pf_nil))) pa_nil ns_js))) pss_nil) (pss_cons (ps_expr (pe_callH1 G_check_each leaves_cx hr (pa_c (pv 0) pa_nil ns_name) (he := star_cons ns_name) (hpl := star_any ns_nil))) (pss_cons (ps_expr (pe_callH1 G_check_order leaves_cx hr (pa_c (pv 0) pa_nil ns_name) (he := star_cons ns_name) (hpl := star_any ns_nil))) (pss_one (ps_ret (pe_callTy call_tuple_of (by rfl) T.n_tuple boot_tuple (pa_c (pv 0) pa_nil ns_name) (he := star_cons ns_name) (hpl := star_any ns_nil))))))), ?_⟩
    have hlen : ((refs ps).length : Int) = gs.length := by rw [refs_len, hg.len]
    walk_at "rd"
    refine ⟨_, _, _, _, true, rfl, rfl, TyOf.lst hl, kit_self, ?_⟩
    walk_at "rd"
    refine ⟨l, _, rfl, .inl (SqL.of hl), ?_⟩
    rw [hlen]
    walk_at "rd"
    have bad : ¬ (1 ≤ gs.length ∧ gs.length ≤ 5) → tRaise a.xBadStages E (tCons (tFs (fStr "stages must be a list of 1 to " (fInt (tC (.int 5)) fNil))) tNil) { nx := fun _ _ => True, rt := Q } (start ["stages"] [.ref l]) H := fun hb => by
      have s1 : (Str.empty ++ ("stages must be a list of 1 to " : Str)).length ≤ 40 := by decide +kernel
      have s2 : (toString (5 : Int) : Str).length ≤ 1 := by decide +kernel
      have hz : 1000 ≤ sizeLine := by decide
      walk_at "rd"
      refine ⟨by omega, 5, rfl, by decide +kernel, by rw [strLen_append]; omega, by rw [strLen_append]; omega, (by show 1 ≤ sizeLine; decide), ?_⟩
      exact ke (fun z => hb ⟨z.1, z.2.1⟩) _ (Same.refl _)
    refine rd_ite (fun h1 => ?_) (fun h1 => ?_)
    · walk_at "rd"
      refine rd_iteN (fun h2 => ?_) (fun h2 => ?_)
      · exact bad (fun z => h2 (by omega))
      · walk_at "rd"
        refine ⟨l, ps, gs, rfl, SqL.of hl, hg, by have := hg.len; omega, by have := hg.len; omega, fun ok1 H1 sm1 => ?_, fun nok H1 sm1 => ke (fun z => nok z.2.2.1) _ sm1⟩
        walk_at "rd"
        refine ⟨l, ps, gs, rfl, SqL.of (sm1 _ _ hl), hg.same sm1, by have := hg.len; omega, by have := hg.len; omega, fun ok2 H2 sm2 => ?_, fun nok H2 sm2 => ke (fun z => nok z.2.2.2) _ (sm1.trans sm2)⟩
        walk_at "rd"
        refine ⟨l, _, rfl, .inl ⟨SqL.of (sm2 _ _ (sm1 _ _ hl)), fun t ht => ?_⟩⟩
        have sm := sm1.trans sm2
        exact kq ⟨by omega, by omega, ok1, ok2⟩ _ t (sm.trans (same_upd ht)) (sm.free ht) upd_same
    · walk_at "rd"
      exact bad (fun z => h1 (by omega))
def clockF (tp : Addr) (turn : Int) (runs : Bool) (fallen : V) (total : Int) : List (Str × V) := [("sides", .ref tp), ("turn", .int turn), ("running", .bl runs), ("fallen", fallen), ("passed", .int total)]
def Keeps (p : Addr) (H H' : Hp) : Prop := ∀ b o, H b = some o → b ≠ p → H' b = some o
def spClockInit (a : Ads) : Sp := fun vs H Q E => ∃ p dx l ps gs, vs = [.ref p, .ref l] ∧ H p = some (.ins a.cClock dx []) ∧ H l = some (.lst (refs ps)) ∧ StAt H ps gs ∧
  (progOk gs → ∀ H' t tp s0 s1 d0 d1 g, gs[0]? = some g → goodSg g = true → Keeps p H H' → H' p = some (.ins a.cClock dx (clockF tp 0 false .non 0)) → H' tp = some (.tup [.ref s0, .ref s1]) → H' t = some (.tup (refs ps)) →
    H' s0 = some (.ins a.cSide d0 (sideF t (beginS g 0 sd0))) → H' s1 = some (.ins a.cSide d1 (sideF t (beginS g 0 sd0))) → s0 ≠ s1 → H s0 = none → H s1 = none → H tp = none → H t = none → Q .non H') ∧
  (¬ progOk gs → ∀ H', Same H H' → E (.ref a.xBadStages) none H')
theorem ok_Clock_init (T : Txt K mg a) : HasI P w K mg base (CX1 P w) 6 a.cClock ["self", "stages"] (spClockInit a) := by
  have G_read_stages := ok_read_stages (P := P) (w := w) (base := base) T
  have G_Side_init := ok_Side_init (P := P) (w := w) (base := base) T
  refine T.i_Clock.has fun f fd F => F.ok1 sc_Clock_init (fun vs H Q E h => ?_) (fun cdv A outer s H vs Q E hr h => ?_)
  · obtain ⟨p, dx, l, ps, gs, rfl, _⟩ := h; rfl
  · obtain ⟨p, dx, l, ps, gs, rfl, hp, hl, hg, kq, ke⟩ := h
    refine ⟨_, (pss_cons (ps_set (i := 2) sc_Clock_init.nd rfl (Or.inl rfl) (pe_callH1 G_read_stages leaves_cx hr (pa_c (pv 1) pa_nil ns_name) (he := star_cons ns_name) (hpl := star_any ns_nil))) (pss_cons (ps_fld (pv 0) (pe_tup (pa_c (pe_makeH G_Side_init T.g_Side hr (pa_c (pv 2) pa_nil ns_name) (he := star_cons ns_name) (hpl := star_any ns_nil)) (pa_c (pe_makeH G_Side_init T.g_Side hr (pa_c (pv 2) pa_nil ns_name) (he := star_cons ns_name) (hpl := star_any ns_nil)) pa_nil ns_call) ns_call)) rfl) (pss_cons (ps_fld (pv 0) pe_int rfl) (pss_cons (ps_fld (pv 0) pe_bl rfl) (pss_cons (ps_fld (pv 0) pe_non rfl) (pss_one (ps_fld (pv 0) pe_int rfl))))))), ?_⟩
    walk_at "rd"
    refine ⟨l, ps, gs, rfl, hl, hg, fun ok H1 t sm1 htn ht => ?_, ke⟩
    obtain ⟨g, hg0⟩ : ∃ g, gs[0]? = some g := ⟨gs[0]'(by have := ok.1; omega), List.getElem?_eq_getElem _⟩
    have hgd : goodSg g = true := ok.2.2.1 0 g hg0
    have hp1 := sm1 _ _ hp
    have hg1 := hg.same sm1
    walk_at "rd"
    intro s0 d0 n0 nd0 ne0
    have t0 : t ≠ s0 := ne_of_none ht n0
    have td0 : t ≠ d0 := ne_of_none ht nd0
    have smA : Same H1 (upd (upd H1 d0 (.own s0)) s0 (.ins a.cSide d0 [])) := fun b o e => by rw [upd_ne (ne_of_none e n0), upd_ne (ne_of_none e nd0)]; exact e
    refine ⟨s0, d0, t, ps, gs, g, rfl, upd_same, smA _ _ ht, hg1.same smA, hg0, hgd, rfl, ?_⟩
    rw [upd_upd]
    have smB : Same H1 (upd (upd H1 d0 (.own s0)) s0 (.ins a.cSide d0 (sideF t (beginS g 0 sd0)))) := fun b o e => by rw [upd_ne (ne_of_none e n0), upd_ne (ne_of_none e nd0)]; exact e
    generalize hHB : upd (upd H1 d0 (.own s0)) s0 (.ins a.cSide d0 (sideF t (beginS g 0 sd0))) = HB at smB
    have hs0 : HB s0 = some (.ins a.cSide d0 (sideF t (beginS g 0 sd0))) := by rw [← hHB]; exact upd_same
    walk_at "rd"
    intro s1 d1 n1 nd1 ne1
    have smC : Same HB (upd (upd HB d1 (.own s1)) s1 (.ins a.cSide d1 [])) := fun b o e => by rw [upd_ne (ne_of_none e n1), upd_ne (ne_of_none e nd1)]; exact e
    refine ⟨s1, d1, t, ps, gs, g, rfl, upd_same, smC _ _ (smB _ _ ht), (hg1.same smB).same smC, hg0, hgd, rfl, ?_⟩
    rw [upd_upd]
    have smD : Same HB (upd (upd HB d1 (.own s1)) s1 (.ins a.cSide d1 (sideF t (beginS g 0 sd0)))) := fun b o e => by rw [upd_ne (ne_of_none e n1), upd_ne (ne_of_none e nd1)]; exact e
    generalize hHD : upd (upd HB d1 (.own s1)) s1 (.ins a.cSide d1 (sideF t (beginS g 0 sd0))) = HD at smD
    have hs1 : HD s1 = some (.ins a.cSide d1 (sideF t (beginS g 0 sd0))) := by rw [← hHD]; exact upd_same
    walk_at "rd"
    refine ⟨by show 2 ≤ sizeLine; decide, fun tp ntp => ?_⟩
    have smE : Same H (upd HD tp (.tup [.ref s0, .ref s1])) := ((sm1.trans smB).trans smD).trans (same_upd ntp)
    have hpE := smE _ _ hp
    walk_at "rd"
    refine rd_sfldx hpE T.cl_Clock T.a_Clock_sides (by show 0 < 1000; decide) ?_
    rw [show putF "sides" (V.ref tp) ([] : List (Str × V)) = ([("sides", V.ref tp)] : List (Str × V)) from putF_end (by show ("sides" : Str) ∉ ([] : List Str); decide +kernel)]
    walk_at "rd"
    refine rd_sfldx upd_same T.cl_Clock T.a_Clock_turn (by show 1 < 1000; decide) ?_
    rw [show putF "turn" (V.int 0) ([("sides", V.ref tp)] : List (Str × V)) = ([("sides", V.ref tp), ("turn", V.int 0)] : List (Str × V)) from putF_end (by show ("turn" : Str) ∉ (["sides"] : List Str); decide +kernel), upd_upd]
    walk_at "rd"
    refine rd_sfldx upd_same T.cl_Clock T.a_Clock_running (by show 2 < 1000; decide) ?_
    rw [show putF "running" (V.bl false) ([("sides", V.ref tp), ("turn", V.int 0)] : List (Str × V)) = ([("sides", V.ref tp), ("turn", V.int 0), ("running", V.bl false)] : List (Str × V)) from putF_end (by show ("running" : Str) ∉ (["sides", "turn"] : List Str); decide +kernel), upd_upd]
    walk_at "rd"
    refine rd_sfldx upd_same T.cl_Clock T.a_Clock_fallen (by show 3 < 1000; decide) ?_
    rw [show putF "fallen" (V.non) ([("sides", V.ref tp), ("turn", V.int 0), ("running", V.bl false)] : List (Str × V)) = ([("sides", V.ref tp), ("turn", V.int 0), ("running", V.bl false), ("fallen", V.non)] : List (Str × V)) from putF_end (by show ("fallen" : Str) ∉ (["sides", "turn", "running"] : List Str); decide +kernel), upd_upd]
    walk_at "rd"
    refine rd_sfldx upd_same T.cl_Clock T.a_Clock_passed (by show 4 < 1000; decide) ?_
    rw [show putF "passed" (V.int 0) ([("sides", V.ref tp), ("turn", V.int 0), ("running", V.bl false), ("fallen", V.non)] : List (Str × V)) = ([("sides", V.ref tp), ("turn", V.int 0), ("running", V.bl false), ("fallen", V.non), ("passed", V.int 0)] : List (Str × V)) from putF_end (by show ("passed" : Str) ∉ (["sides", "turn", "running", "fallen"] : List Str); decide +kernel), upd_upd]
    walk_at "rd"
    have h01 : s0 ≠ s1 := ne_of_none hs0 n1
    have nz : ∀ b, H b = none → b ≠ p := fun b z y => by rw [y, hp] at z; cases z
    have f0 := sm1.free n0
    have f1 := (sm1.trans smB).free n1
    have fp := ((sm1.trans smB).trans smD).free ntp
    have e0 : s0 ≠ tp := ne_of_none (smD _ _ hs0) ntp
    have e1 : s1 ≠ tp := ne_of_none hs1 ntp
    have et : t ≠ tp := ne_of_none (smD _ _ (smB _ _ ht)) ntp
    refine kq ok _ t tp s0 s1 d0 d1 g hg0 hgd (fun b o e nb => ?_) upd_same ?_ ?_ ?_ ?_ h01 f0 f1 fp htn
    · rw [upd_ne nb]; exact smE _ _ e
    · rw [upd_ne (nz _ fp)]; exact upd_same
    · rw [upd_ne (nz _ htn), upd_ne et]; exact smD _ _ (smB _ _ ht)
    · rw [upd_ne (nz _ f0), upd_ne e0]; exact smD _ _ hs0
    · rw [upd_ne (nz _ f1), upd_ne e1]; exact hs1
def spCell (K : PySem.W.Frag) : Sp := fun vs H Q _ => ∃ l ns k, vs = [.ref l, .int k] ∧ SqL K H l (List.map V.int ns) ∧ ∀ r : Int, Q (.int r) H
theorem ok_law_cell (T : Txt K mg a) : Has P w K mg base CX0 1 "_law_cell" ["_law_script", "_law_k"] (spCell K) := by
  refine T.f_law_cell.has fun f fd F => F.ok sc_law_cell (fun vs H Q E h => ?_) (fun cdv A outer s H vs Q E hr h => ?_)
  · obtain ⟨l, ns, k, rfl, _⟩ := h; rfl
  · obtain ⟨l, ns, n, rfl, hl, k⟩ := h
    refine ⟨_, (pss_cons (ps_if (pt_truth (pv 0) (fun _ => rfl)) (pss_one (ps_ret (pe_ix ix_list (pv 0) (pe_op op_mod (pv 1) (pe_callB call_len_seq (by rfl) T.n_len PySem.boot_len (pa_c (pv 0) pa_nil ns_name) (he := star_cons ns_name) (hpl := star_any ns_nil))) (fun _ _ => rfl)))) pss_nil) (pss_one (ps_ret pe_int))), ?_⟩
    walk_at "rd"
    refine ⟨_, .inl ⟨_, hl, rfl⟩, ?_⟩
    refine rd_iteNB (fun he => ?_) (fun he => ?_)
    · walk_at "rd"
      refine ⟨l, _, rfl, .inl hl, ?_⟩
      have hpos : 0 < ns.length := by
        cases ns with
        | nil => cases he
        | cons _ _ => exact Nat.succ_pos _
      have hm : ((List.map V.int ns).length : Int) = ns.length := by rw [List.length_map]
      rw [hm]
      refine rd_I (show (0 : Int) < ns.length by omega) ?_
      have hlt := Int.emod_lt_of_pos n (show (0 : Int) < ns.length by omega)
      have hge := Int.emod_nonneg n (show (ns.length : Int) ≠ 0 by omega)
      obtain ⟨j, hj⟩ : ∃ j : Nat, n % (ns.length : Int) = (j : Int) := ⟨(n % (ns.length : Int)).toNat, by omega⟩
      have hjl : j < ns.length := by omega
      refine rd_ixL hl (v := .int ns[j]) ?_ (k _)
      rw [hj]
      refine atI_nat ?_
      rw [List.getElem?_map, List.getElem?_eq_getElem hjl]
      rfl
    · walk_at "rd"
      exact k 0
theorem ok_law_mix (T : Txt K mg a) : Has P w K mg base CX0 2 "_law_mix" ["_law_script", "_law_k"] (spCell K) := by
  have G_law_cell := ok_law_cell (P := P) (w := w) (base := base) T
  refine T.f_law_mix.has fun f fd F => F.ok sc_law_mix (fun vs H Q E h => ?_) (fun cdv A outer s H vs Q E hr h => ?_)
  · obtain ⟨l, ns, k, rfl, _⟩ := h; rfl
  · obtain ⟨l, ns, n, rfl, hl, k⟩ := h
    refine ⟨_, (pss_cons (ps_set (i := 2) sc_law_mix.nd rfl (Or.inl rfl) (pe_op op_mod (pe_op op_add (pe_callH G_law_cell hr (pa_c (pv 0) (pa_c (pv 1) pa_nil ns_name) ns_name) (he := star_cons ns_name) (hpl := star_any (ns_cons ns_name ns_nil))) (pe_op op_mul pe_int (pe_op op_add (pv 1) pe_int))) pe_int)) (pss_cons (ps_set (i := 2) sc_law_mix.nd rfl (Or.inl rfl) (pe_op op_mod (pe_op op_mul (pv 2) pe_int) pe_int)) (pss_one (ps_ret (pe_op op_mod (pe_op op_add (pe_op op_mul (pe_op op_fdiv (pv 2) pe_int) pe_int) (pv 2)) pe_int))))), ?_⟩
    walk_at "rd"
    refine ⟨l, ns, n, rfl, hl, fun r => ?_⟩
    walk_at "rd"
    exact k _
theorem isW_ne {g : Sg} (h : g.isW "over" = true) : g.isW "main" = false := by
  have hz : V.str g.word = V.str "over" := of_decide_eq_true h
  show decide (V.str g.word = V.str "main") = false
  rw [hz]
  decide +kernel
theorem main_endless {g : Sg} (hm : g.isW "main" = true) : g.endless = decide (g.one = V.non) := by simp [Sg.endless, hm]
def isMv (g : Sg) : Prop := ∃ m t w e, g = .five "main" (some m) t w e ∧ goodSg g = true
def isEn (g : Sg) : Prop := ∃ t w e, g = .five "main" none t w e ∧ goodSg g = true
def isOv (g : Sg) : Prop := ∃ p t, g = .three "over" p t ∧ goodSg g = true
def natG : Sg → Prop
  | .five z _ _ _ _ => z = "main"
  | .three z _ _ => z = "over"
def tailOk (gs : List Sg) : Prop := (∃ g, gs = [g] ∧ (isEn g ∨ isOv g)) ∨ ∃ g o, gs = [g, o] ∧ isEn g ∧ isOv o
theorem isW_main {m : Option Int} {t : Int} {w : Str} {e : Int} : (Sg.five "main" m t w e).isW "main" = true := decide_eq_true rfl
theorem isW_over {p t : Int} : (Sg.three "over" p t).isW "over" = true := decide_eq_true rfl
theorem isW_mo {m : Option Int} {t : Int} {w : Str} {e : Int} : (Sg.five "main" m t w e).isW "over" = false := by
  show decide (V.str "main" = V.str "over") = false
  decide +kernel
theorem may_mv {l g : Sg} (h : isMv g) : may l g = true := by
  obtain ⟨m, t, w, e, rfl, _⟩ := h
  unfold may
  rw [isW_mo, main_endless isW_main]
  simp [Sg.one, optV]
theorem may_en {l g : Sg} (h : isEn g) (hl : isOv l) : may l g = true := by
  obtain ⟨t, w, e, rfl, _⟩ := h
  obtain ⟨p, t2, rfl, _⟩ := hl
  unfold may
  rw [isW_mo, isW_over]; rfl
def chk : List Sg → Bool
  | [] => false
  | [g] => g.isW "over" || g.endless
  | e :: l :: r => may l e && chk (l :: r)
theorem chk_order : ∀ {gs : List Sg}, chk gs = true → orderOk gs
  | [], h => by cases h
  | [g], h => by
    refine ⟨fun j e l he hl => ?_, fun g' hg' => ?_⟩
    · have := (List.getElem?_eq_some_iff.mp hl).1
      simp at this
    · simp at hg'
      subst hg'
      simpa [chk] using h
  | e :: l :: r, h => by
    simp only [chk, Bool.and_eq_true] at h
    obtain ⟨h1, h2⟩ := chk_order h.2
    refine ⟨fun j e' l' he hl => ?_, fun g' hg' => ?_⟩
    · cases j with
      | zero => simp at he hl; subst he hl; exact h.1
      | succ j => exact h1 j e' l' (by simpa using he) (by simpa using hl)
    · exact h2 g' (by simpa using hg')
theorem chk_tail {gs : List Sg} (h : tailOk gs) : chk gs = true := by
  rcases h with ⟨g, rfl, h | h⟩ | ⟨g, o, rfl, h1, h2⟩
  · obtain ⟨t, w, e, rfl, _⟩ := h
    simp only [chk]
    rw [main_endless isW_main]
    simp [Sg.one, optV]
  · obtain ⟨p, t, rfl, _⟩ := h
    simp only [chk]
    rw [isW_over]; rfl
  · have hm := may_en h1 h2
    obtain ⟨p, t, rfl, _⟩ := h2
    simp only [chk]
    rw [hm, isW_over]; rfl
theorem chk_mvs : ∀ {ms ts : List Sg}, (∀ g ∈ ms, isMv g) → chk ts = true → chk (ms ++ ts) = true
  | [], ts, _, h => h
  | m :: ms, ts, hm, h => by
    have ih := chk_mvs (ms := ms) (fun g hg => hm g (List.mem_cons_of_mem _ hg)) h
    have h1 := hm m (List.mem_cons_self ..)
    show chk (m :: (ms ++ ts)) = true
    cases hr : ms ++ ts with
    | nil => rw [hr] at ih; cases ih
    | cons l r =>
      rw [hr] at ih
      simp only [chk, may_mv h1, Bool.true_and]
      exact ih
theorem tail_good {gs : List Sg} (h : tailOk gs) : (∀ g ∈ gs, goodSg g = true ∧ natG g) ∧ 1 ≤ gs.length ∧ gs.length ≤ 2 := by
  have en : ∀ g, isEn g → goodSg g = true ∧ natG g := fun g ⟨t, w, e, x, y⟩ => ⟨y, by subst x; rfl⟩
  have ov : ∀ g, isOv g → goodSg g = true ∧ natG g := fun g ⟨t, w, x, y⟩ => ⟨y, by subst x; rfl⟩
  rcases h with ⟨g, rfl, h | h⟩ | ⟨g, o, rfl, h1, h2⟩
  · exact ⟨fun x hx => by simp at hx; subst hx; exact en _ h, by simp, by simp⟩
  · exact ⟨fun x hx => by simp at hx; subst hx; exact ov _ h, by simp, by simp⟩
  · refine ⟨fun x hx => ?_, by simp, by simp⟩
    simp at hx
    rcases hx with rfl | rfl
    · exact en _ h1
    · exact ov _ h2
structure Drawn (gs : List Sg) : Prop where
  ok : progOk gs
  nat : ∀ g ∈ gs, natG g
  len : gs.length ≤ 4
  pt : ∃ ms ts, gs = ms ++ ts ∧ (∀ g ∈ ms, isMv g) ∧ tailOk ts ∧ ms.length ≤ 2
theorem drawn_of {ms ts : List Sg} (hm : ∀ g ∈ ms, isMv g) (ht : tailOk ts) (hl : ms.length ≤ 2) : Drawn (ms ++ ts) := by
  have h1 := tail_good ht
  refine ⟨⟨by rw [List.length_append]; omega, by rw [List.length_append]; omega, fun j g hj => ?_, chk_order (chk_mvs hm (chk_tail ht))⟩, fun g hg => ?_, by rw [List.length_append]; omega, ⟨ms, ts, rfl, hm, ht, hl⟩⟩
  · rcases List.mem_append.mp (List.mem_of_getElem? hj) with z | z
    · obtain ⟨m, t, w, e, _, y⟩ := hm g z; exact y
    · exact (h1.1 g z).1
  · rcases List.mem_append.mp hg with z | z
    · obtain ⟨m, t, w, e, x, y⟩ := hm g z; subst x; rfl
    · exact (h1.1 g z).2
theorem mk_mv {m t e : Int} {w : Str} (hm : inn m 1 200 = true) (ht : inn t 1 1000000 = true) (hw : inV (.str w) ways = true) (he : inn e 0 1000000 = true) : isMv (.five "main" (some m) t w e) :=
  ⟨m, t, w, e, rfl, by unfold goodSg; rw [if_pos isW_main]; simp only [goodMain, mOk, hm, ht, hw, he, Bool.and_self]⟩
theorem mk_en {t e : Int} {w : Str} (ht : inn t 1 1000000 = true) (hw : inV (.str w) ways = true) (he : inn e 0 1000000 = true) : isEn (.five "main" none t w e) :=
  ⟨t, w, e, rfl, by unfold goodSg; rw [if_pos isW_main]; simp only [goodMain, mOk, ht, hw, he, Bool.and_self]⟩
theorem mk_ov {p t : Int} (hp : inn p 1 200 = true) (ht : inn t 1 1000000 = true) : isOv (.three "over" p t) :=
  ⟨p, t, rfl, by unfold goodSg; rw [isW_ne isW_over, isW_over]; simp only [goodOver, hp, ht, Bool.and_self]; rfl⟩
theorem inn_mk {i lo hi : Int} (h1 : lo ≤ i) (h2 : i ≤ hi) : inn i lo hi = true := by simp [inn, h1, h2]
theorem four {i : Int} (h0 : 0 ≤ i) (h1 : i < 4) : ∃ w, atI ways i = some (.str w) ∧ inV (.str w) ways = true := by
  have : i = 0 ∨ i = 1 ∨ i = 2 ∨ i = 3 := by omega
  rcases this with rfl | rfl | rfl | rfl
  · exact ⟨"plain", rfl, by decide +kernel⟩
  · exact ⟨"add", rfl, by decide +kernel⟩
  · exact ⟨"back", rfl, by decide +kernel⟩
  · exact ⟨"wait", rfl, by decide +kernel⟩
def freeT : Sg → Int → Int
  | .five _ _ _ w e, u => if V.str w = V.str "wait" then max 0 (e - u) else 0
  | .three _ _ _, _ => 0
def extraT : Sg → Int → Int
  | .five _ _ _ w e, u => if V.str w = V.str "add" then e else if V.str w = V.str "back" then min e u else 0
  | .three _ _ _, _ => 0
def beginAt (gs : List Sg) (n : Nat) (s : Sd) : Sd := match gs[n]? with
  | some g => beginS g n s
  | none => s
def goOnG (gs : List Sg) (g : Sg) (s : Sd) : Sd := match g with
  | .three _ _ t => if s.periods - 1 > 0 then { s with periods := s.periods - 1, left := t } else { s with periods := s.periods - 1 }
  | .five _ none _ _ _ => if s.num + 1 < gs.length then beginAt gs (s.num + 1) s else s
  | .five _ (some _) _ _ _ => s
def goOn (gs : List Sg) (s : Sd) : Sd := match gs[s.num]? with
  | some g => goOnG gs g s
  | none => s
def adv (g : Sg) (n : Int) (s : Sd) : Sd := { s with passed := s.passed + n, left := s.left - max 0 (n - freeT g s.passed) }
def settle (gs : List Sg) (s : Sd) : Sd := if s.left = 0 then goOn gs s else s
def goneT (g : Sg) (n : Int) (s : Sd) : Int := min n (freeT g s.passed + s.left)
def tick (gs : List Sg) (g : Sg) (s : Sd) : Sd := settle gs (adv g 1 s)
def runT (gs : List Sg) : Nat → Sd → Nat × Sd
  | 0, s => (0, s)
  | n + 1, s => if s.left = 0 then (0, s) else match gs[s.num]? with
    | none => (0, s)
    | some g => ((runT gs n (tick gs g s)).1 + 1, (runT gs n (tick gs g s)).2)
theorem run_zero (gs : List Sg) (s : Sd) : runT gs 0 s = (0, s) := rfl
theorem run_left0 (gs : List Sg) (n : Nat) (s : Sd) (h : s.left = 0) : runT gs n s = (0, s) := by
  cases n with
  | zero => rfl
  | succ n => simp [runT, h]
theorem run_succ (gs : List Sg) (n : Nat) (s : Sd) (g : Sg) (hl : s.left ≠ 0) (hg : gs[s.num]? = some g) : runT gs (n + 1) s = ((runT gs n (tick gs g s)).1 + 1, (runT gs n (tick gs g s)).2) := by
  simp [runT, hl, hg]
theorem free_nn (g : Sg) (u : Int) : 0 ≤ freeT g u := by
  unfold freeT; split
  · split <;> omega
  · omega
theorem free_adv (g : Sg) (n u : Int) (hn : 0 ≤ n) : freeT g (u + n) = max 0 (freeT g u - n) := by
  unfold freeT; split
  · split <;> omega
  · omega
theorem adv_adv (g : Sg) (m n : Int) (s : Sd) (hm : 0 ≤ m) (hn : 0 ≤ n) : adv g n (adv g m s) = adv g (m + n) s := by
  unfold adv
  have h1 := free_adv g m s.passed hm
  have h2 := free_nn g s.passed
  simp only [h1]
  congr 1
  · omega
  · omega
theorem run_big (gs : List Sg) (g : Sg) : ∀ (n : Nat) (s : Sd), 0 < s.left → gs[s.num]? = some g →
    runT gs (n + 1) s = ((goneT g (n + 1 : Nat) s).toNat + (runT gs (n + 1 - (goneT g (n + 1 : Nat) s).toNat) (settle gs (adv g (goneT g (n + 1 : Nat) s) s))).1,
      (runT gs (n + 1 - (goneT g (n + 1 : Nat) s).toNat) (settle gs (adv g (goneT g (n + 1 : Nat) s) s))).2)
  | 0, s, hl, hg => by
    have hf := free_nn g s.passed
    have e1 : goneT g ((0 + 1 : Nat) : Int) s = 1 := by unfold goneT; omega
    rw [e1, run_succ gs 0 s g (by omega) hg]
    simp [tick, run_zero]
  | n + 1, s, hl, hg => by
    have hf := free_nn g s.passed
    by_cases h1 : freeT g s.passed + s.left = 1
    · have e1 : goneT g ((n + 1 + 1 : Nat) : Int) s = 1 := by unfold goneT; omega
      rw [e1, run_succ gs (n + 1) s g (by omega) hg]
      simp [tick]
      omega
    · have hadv : (adv g 1 s).left ≠ 0 := by unfold adv; simp only; omega
      have ht : tick gs g s = adv g 1 s := by unfold tick settle; rw [if_neg hadv]
      have hl1 : 0 < (adv g 1 s).left := by unfold adv; simp only; omega
      have ih := run_big gs g n (adv g 1 s) hl1 hg
      have e2 : goneT g ((n + 1 + 1 : Nat) : Int) s = 1 + goneT g ((n + 1 : Nat) : Int) (adv g 1 s) := by
        have h2 := free_adv g 1 s.passed (by omega)
        unfold goneT adv
        simp only [h2]
        omega
      have g0 : 0 ≤ goneT g ((n + 1 : Nat) : Int) (adv g 1 s) := by
        have := free_nn g (adv g 1 s).passed
        unfold goneT; omega
      have e3 : adv g (1 + goneT g ((n + 1 : Nat) : Int) (adv g 1 s)) s = adv g (goneT g ((n + 1 : Nat) : Int) (adv g 1 s)) (adv g 1 s) := (adv_adv g 1 _ s (by omega) g0).symm
      rw [run_succ gs (n + 1) s g (by omega) hg, ht, ih, e2, e3]
      have e4 : (1 + goneT g ((n + 1 : Nat) : Int) (adv g 1 s)).toNat = (goneT g ((n + 1 : Nat) : Int) (adv g 1 s)).toNat + 1 := by omega
      rw [e4]
      have e5 : n + 1 + 1 - ((goneT g ((n + 1 : Nat) : Int) (adv g 1 s)).toNat + 1) = n + 1 - (goneT g ((n + 1 : Nat) : Int) (adv g 1 s)).toNat := by omega
      rw [e5]
      congr 1
      omega
theorem run_add (gs : List Sg) : ∀ (a b : Nat) (s : Sd), (runT gs (a + b) s) = ((runT gs a s).1 + (runT gs b (runT gs a s).2).1, (runT gs b (runT gs a s).2).2)
  | 0, b, s => by simp [run_zero]
  | a + 1, b, s => by
    by_cases hl : s.left = 0
    · simp only [run_left0 gs _ s hl]
    · cases hg : gs[s.num]? with
      | none =>
        have e : ∀ n, runT gs n s = (0, s) := fun n => by cases n <;> simp [runT, hl, hg]
        simp [e]
      | some g =>
        have e : a + 1 + b = (a + b) + 1 := by omega
        rw [e, run_succ gs (a + b) s g hl hg, run_succ gs a s g hl hg, run_add gs a b]
        simp; omega
structure WF (gs : List Sg) (s : Sd) : Prop where
  num : s.num < gs.length
  left : 0 ≤ s.left
  pas : 0 ≤ s.passed
theorem good_t {g : Sg} (h : goodSg g = true) : 1 ≤ g.t := by
  cases g with
  | five z m t w e =>
    have hm := (good_five h).1
    unfold goodSg at h
    rw [if_pos hm] at h
    simp only [goodMain, inn, Bool.and_eq_true, decide_eq_true_eq] at h
    exact h.1.1.2.1
  | three z p t =>
    have ho := good_three h
    unfold goodSg at h
    rw [ho.2, ho.1] at h
    simp only [goodOver, inn, Bool.false_eq_true, if_false, Bool.and_eq_true, decide_eq_true_eq] at h
    exact h.2.2.1
theorem begin_wf {gs : List Sg} (he : eachOk gs) {n : Nat} {g : Sg} {s : Sd} (hg : gs[n]? = some g) (hl : 0 ≤ s.left) (hpa : 0 ≤ s.passed) : WF gs (beginS g n s) ∧ 0 < (beginS g n s).left := by
  have h1 := good_t (he n g hg)
  have h2 := (List.getElem?_eq_some_iff.mp hg).1
  cases g with
  | five z m t w e =>
    have ht : (1 : Int) ≤ t := h1
    exact ⟨⟨h2, by show 0 ≤ s.left + t; omega, hpa⟩, by show 0 < s.left + t; omega⟩
  | three z p t =>
    have ht : (1 : Int) ≤ t := h1
    exact ⟨⟨h2, by show 0 ≤ t; omega, hpa⟩, by show 0 < t; omega⟩
theorem goOn_wf {gs : List Sg} (he : eachOk gs) {s : Sd} (h : WF gs s) : WF gs (goOn gs s) := by
  unfold goOn
  have hn := h.num
  rw [List.getElem?_eq_getElem hn]
  have hgood := he s.num _ (List.getElem?_eq_getElem hn)
  generalize gs[s.num] = g at hgood
  have h1 := good_t hgood
  cases g with
  | three z p t =>
    have ht : (1 : Int) ≤ t := h1
    show WF gs (if s.periods - 1 > 0 then _ else _)
    split
    · exact ⟨hn, by show 0 ≤ t; omega, h.pas⟩
    · exact ⟨hn, h.left, h.pas⟩
  | five z m t w e =>
    cases m with
    | some k => exact h
    | none =>
      show WF gs (if s.num + 1 < gs.length then _ else _)
      split
      · rename_i hlt
        unfold beginAt
        rw [List.getElem?_eq_getElem hlt]
        exact (begin_wf he (List.getElem?_eq_getElem hlt) h.left h.pas).1
      · exact h
theorem settle_wf {gs : List Sg} (he : eachOk gs) {s : Sd} (h : WF gs s) : WF gs (settle gs s) := by
  unfold settle
  split
  · exact goOn_wf he h
  · exact h
theorem adv_wf {gs : List Sg} {g : Sg} {s : Sd} {n : Int} (h : WF gs s) (h0 : 0 ≤ n) (hn : n ≤ freeT g s.passed + s.left) : WF gs (adv g n s) := by
  have h1 := free_nn g s.passed
  have h2 := h.left
  have h3 := h.pas
  exact ⟨h.num, by show 0 ≤ s.left - max 0 (n - freeT g s.passed); omega, by show 0 ≤ s.passed + n; omega⟩
theorem run_wf {gs : List Sg} (he : eachOk gs) : ∀ (n : Nat) (s : Sd), WF gs s → WF gs (runT gs n s).2
  | 0, s, h => h
  | n + 1, s, h => by
    by_cases hl : s.left = 0
    · rw [run_left0 _ _ _ hl]; exact h
    · rw [run_succ gs n s _ hl (List.getElem?_eq_getElem h.num)]
      refine run_wf he n _ (settle_wf he (adv_wf h (by omega) ?_))
      have hnum := h.num
      have h1 := free_nn gs[s.num] s.passed
      have h2 := h.left
      omega
def countS (gs : List Sg) (g : Sg) (s : Sd) : Sd := if V.int (s.made + 1) = g.one then beginAt gs (s.num + 1) { s with made := s.made + 1 } else { s with made := s.made + 1 }
def moveG (gs : List Sg) (g : Sg) (s : Sd) : Sd := match g with
  | .three _ _ t => { s with moves := s.moves + 1, left := t, passed := 0 }
  | .five _ _ _ _ _ => { countS gs g { s with moves := s.moves + 1, left := s.left + extraT g s.passed } with passed := 0 }
def moveS (gs : List Sg) (s : Sd) : Sd := match gs[s.num]? with
  | some g => moveG gs g s
  | none => s
theorem extra_nn {g : Sg} (h : goodSg g = true) {u : Int} (hu : 0 ≤ u) : 0 ≤ extraT g u := by
  cases g with
  | three z p t => exact Int.le_refl _
  | five z m t w e =>
    have hm := (good_five h).1
    unfold goodSg at h
    rw [if_pos hm] at h
    simp only [goodMain, inn, Bool.and_eq_true, decide_eq_true_eq] at h
    have he := h.2.1
    show 0 ≤ (if V.str w = V.str "add" then e else if V.str w = V.str "back" then min e u else 0)
    split
    · exact he
    · split <;> omega
theorem next_there {gs : List Sg} (ho : orderOk gs) {n : Nat} {z w : Str} {k t e : Int} (hg : gs[n]? = some (.five z (some k) t w e)) (hgood : goodSg (.five z (some k) t w e) = true) : n + 1 < gs.length := by
  have hlt := (List.getElem?_eq_some_iff.mp hg).1
  by_cases h : n + 1 < gs.length
  · exact h
  · exfalso
    have := ho.2 _ (by rw [show gs.length - 1 = n by omega]; exact hg)
    rcases this with z1 | z1
    · rw [(good_five hgood).2] at z1; cases z1
    · rw [main_endless (good_five hgood).1] at z1
      simp [Sg.one, optV] at z1
theorem move_wf {gs : List Sg} (he : eachOk gs) (ho : orderOk gs) {s : Sd} (h : WF gs s) : WF gs (moveS gs s) ∧ (0 < s.left → 0 < (moveS gs s).left) := by
  unfold moveS
  have hn := h.num
  rw [List.getElem?_eq_getElem hn]
  have hgood := he s.num _ (List.getElem?_eq_getElem hn)
  have hgi := List.getElem?_eq_getElem hn
  generalize gs[s.num] = g at hgood hgi
  have h1 := good_t hgood
  have hp := h.pas
  have h2 := extra_nn hgood hp
  have h3 := h.left
  cases g with
  | three z p t =>
    have ht : (1 : Int) ≤ t := h1
    exact ⟨⟨hn, by show 0 ≤ t; omega, Int.le_refl 0⟩, fun _ => by show 0 < t; omega⟩
  | five z m t w e =>
    show WF gs { countS gs _ _ with passed := 0 } ∧ _
    have key : WF gs (countS gs (.five z m t w e) { s with moves := s.moves + 1, left := s.left + extraT (.five z m t w e) s.passed }) ∧ (0 < s.left → 0 < (countS gs (.five z m t w e) { s with moves := s.moves + 1, left := s.left + extraT (.five z m t w e) s.passed }).left) := by
      unfold countS
      split
      · rename_i hq
        cases m with
        | none => cases hq
        | some k =>
          have hlt := next_there ho hgi hgood
          show WF gs (beginAt gs (s.num + 1) _) ∧ _
          unfold beginAt
          rw [List.getElem?_eq_getElem hlt]
          have := begin_wf he (List.getElem?_eq_getElem hlt) (s := { s with moves := s.moves + 1, left := s.left + extraT (.five z (some k) t w e) s.passed, made := s.made + 1 }) (by show 0 ≤ s.left + _; omega) hp
          exact ⟨this.1, fun _ => this.2⟩
      · exact ⟨⟨hn, by show 0 ≤ s.left + _; omega, hp⟩, fun z => by show 0 < s.left + _; omega⟩
    exact ⟨⟨key.1.num, key.1.left, Int.le_refl 0⟩, key.2⟩
theorem gs_get {gs : List Sg} {n : Nat} (h : n < gs.length) : gs[n]? = some gs[n] := List.getElem?_eq_getElem h
def spFree : Sp := fun vs H Q _ => ∃ q g u, vs = [.ref q, .int u] ∧ H q = some (.tup (Sg.vs g)) ∧ goodSg g = true ∧ Q (.int (freeT g u)) H
theorem ok_ticks_not_counted (T : Txt K mg a) : Has P w K mg base CX0 2 "ticks_not_counted" ["stage", "passed"] spFree := by
  have G_is_over := ok_is_over (P := P) (w := w) (base := base) T
  refine T.f_ticks_not_counted.has fun f fd F => F.ok sc_ticks_not_counted (fun vs H Q E h => ?_) (fun cdv A outer s H vs Q E hr h => ?_)
  · obtain ⟨q, g, u, rfl, _⟩ := h; rfl
  · obtain ⟨q, g, u, rfl, hq, hgd, k⟩ := h
    refine ⟨_, (pss_cons (ps_if (PW.pt (pw_or (pt_val (pe_callH G_is_over hr (pa_c (pv 0) pa_nil ns_name) (he := star_cons ns_name) (hpl := star_any ns_nil)) (fun _ => rfl)) (pw_or1 (pt_cmpR op_ne (pe_ix ix_tup (pv 0) pe_int (fun _ _ => rfl)) pe_str (nomark _))))) (pss_one (ps_ret pe_int)) pss_nil) (pss_one (ps_ret (pe_callB (call_max2 rfl) (by rfl) T.n_max boot_max (pa_c pe_int (pa_c (pe_op op_sub (pe_ix ix_tup (pv 0) pe_int (fun _ _ => rfl)) (pv 1)) pa_nil ns_bin) ns_con) (he := star_cons ns_con) (hpl := star_any (ns_cons ns_bin ns_nil)))))), ?_⟩
    walk_at "rd"
    refine ⟨q, g, rfl, hq, ?_⟩
    walk_at "rd"
    cases g with
    | three z p t =>
      rw [(good_three hgd).1]
      walk_at "rd"
      exact k
    | five z m t w e =>
      rw [(good_five hgd).2]
      walk_at "rd"
      refine rd_ixT (v := .str w) (SqT.of hq) rfl ?_
      walk_at "rd"
      refine rd_iteN (fun hw => ?_) (fun hw => ?_)
      · walk_at "rd"
        have e1 : freeT (.five z m t w e) u = 0 := by unfold freeT; simp only; rw [if_neg hw]
        rw [e1] at k
        exact k
      · walk_at "rd"
        refine rd_ixT (v := .int e) (SqT.of hq) rfl ?_
        walk_at "rd"
        refine ⟨0, e - u, rfl, ?_⟩
        have e1 : freeT (.five z m t w e) u = if e - u > 0 then e - u else 0 := by
          unfold freeT; simp only; rw [if_pos hw]; split <;> omega
        rw [e1] at k
        exact k
def spExtra : Sp := fun vs H Q _ => ∃ q z m t w e u, vs = [.ref q, .int u] ∧ H q = some (.tup (Sg.vs (.five z m t w e))) ∧ Q (.int (extraT (.five z m t w e) u)) H
theorem ok_ticks_for_move (T : Txt K mg a) : Has P w K mg base CX0 1 "ticks_for_move" ["stage", "passed"] spExtra := by
  refine T.f_ticks_for_move.has fun f fd F => F.ok sc_ticks_for_move (fun vs H Q E h => ?_) (fun cdv A outer s H vs Q E hr h => ?_)
  · obtain ⟨q, z, m, t, w, e, u, rfl, _⟩ := h; rfl
  · obtain ⟨q, z, m, t, w, e, u, rfl, hq, k⟩ := h
    have ex : extraT (.five z m t w e) u = if V.str w = V.str "add" then e else if V.str w = V.str "back" then min e u else 0 := rfl
    refine ⟨_, (pss_cons (ps_if (pt_cmpR op_eq (pe_ix ix_tup (pv 0) pe_int (fun _ _ => rfl)) pe_str (nomark _)) (pss_one (ps_ret (pe_ix ix_tup (pv 0) pe_int (fun _ _ => rfl)))) pss_nil) (pss_cons (ps_if (pt_cmpR op_eq (pe_ix ix_tup (pv 0) pe_int (fun _ _ => rfl)) pe_str (nomark _)) (pss_one (ps_ret (pe_callB (call_min2 rfl) (by rfl) T.n_min boot_min (pa_c (pe_ix ix_tup (pv 0) pe_int (fun _ _ => rfl)) (pa_c (pv 1) pa_nil ns_name) ns_sub) (he := star_cons ns_sub) (hpl := star_any (ns_cons ns_name ns_nil))))) pss_nil) (pss_one (ps_ret pe_int)))), ?_⟩
    walk_at "rd"
    refine rd_ixT (v := .str w) (SqT.of hq) rfl ?_
    walk_at "rd"
    refine rd_ite (fun hw => ?_) (fun hw => ?_)
    · walk_at "rd"
      refine rd_ixT (v := .int e) (SqT.of hq) rfl ?_
      rw [ex, if_pos hw] at k
      walk_at "rd"
      exact k
    · rw [ex, if_neg hw] at k
      walk_at "rd"
      refine rd_ixT (v := .str w) (SqT.of hq) rfl ?_
      walk_at "rd"
      refine rd_ite (fun hb => ?_) (fun hb => ?_)
      · rw [if_pos hb] at k
        walk_at "rd"
        refine rd_ixT (v := .int e) (SqT.of hq) rfl ?_
        walk_at "rd"
        refine ⟨e, u, rfl, ?_⟩
        have e1 : min e u = if u < e then u else e := by split <;> omega
        rw [e1] at k
        exact k
      · rw [if_neg hb] at k
        walk_at "rd"
        exact k
def spFallen (a : Ads) : Sp := fun vs H Q _ => ∃ p dx t s, vs = [.ref p] ∧ H p = some (.ins a.cSide dx (sideF t s)) ∧ Q (.bl (decide (s.left = 0))) H
theorem dec_int0 {i j : Int} : decide (V.int i = V.int j) = decide (i = j) := by
  by_cases h : i = j
  · subst h; simp
  · rw [decide_eq_false h, decide_eq_false (fun z => h (V.int.inj z))]
theorem ok_has_fallen (T : Txt K mg a) : HasM P w K mg base CX0 1 a.cSide "has_fallen" ["self"] (spFallen a) := by
  refine T.m_Side_has_fallen.has fun f fd F => F.ok sc_Side_has_fallen (fun vs H Q E h => ?_) (fun cdv A outer s H vs Q E hr h => ?_)
  · obtain ⟨p, dx, t, s, rfl, _⟩ := h; rfl
  · obtain ⟨p, dx, t, sd, rfl, hp, k⟩ := h
    refine ⟨_, (pss_one (ps_ret (pe_cmpR op_eq (pe_fld (pv 0) rfl) pe_int (nomark _)))), ?_⟩
    walk_at "rd"
    refine ⟨_, _, _, _, _, rfl, hp, T.cl_Side, T.a_Side_left, sl_left _ _, ?_⟩
    walk_at "rd"
    rw [dec_int0]
    exact k
structure SidAt (a : Ads) (H : Hp) (p dx t : Addr) (ps : List Addr) (gs : List Sg) (s : Sd) : Prop where
  ob : H p = some (.ins a.cSide dx (sideF t s))
  tt : H t = some (.tup (refs ps))
  st : StAt H ps gs
  num : s.num < gs.length
theorem SidAt.stage {H : Hp} {p dx t : Addr} {ps : List Addr} {gs : List Sg} {s : Sd} (x : SidAt a H p dx t ps gs s) : ∃ q, (refs ps)[s.num]? = some (.ref q) ∧ H q = some (.tup (gs[s.num]'x.num).vs) ∧ q ≠ p ∧ t ≠ p := by
  have hl : s.num < ps.length := by rw [x.st.len]; exact x.num
  have h1 := x.st.at_ s.num _ _ (List.getElem?_eq_getElem hl) (gs_get x.num)
  refine ⟨ps[s.num], ?_, h1, ne_of h1 x.ob (by intro z; cases z), ne_of x.tt x.ob (by intro z; cases z)⟩
  unfold refs; rw [List.getElem?_map, List.getElem?_eq_getElem hl]; rfl
theorem SidAt.upd {H : Hp} {p dx t : Addr} {ps : List Addr} {gs : List Sg} {s s' : Sd} (x : SidAt a H p dx t ps gs s) (hn : s'.num < gs.length) : SidAt a (L2.upd H p (.ins a.cSide dx (sideF t s'))) p dx t ps gs s' :=
  ⟨upd_same, by rw [upd_ne (ne_of x.tt x.ob (by intro z; cases z))]; exact x.tt, x.st.upd x.ob, hn⟩
def spGoOn (a : Ads) : Sp := fun vs H Q _ => ∃ p dx t ps gs s, vs = [.ref p] ∧ SidAt a H p dx t ps gs s ∧ eachOk gs ∧ Q .non (upd H p (.ins a.cSide dx (sideF t (goOn gs s))))
theorem upd_self {H : Hp} {p : Addr} {o : HO} (h : H p = some o) : upd H p o = H := by
  funext b
  unfold upd
  split
  · rename_i e; subst e; exact h.symm
  · rfl
theorem ok_go_on (T : Txt K mg a) : HasM P w K mg base CX0 3 a.cSide "go_on_if_possible" ["self"] (spGoOn a) := by
  have G_is_over := ok_is_over (P := P) (w := w) (base := base) T
  have G_is_endless := ok_is_endless (P := P) (w := w) (base := base) T
  have G_ticks_of := ok_ticks_of (P := P) (w := w) (base := base) T
  have G_Side_begin_stage := ok_begin_stage (P := P) (w := w) (base := base) T
  refine T.m_Side_go_on_if_possible.has fun f fd F => F.ok sc_Side_go_on_if_possible (fun vs H Q E h => ?_) (fun cdv A outer s H vs Q E hr h => ?_)
  · obtain ⟨p, dx, t, ps, gs, s, rfl, _⟩ := h; rfl
  · obtain ⟨p, dx, t, ps, gs, sd, rfl, hs, heach, k⟩ := h
    obtain ⟨q, hq1, hq2, nqp, ntp⟩ := hs.stage
    have hgood := heach sd.num _ (gs_get hs.num)
    have ego : goOn gs sd = goOnG gs (gs[sd.num]'hs.num) sd := by unfold goOn; rw [gs_get hs.num]
    rw [ego] at k
    generalize hG : gs[sd.num]'hs.num = g at hq2 hgood k
    refine ⟨_, (pss_cons (ps_set (i := 1) sc_Side_go_on_if_possible.nd rfl (Or.inl rfl) (pe_ix ix_tup (pe_fld (pv 0) rfl) (pe_fld (pv 0) rfl) (fun _ _ => rfl))) (pss_one (ps_if (pt_val (pe_callH G_is_over hr (pa_c (pv 1) pa_nil ns_name) (he := star_cons ns_name) (hpl := star_any ns_nil)) (fun _ => rfl)) (pss_cons (ps_fldaug (pv 0) pe_int in_sub) (pss_one (ps_if (pt_cmpR op_gt (pe_fld (pv 0) rfl) pe_int (nomark _)) (pss_one (ps_fld (pv 0) (pe_callH G_ticks_of hr (pa_c (pv 1) pa_nil ns_name) (he := star_cons ns_name) (hpl := star_any ns_nil)) rfl)) pss_nil))) (pss_one (ps_if (PW.pt (pw_and (pt_val (pe_callH G_is_endless hr (pa_c (pv 1) pa_nil ns_name) (he := star_cons ns_name) (hpl := star_any ns_nil)) (fun _ => rfl)) (pw_and1 (pt_cmpR op_lt (pe_op op_add (pe_fld (pv 0) rfl) pe_int) (pe_callB call_len_seq (by rfl) T.n_len PySem.boot_len (pa_c (pe_fld (pv 0) rfl) pa_nil ns_att) (he := star_cons ns_att) (hpl := star_any ns_nil)) (nomark _))))) (pss_one (ps_expr (pe_methH (pv 0) T.cl_Side G_Side_begin_stage hr (pa_c (pe_op op_add (pe_fld (pv 0) rfl) pe_int) pa_nil ns_bin) (hst := star_cons ns_bin) (hpl := star_any ns_nil)))) pss_nil))))), ?_⟩
    walk_at "rd"
    refine ⟨_, _, _, _, _, rfl, hs.ob, T.cl_Side, T.a_Side_stages, sl_stages _ _, ?_⟩
    walk_at "rd"
    refine ⟨_, _, _, _, _, rfl, hs.ob, T.cl_Side, T.a_Side_number, sl_num _ _, ?_⟩
    refine rd_ixT (SqT.of hs.tt) (atI_nat hq1) ?_
    walk_at "rd"
    refine ⟨q, g, rfl, hq2, ?_⟩
    walk_at "rd"
    cases g with
    | three z pp tt =>
      rw [(good_three hgood).1]
      walk_at "rd"
      refine ⟨_, _, _, _, _, rfl, hs.ob, T.cl_Side, T.a_Side_periods, sl_periods _ _, ?_⟩
      walk_at "rd"
      refine ⟨sd.periods, 1, rfl, rfl, dx, _, hs.ob, sf_len _ _, ?_⟩
      rw [sf_periods]
      walk_at "rd"
      refine ⟨_, _, _, _, _, rfl, upd_same, T.cl_Side, T.a_Side_periods, sl_periods _ _, ?_⟩
      walk_at "rd"
      refine rd_ite (fun hpos => ?_) (fun hpos => ?_)
      · walk_at "rd"
        refine ⟨q, .three z pp tt, rfl, by rw [upd_ne nqp]; exact hq2, ?_⟩
        walk_at "rd"
        refine rd_sfldx upd_same T.cl_Side T.a_Side_left (sf_len _ _) ?_
        rw [sf_left, upd_upd]
        have e1 : goOnG gs (.three z pp tt) sd = { sd with periods := sd.periods - 1, left := tt } := by unfold goOnG; simp only; rw [if_pos hpos]
        rw [e1] at k
        exact k
      · walk_at "rd"
        have e1 : goOnG gs (.three z pp tt) sd = { sd with periods := sd.periods - 1 } := by unfold goOnG; simp only; rw [if_neg hpos]
        rw [e1] at k
        exact k
    | five z m tt ww e =>
      rw [(good_five hgood).2]
      walk_at "rd"
      refine ⟨q, .five z m tt ww e, rfl, hq2, ?_⟩
      have een : (Sg.five z m tt ww e).endless = decide (optV m = V.non) := main_endless (good_five hgood).1
      rw [een]
      walk_at "rd"
      cases m with
      | some n =>
        refine rd_ite (fun h => by cases h) (fun _ => ?_)
        walk_at "rd"
        have e1 : goOnG gs (.five z (some n) tt ww e) sd = sd := rfl
        rw [e1, upd_self hs.ob] at k
        exact k
      | none =>
        refine rd_ite (fun _ => ?_) (fun h => absurd rfl h)
        walk_at "rd"
        refine ⟨_, _, _, _, _, rfl, hs.ob, T.cl_Side, T.a_Side_number, sl_num _ _, ?_⟩
        walk_at "rd"
        refine ⟨_, _, _, _, _, rfl, hs.ob, T.cl_Side, T.a_Side_stages, sl_stages _ _, ?_⟩
        walk_at "rd"
        refine ⟨t, _, rfl, .inr (SqT.of hs.tt), ?_⟩
        walk_at "rd"
        have hlen : ((refs ps).length : Int) = gs.length := by rw [refs_len, hs.st.len]
        rw [hlen]
        have e0 : goOnG gs (.five z none tt ww e) sd = if sd.num + 1 < gs.length then beginAt gs (sd.num + 1) sd else sd := rfl
        refine rd_ite (fun hlt => ?_) (fun hlt => ?_)
        · have hlt' : sd.num + 1 < gs.length := by omega
          walk_at "rd"
          refine ⟨p, dx, _, rfl, hs.ob, sl_no _ _ (by decide +kernel), ?_⟩
          walk_at "rd"
          refine ⟨_, _, _, _, _, rfl, hs.ob, T.cl_Side, T.a_Side_number, sl_num _ _, ?_⟩
          walk_at "rd"
          refine ⟨p, dx, t, ps, gs, sd.num + 1, gs[sd.num + 1], sd, rfl, hs.ob, hs.tt, hs.st, gs_get hlt', heach _ _ (gs_get hlt'), ?_⟩
          walk_at "rd"
          have e1 : goOnG gs (.five z none tt ww e) sd = beginS gs[sd.num + 1] (sd.num + 1) sd := by rw [e0, if_pos hlt']; unfold beginAt; rw [gs_get hlt']
          rw [e1] at k
          exact k
        · walk_at "rd"
          rw [e0, if_neg (by omega), upd_self hs.ob] at k
          exact k
def spPassE (a : Ads) : Sp := fun vs H Q _ => ∃ p dx t ps gs s n, ∃ h : s.num < gs.length, vs = [.ref p, .int n] ∧ SidAt a H p dx t ps gs s ∧ eachOk gs ∧
  Q (.int (goneT (gs[s.num]'h) n s)) (upd H p (.ins a.cSide dx (sideF t (settle gs (adv (gs[s.num]'h) (goneT (gs[s.num]'h) n s) s)))))
theorem ok_pass_until (T : Txt K mg a) : HasM P w K mg base CX0 4 a.cSide "pass_until_empty" ["self", "ticks"] (spPassE a) := by
  have G_ticks_not_counted := ok_ticks_not_counted (P := P) (w := w) (base := base) T
  have G_Side_go_on_if_possible := ok_go_on (P := P) (w := w) (base := base) T
  refine T.m_Side_pass_until_empty.has fun f fd F => F.ok sc_Side_pass_until_empty (fun vs H Q E h => ?_) (fun cdv A outer s H vs Q E hr h => ?_)
  · obtain ⟨p, dx, t, ps, gs, s, n, h, rfl, _⟩ := h; rfl
  · obtain ⟨p, dx, t, ps, gs, sd, n, hnum, rfl, hs, heach, k⟩ := h
    obtain ⟨q, hq1, hq2, nqp, ntp⟩ := hs.stage
    have hgood := heach sd.num _ (gs_get hs.num)
    generalize hG : gs[sd.num]'hs.num = g at hq2 hgood k
    refine ⟨_, (pss_cons (ps_set (i := 2) sc_Side_pass_until_empty.nd rfl (Or.inl rfl) (pe_callH G_ticks_not_counted hr (pa_c (pe_ix ix_tup (pe_fld (pv 0) rfl) (pe_fld (pv 0) rfl) (fun _ _ => rfl)) (pa_c (pe_fld (pv 0) rfl) pa_nil ns_att) ns_sub) (he := star_cons ns_sub) (hpl := star_any (ns_cons ns_att ns_nil)))) (pss_cons (ps_set (i := 3) sc_Side_pass_until_empty.nd rfl (Or.inl rfl) (pe_callB (call_min2 rfl) (by rfl) T.n_min boot_min (pa_c (pv 1) (pa_c (pe_op op_add (pv 2) (pe_fld (pv 0) rfl)) pa_nil ns_bin) ns_name) (he := star_cons ns_name) (hpl := star_any (ns_cons ns_bin ns_nil)))) (pss_cons (ps_fldaug (pv 0) (pv 3) in_add) (pss_cons (ps_fldaug (pv 0) (pe_callB (call_max2 rfl) (by rfl) T.n_max boot_max (pa_c pe_int (pa_c (pe_op op_sub (pv 3) (pv 2)) pa_nil ns_bin) ns_con) (he := star_cons ns_con) (hpl := star_any (ns_cons ns_bin ns_nil))) in_sub) (pss_cons (ps_if (pt_cmpR op_eq (pe_fld (pv 0) rfl) pe_int (nomark _)) (pss_one (ps_expr (pe_methH0 (pv 0) T.cl_Side G_Side_go_on_if_possible hr))) pss_nil) (pss_one (ps_ret (pv 3)))))))), ?_⟩
    walk_at "rd"
    refine ⟨_, _, _, _, _, rfl, hs.ob, T.cl_Side, T.a_Side_stages, sl_stages _ _, ?_⟩
    walk_at "rd"
    refine ⟨_, _, _, _, _, rfl, hs.ob, T.cl_Side, T.a_Side_number, sl_num _ _, ?_⟩
    refine rd_ixT (SqT.of hs.tt) (atI_nat hq1) ?_
    walk_at "rd"
    refine ⟨_, _, _, _, _, rfl, hs.ob, T.cl_Side, T.a_Side_passed, sl_passed _ _, ?_⟩
    walk_at "rd"
    refine ⟨q, g, sd.passed, rfl, hq2, hgood, ?_⟩
    walk_at "rd"
    refine ⟨_, _, _, _, _, rfl, hs.ob, T.cl_Side, T.a_Side_left, sl_left _ _, ?_⟩
    walk_at "rd"
    refine ⟨n, freeT g sd.passed + sd.left, rfl, ?_⟩
    have e1 : (if freeT g sd.passed + sd.left < n then freeT g sd.passed + sd.left else n) = goneT g n sd := by unfold goneT; split <;> omega
    rw [e1]
    generalize hgo : goneT g n sd = go at k
    walk_at "rd"
    refine ⟨_, _, _, _, _, rfl, hs.ob, T.cl_Side, T.a_Side_passed, sl_passed _ _, ?_⟩
    walk_at "rd"
    refine ⟨sd.passed, go, rfl, rfl, dx, _, hs.ob, sf_len _ _, ?_⟩
    rw [sf_passed]
    walk_at "rd"
    refine ⟨_, _, _, _, _, rfl, upd_same, T.cl_Side, T.a_Side_left, sl_left _ _, ?_⟩
    walk_at "rd"
    refine ⟨0, go - freeT g sd.passed, rfl, ?_⟩
    have e2 : (if go - freeT g sd.passed > 0 then go - freeT g sd.passed else 0) = max 0 (go - freeT g sd.passed) := by split <;> omega
    rw [e2]
    refine ⟨sd.left, _, rfl, rfl, dx, _, upd_same, sf_len _ _, ?_⟩
    rw [sf_left, upd_upd]
    have hadv : ({ { sd with passed := sd.passed + go } with left := sd.left - max 0 (go - freeT g sd.passed) } : Sd) = adv g go sd := rfl
    rw [hadv]
    have hs2 : SidAt a (upd H p (.ins a.cSide dx (sideF t (adv g go sd)))) p dx t ps gs (adv g go sd) := hs.upd hs.num
    generalize hA : adv g go sd = sa at hs2 k
    walk_at "rd"
    refine ⟨_, _, _, _, _, rfl, hs2.ob, T.cl_Side, T.a_Side_left, sl_left _ _, ?_⟩
    walk_at "rd"
    refine rd_ite (fun h0 => ?_) (fun h0 => ?_)
    · have h0' : sa.left = 0 := V.int.inj h0
      walk_at "rd"
      refine ⟨p, dx, _, rfl, hs2.ob, sl_no _ _ (by decide +kernel), ?_⟩
      walk_at "rd"
      refine ⟨p, dx, t, ps, gs, sa, rfl, hs2, heach, ?_⟩
      rw [upd_upd]
      walk_at "rd"
      have e3 : settle gs sa = goOn gs sa := by unfold settle; rw [if_pos h0']
      rw [e3] at k
      exact k
    · have h0' : ¬ sa.left = 0 := fun z => h0 (by rw [z])
      walk_at "rd"
      have e3 : settle gs sa = sa := by unfold settle; rw [if_neg h0']
      rw [e3] at k
      exact k
def spPass (a : Ads) : Sp := fun vs H Q _ => ∃ p dx t ps gs s, ∃ n : Nat, vs = [.ref p, .int n] ∧ SidAt a H p dx t ps gs s ∧ WF gs s ∧ eachOk gs ∧
  Q (.int (runT gs n s).1) (upd H p (.ins a.cSide dx (sideF t (runT gs n s).2)))
theorem ok_pass_ticks (T : Txt K mg a) : HasM P w K mg base CX0 5 a.cSide "pass_ticks" ["self", "ticks"] (spPass a) := by
  have G_Side_has_fallen := ok_has_fallen (P := P) (w := w) (base := base) T
  have G_Side_pass_until_empty := ok_pass_until (P := P) (w := w) (base := base) T
  refine T.m_Side_pass_ticks.has fun f fd F => F.ok sc_Side_pass_ticks (fun vs H Q E h => ?_) (fun cdv A outer s H vs Q E hr h => ?_)
  · obtain ⟨p, dx, t, ps, gs, s, n, rfl, _⟩ := h; rfl
  · obtain ⟨p, dx, t, ps, gs, sd, n, rfl, hs, hwf, heach, k⟩ := h
    refine ⟨_, (pss_cons (ps_set (i := 2) sc_Side_pass_ticks.nd rfl (Or.inl rfl) pe_int) (pss_cons (ps_while PassesOwn.never (PW.pt (pw_and (pt_cmpR op_lt (pv 2) (pv 1) (nomark _)) (pw_and1 (pt_not (pt_val (pe_methH0 (pv 0) T.cl_Side G_Side_has_fallen hr) (fun _ => rfl)))))) (pss_one (ps_aug (i := 2) sc_Side_pass_ticks.nd rfl (Or.inl rfl) (pe_methH (pv 0) T.cl_Side G_Side_pass_until_empty hr (pa_c (pe_op op_sub (pv 1) (pv 2)) pa_nil ns_bin) (hst := star_cons ns_bin) (hpl := star_any ns_nil)) ip_add))) (pss_one (ps_ret (pv 2))))), ?_⟩
    walk_at "rd"
    refine ⟨fun m σ H1 => ∃ j s', m = n - j ∧ j ≤ n ∧ σ = [some (.ref p), some (.int n), some (.int j)] ∧ H1 = upd H p (.ins a.cSide dx (sideF t s')) ∧ WF gs s' ∧ runT gs n sd = (j + (runT gs (n - j) s').1, (runT gs (n - j) s').2),
      ⟨n, 0, sd, rfl, Nat.zero_le _, rfl, (upd_self hs.ob).symm, hwf, by simp⟩, ?_⟩
    rintro m σ H1 ⟨j, s', rfl, hjn, rfl, rfl, hwf', hrun⟩
    have hs' : SidAt a (upd H p (.ins a.cSide dx (sideF t s'))) p dx t ps gs s' := hs.upd hwf'.num
    have fin : (n - j = 0 ∨ s'.left = 0) → Q (.int j) (upd H p (.ins a.cSide dx (sideF t s'))) := fun hh => by
      have e1 : runT gs (n - j) s' = (0, s') := by
        rcases hh with z | z
        · rw [z]; rfl
        · exact run_left0 _ _ _ z
      rw [e1] at hrun
      rw [hrun] at k
      exact k
    walk_at "rd"
    refine rd_ite (fun hlt => ?_) (fun hlt => ?_)
    · walk_at "rd"
      refine ⟨p, dx, _, rfl, hs'.ob, sl_no _ _ (by decide +kernel), ?_⟩
      walk_at "rd"
      refine ⟨p, dx, t, s', rfl, hs'.ob, ?_⟩
      walk_at "rd"
      refine rd_iteN (fun hl => ?_) (fun hl => ?_)
      · have hpos : 0 < s'.left := by have := hwf'.left; omega
        obtain ⟨i, hi⟩ : ∃ i, n - j = i + 1 := ⟨n - j - 1, by omega⟩
        have hbig := run_big gs _ i s' hpos (gs_get hwf'.num)
        have hgn : goneT (gs[s'.num]'hwf'.num) ((i + 1 : Nat) : Int) s' ≤ ((i + 1 : Nat) : Int) := by unfold goneT; omega
        have hgp : 1 ≤ goneT (gs[s'.num]'hwf'.num) ((i + 1 : Nat) : Int) s' := by
          have := free_nn (gs[s'.num]'hwf'.num) s'.passed
          unfold goneT; omega
        have hgf : goneT (gs[s'.num]'hwf'.num) ((i + 1 : Nat) : Int) s' ≤ freeT (gs[s'.num]'hwf'.num) s'.passed + s'.left := by unfold goneT; omega
        refine ⟨_, fun σ' H' hN => hN, ?_⟩
        refine ⟨_, rfl, ?_⟩
        walk_at "rd"
        refine ⟨p, dx, _, rfl, hs'.ob, sl_no _ _ (by decide +kernel), ?_⟩
        walk_at "rd"
        have hij : (n : Int) - (j : Int) = ((i + 1 : Nat) : Int) := by omega
        rw [hij]
        refine ⟨p, dx, t, ps, gs, s', _, hwf'.num, rfl, hs', heach, ?_⟩
        rw [upd_upd]
        generalize hgo : goneT (gs[s'.num]'hwf'.num) ((i + 1 : Nat) : Int) s' = go at *
        obtain ⟨c, hc⟩ : ∃ c : Nat, go = (c : Int) := ⟨go.toNat, by omega⟩
        subst hc
        refine ⟨_, _, rfl, rfl, ?_⟩
        refine ⟨n - (j + c), by omega, j + c, _, rfl, by omega, ?_, rfl, settle_wf heach (adv_wf hwf' (by omega) hgf), ?_⟩
        · show [some (V.ref p), some (V.int n), some (V.int ((j : Int) + (c : Int)))] = [some (V.ref p), some (V.int n), some (V.int ((j + c : Nat) : Int))]
          rw [Int.natCast_add]
        · rw [hrun, hi, hbig]
          have ec : (c : Int).toNat = c := Int.toNat_natCast c
          rw [ec, show i + 1 - c = n - (j + c) by omega]
          simp only
          congr 1
          omega
      · walk_at "rd"
        exact fin (.inr hl)
    · walk_at "rd"
      exact fin (.inl (by omega))
def spCount (a : Ads) : Sp := fun vs H Q _ => ∃ p dx t ps gs s q g, vs = [.ref p, .ref q] ∧ SidAt a H p dx t ps gs s ∧ progOk gs ∧ gs[s.num]? = some g ∧ g.isW "over" = false ∧ H q = some (.tup (Sg.vs g)) ∧ Q .non (upd H p (.ins a.cSide dx (sideF t (countS gs g s))))
theorem ok_count_move (T : Txt K mg a) : HasM P w K mg base CX0 3 a.cSide "count_move_in_stage" ["self", "stage"] (spCount a) := by
  have G_Side_begin_stage := ok_begin_stage (P := P) (w := w) (base := base) T
  refine T.m_Side_count_move_in_stage.has fun f fd F => F.ok sc_Side_count_move_in_stage (fun vs H Q E h => ?_) (fun cdv A outer s H vs Q E hr h => ?_)
  · obtain ⟨p, dx, t, ps, gs, s, q, g, rfl, _⟩ := h; rfl
  · obtain ⟨p, dx, t, ps, gs, sd, q, g, rfl, hs, hok, hgi, hno, hq, k⟩ := h
    have nqp : q ≠ p := ne_of hq hs.ob (by intro z; cases z)
    have hgood := hok.2.2.1 _ _ hgi
    refine ⟨_, (pss_cons (ps_fldaug (pv 0) pe_int in_add) (pss_one (ps_if (pt_cmpR op_eq (pe_fld (pv 0) rfl) (pe_ix ix_tup (pv 1) pe_int (fun _ _ => rfl)) (nomark _)) (pss_one (ps_expr (pe_methH (pv 0) T.cl_Side G_Side_begin_stage hr (pa_c (pe_op op_add (pe_fld (pv 0) rfl) pe_int) pa_nil ns_bin) (hst := star_cons ns_bin) (hpl := star_any ns_nil)))) pss_nil))), ?_⟩
    walk_at "rd"
    refine ⟨_, _, _, _, _, rfl, hs.ob, T.cl_Side, T.a_Side_moves_in_stage, sl_made _ _, ?_⟩
    walk_at "rd"
    refine ⟨sd.made, 1, rfl, rfl, dx, _, hs.ob, sf_len _ _, ?_⟩
    rw [sf_made]
    have hs2 : SidAt a (upd H p (.ins a.cSide dx (sideF t { sd with made := sd.made + 1 }))) p dx t ps gs { sd with made := sd.made + 1 } := hs.upd hs.num
    walk_at "rd"
    refine ⟨_, _, _, _, _, rfl, hs2.ob, T.cl_Side, T.a_Side_moves_in_stage, sl_made _ _, ?_⟩
    walk_at "rd"
    refine rd_ixT (SqT.of (by rw [upd_ne nqp]; exact hq)) g.at1 ?_
    have hsc : scal (.int (sd.made + 1)) g.one = true := by
      cases g with
      | three z pp tt => rfl
      | five z m tt ww e => cases m <;> rfl
    refine rd_eq hsc ?_
    walk_at "rd"
    refine rd_ite (fun he => ?_) (fun he => ?_)
    · have hlt : sd.num + 1 < gs.length := by
        cases g with
        | three z pp tt => rw [(good_three hgood).1] at hno; cases hno
        | five z m tt ww e =>
          cases m with
          | none => cases he
          | some n => exact next_there hok.2.2.2 hgi hgood
      walk_at "rd"
      refine ⟨p, dx, _, rfl, hs2.ob, sl_no _ _ (by decide +kernel), ?_⟩
      walk_at "rd"
      refine ⟨_, _, _, _, _, rfl, hs2.ob, T.cl_Side, T.a_Side_number, sl_num _ _, ?_⟩
      walk_at "rd"
      refine ⟨p, dx, t, ps, gs, sd.num + 1, gs[sd.num + 1], { sd with made := sd.made + 1 }, rfl, hs2.ob, hs2.tt, hs2.st, gs_get hlt, hok.2.2.1 _ _ (gs_get hlt), ?_⟩
      rw [upd_upd]
      walk_at "rd"
      have e1 : countS gs g sd = beginS gs[sd.num + 1] (sd.num + 1) { sd with made := sd.made + 1 } := by unfold countS; rw [if_pos he]; unfold beginAt; rw [gs_get hlt]
      rw [e1] at k
      exact k
    · walk_at "rd"
      have e1 : countS gs g sd = { sd with made := sd.made + 1 } := by unfold countS; rw [if_neg he]
      rw [e1] at k
      exact k
def spMove (a : Ads) : Sp := fun vs H Q _ => ∃ p dx t ps gs s, vs = [.ref p] ∧ SidAt a H p dx t ps gs s ∧ progOk gs ∧ Q .non (upd H p (.ins a.cSide dx (sideF t (moveS gs s))))
theorem ok_make_move (T : Txt K mg a) : HasM P w K mg base CX0 4 a.cSide "make_move" ["self"] (spMove a) := by
  have G_is_over := ok_is_over (P := P) (w := w) (base := base) T
  have G_ticks_of := ok_ticks_of (P := P) (w := w) (base := base) T
  have G_ticks_for_move := ok_ticks_for_move (P := P) (w := w) (base := base) T
  have G_Side_count_move_in_stage := ok_count_move (P := P) (w := w) (base := base) T
  refine T.m_Side_make_move.has fun f fd F => F.ok sc_Side_make_move (fun vs H Q E h => ?_) (fun cdv A outer s H vs Q E hr h => ?_)
  · obtain ⟨p, dx, t, ps, gs, s, rfl, _⟩ := h; rfl
  · obtain ⟨p, dx, t, ps, gs, sd, rfl, hs, hok, k⟩ := h
    obtain ⟨q, hq1, hq2, nqp, ntp⟩ := hs.stage
    have hgood := hok.2.2.1 sd.num _ (gs_get hs.num)
    have emv : moveS gs sd = moveG gs (gs[sd.num]'hs.num) sd := by unfold moveS; rw [gs_get hs.num]
    rw [emv] at k
    have hgi := gs_get hs.num
    generalize hG : gs[sd.num]'hs.num = g at hq2 hgood k hgi
    refine ⟨_, (pss_cons (ps_set (i := 1) sc_Side_make_move.nd rfl (Or.inl rfl) (pe_ix ix_tup (pe_fld (pv 0) rfl) (pe_fld (pv 0) rfl) (fun _ _ => rfl))) (pss_cons (ps_fldaug (pv 0) pe_int in_add) (pss_cons (ps_if (pt_val (pe_callH G_is_over hr (pa_c (pv 1) pa_nil ns_name) (he := star_cons ns_name) (hpl := star_any ns_nil)) (fun _ => rfl)) (pss_one (ps_fld (pv 0) (pe_callH G_ticks_of hr (pa_c (pv 1) pa_nil ns_name) (he := star_cons ns_name) (hpl := star_any ns_nil)) rfl)) (pss_cons (ps_fldaug (pv 0) (pe_callH G_ticks_for_move hr (pa_c (pv 1) (pa_c (pe_fld (pv 0) rfl) pa_nil ns_att) ns_name) (he := star_cons ns_name) (hpl := star_any (ns_cons ns_att ns_nil))) in_add) (pss_one (ps_expr (pe_methH (pv 0) T.cl_Side G_Side_count_move_in_stage hr (pa_c (pv 1) pa_nil ns_name) (hst := star_cons ns_name) (hpl := star_any ns_nil)))))) (pss_one (ps_fld (pv 0) pe_int rfl))))), ?_⟩
    walk_at "rd"
    refine ⟨_, _, _, _, _, rfl, hs.ob, T.cl_Side, T.a_Side_stages, sl_stages _ _, ?_⟩
    walk_at "rd"
    refine ⟨_, _, _, _, _, rfl, hs.ob, T.cl_Side, T.a_Side_number, sl_num _ _, ?_⟩
    refine rd_ixT (SqT.of hs.tt) (atI_nat hq1) ?_
    walk_at "rd"
    refine ⟨_, _, _, _, _, rfl, hs.ob, T.cl_Side, T.a_Side_moves, sl_moves _ _, ?_⟩
    walk_at "rd"
    refine ⟨sd.moves, 1, rfl, rfl, dx, _, hs.ob, sf_len _ _, ?_⟩
    rw [sf_moves]
    have hs2 : SidAt a (upd H p (.ins a.cSide dx (sideF t { sd with moves := sd.moves + 1 }))) p dx t ps gs { sd with moves := sd.moves + 1 } := hs.upd hs.num
    have hq3 : (upd H p (.ins a.cSide dx (sideF t { sd with moves := sd.moves + 1 }))) q = some (.tup g.vs) := by rw [upd_ne nqp]; exact hq2
    walk_at "rd"
    refine ⟨q, g, rfl, hq3, ?_⟩
    walk_at "rd"
    cases g with
    | three z pp tt =>
      rw [(good_three hgood).1]
      walk_at "rd"
      refine ⟨q, .three z pp tt, rfl, hq3, ?_⟩
      walk_at "rd"
      refine rd_sfldx hs2.ob T.cl_Side T.a_Side_left (sf_len _ _) ?_
      rw [sf_left, upd_upd]
      walk_at "rd"
      refine rd_sfldx upd_same T.cl_Side T.a_Side_passed (sf_len _ _) ?_
      rw [sf_passed, upd_upd]
      exact k
    | five z m tt ww e =>
      rw [(good_five hgood).2]
      walk_at "rd"
      refine ⟨_, _, _, _, _, rfl, hs2.ob, T.cl_Side, T.a_Side_left, sl_left _ _, ?_⟩
      walk_at "rd"
      refine ⟨_, _, _, _, _, rfl, hs2.ob, T.cl_Side, T.a_Side_passed, sl_passed _ _, ?_⟩
      walk_at "rd"
      refine ⟨q, z, m, tt, ww, e, sd.passed, rfl, hq3, ?_⟩
      refine ⟨sd.left, _, rfl, rfl, dx, _, hs2.ob, sf_len _ _, ?_⟩
      rw [sf_left, upd_upd]
      have hs3 : SidAt a (upd H p (.ins a.cSide dx (sideF t { sd with moves := sd.moves + 1, left := sd.left + extraT (.five z m tt ww e) sd.passed }))) p dx t ps gs { sd with moves := sd.moves + 1, left := sd.left + extraT (.five z m tt ww e) sd.passed } := hs.upd hs.num
      walk_at "rd"
      refine ⟨p, dx, _, rfl, hs3.ob, sl_no _ _ (by decide +kernel), ?_⟩
      walk_at "rd"
      refine ⟨p, dx, t, ps, gs, _, q, .five z m tt ww e, rfl, hs3, hok, hgi, (good_five hgood).2, by rw [upd_ne nqp]; exact hq2, ?_⟩
      rw [upd_upd]
      walk_at "rd"
      refine rd_sfldx upd_same T.cl_Side T.a_Side_passed (sf_len _ _) ?_
      rw [sf_passed, upd_upd]
      exact k
def spRight (a : Ads) : Sp := fun vs H Q E => ∃ p dx t s n, vs = [.ref p, .int n] ∧ H p = some (.ins a.cSide dx (sideF t s)) ∧
  ((1 ≤ s.left + n ∧ s.left + n ≤ 10000000) → Q .non (upd H p (.ins a.cSide dx (sideF t { s with left := s.left + n })))) ∧ (¬ (1 ≤ s.left + n ∧ s.left + n ≤ 10000000) → E (.ref a.xBadTicks) none H)
theorem ok_put_right (T : Txt K mg a) : HasM P w K mg base (CX1 P w) 1 a.cSide "put_right" ["self", "ticks"] (spRight a) := by
  refine T.m_Side_put_right.has fun f fd F => F.ok1 sc_Side_put_right (fun vs H Q E h => ?_) (fun cdv A outer s H vs Q E hr h => ?_)
  · obtain ⟨p, dx, t, s, n, rfl, _⟩ := h; rfl
  · obtain ⟨p, dx, t, sd, n, rfl, hp, kq, ke⟩ := h
    refine ⟨_, (pss_cons (ps_if (pt_not (pt_chain op_le op_le (pe_gI rfl T.c_LEAST_LEFT) (pe_op op_add (pe_fld (pv 0) rfl) (pv 1)) (pe_gI rfl T.c_MOST_LEFT))) (pss_one (ps_raise leaves_cx rfl T.x_BadTicks.is rfl T.g_BadTicks (pa_c (pe_fstr (pf_str (pf_int (pe_gI rfl T.c_LEAST_LEFT) (pf_str (pf_int (pe_gI rfl T.c_MOST_LEFT) (pf_str pf_nil)))))) pa_nil ns_js))) pss_nil) (pss_one (ps_fldaug (pv 0) (pv 1) in_add))), ?_⟩
    have bad : ¬ (1 ≤ sd.left + n ∧ sd.left + n ≤ 10000000) → tRaise a.xBadTicks E (tCons (tFs (fStr "a side must have " (fInt (tC (.int 1)) (fStr " to " (fInt (tC (.int 10000000)) (fStr " ticks then" fNil)))))) tNil)
        { nx := tSeq tNext (sFldAug K (tVar 0) (tVar 1) rAdd "left") { nx := fun _ H' => Q .non H', rt := Q }, rt := Q } (start ["self", "ticks"] [.ref p, .int n]) H := fun hb => by
      have s1 : (Str.empty ++ ("a side must have " : Str)).length ≤ 40 := by decide +kernel
      have s2 : (toString (1 : Int) : Str).length ≤ 20 := by decide +kernel
      have s3 : (Str.ofString " to ").length ≤ 20 := by decide +kernel
      have s4 : (toString (10000000 : Int) : Str).length ≤ 20 := by decide +kernel
      have s5 : (Str.ofString " ticks then").length ≤ 20 := by decide +kernel
      have hz : 1000 ≤ sizeLine := by decide
      walk_at "rd"
      refine ⟨by omega, 1, rfl, by decide +kernel, by rw [strLen_append]; omega, by rw [strLen_append, strLen_append]; omega, 10000000, rfl, by decide +kernel, by rw [strLen_append, strLen_append, strLen_append]; omega,
        by rw [strLen_append, strLen_append, strLen_append, strLen_append]; omega, by rw [strLen_append, strLen_append, strLen_append, strLen_append]; omega, (by show 1 ≤ sizeLine; decide), ?_⟩
      exact ke hb
    walk_at "rd"
    refine ⟨_, _, _, _, _, rfl, hp, T.cl_Side, T.a_Side_left, sl_left _ _, ?_⟩
    walk_at "rd"
    refine rd_ite (fun h1 => ?_) (fun h1 => ?_)
    · walk_at "rd"
      refine rd_iteN (fun h2 => ?_) (fun h2 => ?_)
      · exact bad fun z => h2 z.2
      · walk_at "rd"
        refine ⟨_, _, _, _, _, rfl, hp, T.cl_Side, T.a_Side_left, sl_left _ _, ?_⟩
        walk_at "rd"
        refine ⟨sd.left, n, rfl, rfl, dx, _, hp, sf_len _ _, ?_⟩
        rw [sf_left]
        exact kq ⟨h1, h2⟩
    · walk_at "rd"
      exact bad fun z => h1 z.1
def toldS (s : Sd) : List V := [.int s.left, .int s.periods, .int s.moves, .int s.num, .int s.passed]
def spTold (a : Ads) : Sp := fun vs H Q _ => ∃ p dx t s, vs = [.ref p] ∧ H p = some (.ins a.cSide dx (sideF t s)) ∧ ∀ q, H q = none → Q (.ref q) (upd H q (.tup (toldS s)))
theorem ok_told (T : Txt K mg a) : HasM P w K mg base CX0 1 a.cSide "told" ["self"] (spTold a) := by
  refine T.m_Side_told.has fun f fd F => F.ok sc_Side_told (fun vs H Q E h => ?_) (fun cdv A outer s H vs Q E hr h => ?_)
  · obtain ⟨p, dx, t, s, rfl, _⟩ := h; rfl
  · obtain ⟨p, dx, t, sd, rfl, hp, k⟩ := h
    refine ⟨_, (pss_one (ps_ret (pe_tup (pa_c (pe_fld (pv 0) rfl) (pa_c (pe_fld (pv 0) rfl) (pa_c (pe_fld (pv 0) rfl) (pa_c (pe_fld (pv 0) rfl) (pa_c (pe_fld (pv 0) rfl) pa_nil ns_att) ns_att) ns_att) ns_att) ns_att)))), ?_⟩
    walk_at "rd"
    refine ⟨_, _, _, _, _, rfl, hp, T.cl_Side, T.a_Side_left, sl_left _ _, ?_⟩
    walk_at "rd"
    refine ⟨_, _, _, _, _, rfl, hp, T.cl_Side, T.a_Side_periods, sl_periods _ _, ?_⟩
    walk_at "rd"
    refine ⟨_, _, _, _, _, rfl, hp, T.cl_Side, T.a_Side_moves, sl_moves _ _, ?_⟩
    walk_at "rd"
    refine ⟨_, _, _, _, _, rfl, hp, T.cl_Side, T.a_Side_number, sl_num _ _, ?_⟩
    walk_at "rd"
    refine ⟨_, _, _, _, _, rfl, hp, T.cl_Side, T.a_Side_passed, sl_passed _ _, ?_⟩
    walk_at "rd"
    exact ⟨by show 5 ≤ sizeLine; decide, k⟩
theorem cl_sides (tp : Addr) (u : Int) (r : Bool) (fl : V) (n : Int) : (clockF tp u r fl n).lookup ("sides" : Str) = some (.ref tp) := lk_mid (l1 := []) (by simp)
theorem cl_turn (tp : Addr) (u : Int) (r : Bool) (fl : V) (n : Int) : (clockF tp u r fl n).lookup ("turn" : Str) = some (.int u) := lk_mid (l1 := [("sides", V.ref tp)]) (by show ("turn" : Str) ∉ (["sides"] : List Str); decide +kernel)
theorem cl_running (tp : Addr) (u : Int) (r : Bool) (fl : V) (n : Int) : (clockF tp u r fl n).lookup ("running" : Str) = some (.bl r) := lk_mid (l1 := [("sides", V.ref tp), ("turn", .int u)]) (by show ("running" : Str) ∉ (["sides", "turn"] : List Str); decide +kernel)
theorem cl_fallen (tp : Addr) (u : Int) (r : Bool) (fl : V) (n : Int) : (clockF tp u r fl n).lookup ("fallen" : Str) = some fl := lk_mid (l1 := [("sides", V.ref tp), ("turn", .int u), ("running", .bl r)]) (by show ("fallen" : Str) ∉ (["sides", "turn", "running"] : List Str); decide +kernel)
theorem cl_passed (tp : Addr) (u : Int) (r : Bool) (fl : V) (n : Int) : (clockF tp u r fl n).lookup ("passed" : Str) = some (.int n) := lk_mid (l1 := [("sides", V.ref tp), ("turn", .int u), ("running", .bl r), ("fallen", fl)]) (by show ("passed" : Str) ∉ (["sides", "turn", "running", "fallen"] : List Str); decide +kernel)
theorem cf_turn (tp : Addr) (u v : Int) (r : Bool) (fl : V) (n : Int) : putF "turn" (.int v) (clockF tp u r fl n) = clockF tp v r fl n := putF_mid (l1 := [("sides", V.ref tp)]) (by show ("turn" : Str) ∉ (["sides"] : List Str); decide +kernel)
theorem cf_running (tp : Addr) (u : Int) (r r' : Bool) (fl : V) (n : Int) : putF "running" (.bl r') (clockF tp u r fl n) = clockF tp u r' fl n := putF_mid (l1 := [("sides", V.ref tp), ("turn", .int u)]) (by show ("running" : Str) ∉ (["sides", "turn"] : List Str); decide +kernel)
theorem cf_fallen (tp : Addr) (u : Int) (r : Bool) (fl fl' : V) (n : Int) : putF "fallen" fl' (clockF tp u r fl n) = clockF tp u r fl' n := putF_mid (l1 := [("sides", V.ref tp), ("turn", .int u), ("running", .bl r)]) (by show ("fallen" : Str) ∉ (["sides", "turn", "running"] : List Str); decide +kernel)
theorem cf_passed (tp : Addr) (u : Int) (r : Bool) (fl : V) (n m : Int) : putF "passed" (.int m) (clockF tp u r fl n) = clockF tp u r fl m := putF_mid (l1 := [("sides", V.ref tp), ("turn", .int u), ("running", .bl r), ("fallen", fl)]) (by show ("passed" : Str) ∉ (["sides", "turn", "running", "fallen"] : List Str); decide +kernel)
def clockN : List Str := ["sides", "turn", "running", "fallen", "passed"]
theorem cl_no (tp : Addr) (u : Int) (r : Bool) (fl : V) (n : Int) {m : Str} (h : m ∉ clockN) : (clockF tp u r fl n).lookup m = none := lk_no h
theorem cf_len (tp : Addr) (u : Int) (r : Bool) (fl : V) (n : Int) : (clockF tp u r fl n).length < 1000 := by show 5 < 1000; decide
def tI (b : Bool) : Int := if b = true then 1 else 0
def fV : Option Bool → V
  | some b => .int (tI b)
  | none => .non
structure Ck where
  p : Addr
  dx : Addr
  tp : Addr
  s0 : Addr
  d0 : Addr
  s1 : Addr
  d1 : Addr
  t : Addr
  ps : List Addr
  gs : List Sg
def Ck.sa (c : Ck) (b : Bool) : Addr := if b = true then c.s1 else c.s0
def Ck.da (c : Ck) (b : Bool) : Addr := if b = true then c.d1 else c.d0
structure Cs where
  turn : Bool
  runs : Bool
  fallen : Option Bool
  total : Int
  sd : Bool → Sd
structure CkAt (a : Ads) (H : Hp) (c : Ck) (x : Cs) : Prop where
  ck : H c.p = some (.ins a.cClock c.dx (clockF c.tp (tI x.turn) x.runs (fV x.fallen) x.total))
  tp : H c.tp = some (.tup [.ref c.s0, .ref c.s1])
  sd : ∀ b, H (c.sa b) = some (.ins a.cSide (c.da b) (sideF c.t (x.sd b)))
  tt : H c.t = some (.tup (refs c.ps))
  st : StAt H c.ps c.gs
  ne : c.s0 ≠ c.s1
  np : ∀ b, c.sa b ≠ c.p
  ok : progOk c.gs
  wf : ∀ b, WF c.gs (x.sd b)
def Kp (c : Ck) (H H' : Hp) : Prop := ∀ b o, H b = some o → b ≠ c.p → b ≠ c.s0 → b ≠ c.s1 → H' b = some o
theorem Kp.refl {c : Ck} {H : Hp} : Kp c H H := fun _ _ e _ _ _ => e
theorem Kp.trans {c : Ck} {H H1 H2 : Hp} (x : Kp c H H1) (y : Kp c H1 H2) : Kp c H H2 := fun b o e h1 h2 h3 => y b o (x b o e h1 h2 h3) h1 h2 h3
theorem Kp.of {c : Ck} {H H' : Hp} (s : Same H H') : Kp c H H' := fun b o e _ _ _ => s b o e
theorem sa_ne {c : Ck} (h : c.s0 ≠ c.s1) {b b' : Bool} (hb : b' ≠ b) : c.sa b' ≠ c.sa b := by
  cases b <;> cases b' <;> first | exact absurd rfl hb | exact h | exact h.symm
def setS (f : Bool → Sd) (b : Bool) (s : Sd) : Bool → Sd := fun b' => if b' = b then s else f b'
theorem setS_same {f : Bool → Sd} {b : Bool} {s : Sd} : setS f b s b = s := by unfold setS; rw [if_pos rfl]
theorem setS_ne {f : Bool → Sd} {b b' : Bool} {s : Sd} (h : b' ≠ b) : setS f b s b' = f b' := by unfold setS; rw [if_neg h]
theorem setS_set {f : Bool → Sd} {b : Bool} {s s' : Sd} : setS (setS f b s) b s' = setS f b s' := by
  funext b'; unfold setS; split <;> rfl
theorem setS_self {f : Bool → Sd} {b : Bool} : setS f b (f b) = f := by
  funext b'; unfold setS; split
  · rename_i h; rw [h]
  · rfl
section
variable {H H' : Hp} {c : Ck} {x : Cs}
theorem CkAt.same (h : CkAt a H c x) (s : Same H H') : CkAt a H' c x := ⟨s _ _ h.ck, s _ _ h.tp, fun b => s _ _ (h.sd b), s _ _ h.tt, h.st.same s, h.ne, h.np, h.ok, h.wf⟩
theorem CkAt.setSide (h : CkAt a H c x) (b : Bool) {s : Sd} (w : WF c.gs s) : CkAt a (upd H (c.sa b) (.ins a.cSide (c.da b) (sideF c.t s))) c { x with sd := setS x.sd b s } where
  ck := by rw [upd_ne (h.np b).symm]; exact h.ck
  tp := by rw [upd_ne (ne_of h.tp (h.sd b) (by intro z; cases z))]; exact h.tp
  sd := fun b' => by
    by_cases e : b' = b
    · subst e; rw [upd_same]; show _ = some (HO.ins _ _ (sideF c.t (setS x.sd b' s b'))); rw [setS_same]
    · rw [upd_ne (sa_ne h.ne e)]; show _ = some (HO.ins _ _ (sideF c.t (setS x.sd b s b'))); rw [setS_ne e]; exact h.sd b'
  tt := by rw [upd_ne (ne_of h.tt (h.sd b) (by intro z; cases z))]; exact h.tt
  st := h.st.upd (h.sd b)
  ne := h.ne
  np := h.np
  ok := h.ok
  wf := fun b' => by
    show WF c.gs (setS x.sd b s b')
    by_cases e : b' = b
    · subst e; rw [setS_same]; exact w
    · rw [setS_ne e]; exact h.wf b'
theorem CkAt.setClock (h : CkAt a H c x) {u r : Bool} {fl : Option Bool} {n : Int} : CkAt a (upd H c.p (.ins a.cClock c.dx (clockF c.tp (tI u) r (fV fl) n))) c { x with turn := u, runs := r, fallen := fl, total := n } where
  ck := upd_same
  tp := by rw [upd_ne (ne_of h.tp h.ck (by intro z; cases z))]; exact h.tp
  sd := fun b => by rw [upd_ne (h.np b)]; exact h.sd b
  tt := by rw [upd_ne (ne_of h.tt h.ck (by intro z; cases z))]; exact h.tt
  st := h.st.upd h.ck
  ne := h.ne
  np := h.np
  ok := h.ok
  wf := h.wf
theorem CkAt.side (h : CkAt a H c x) (b : Bool) : SidAt a H (c.sa b) (c.da b) c.t c.ps c.gs (x.sd b) := ⟨h.sd b, h.tt, h.st, (h.wf b).num⟩
theorem kp_side {b : Bool} {o : HO} : Kp c H (upd H (c.sa b) o) := fun b' o' e _ h0 h1 => by
  rw [upd_ne (by cases b <;> assumption)]; exact e
theorem kp_clock {o : HO} : Kp c H (upd H c.p o) := fun b' o' e h _ _ => by rw [upd_ne h]; exact e
theorem at_side (c : Ck) (b : Bool) : atI [V.ref c.s0, V.ref c.s1] (tI b) = some (.ref (c.sa b)) := by cases b <;> rfl
end
inductive Rf where
  | ticks | now | over
  deriving DecidableEq
def xr (a : Ads) : Rf → Addr
  | .ticks => a.xBadTicks
  | .now => a.xNotNow
  | .over => a.xOver
abbrev Res := Except Rf (V × Cs)
def spDeed (a : Ads) (m : List V → Option (List Sg → Cs → Res)) : Sp := fun vs H Q E => ∃ c x args f, vs = .ref c.p :: args ∧ m args = some f ∧ CkAt a H c x ∧
  match f c.gs x with
  | .ok (v, x') => ∀ H', CkAt a H' c x' → Kp c H H' → Q v H'
  | .error r => E (.ref (xr a r)) none H
def doStart : Cs → Res := fun x => if x.fallen.isSome = true then .error .over else if x.runs = true then .error .now else .ok (.non, { x with runs := true })
def doStop : Cs → Res := fun x => if x.fallen.isSome = true then .error .over else if x.runs = true then .ok (.non, { x with runs := false }) else .error .now
def goX (gs : List Sg) (n : Nat) (x : Cs) : Cs :=
  if (runT gs n (x.sd x.turn)).2.left = 0 then { turn := x.turn, runs := false, fallen := some x.turn, total := x.total + (runT gs n (x.sd x.turn)).1, sd := setS x.sd x.turn (runT gs n (x.sd x.turn)).2 }
  else { turn := x.turn, runs := x.runs, fallen := x.fallen, total := x.total + (runT gs n (x.sd x.turn)).1, sd := setS x.sd x.turn (runT gs n (x.sd x.turn)).2 }
def doGo (i : Int) (gs : List Sg) : Cs → Res := fun x => if i < 0 then .error .ticks else if x.fallen.isSome = true then .error .over else if x.runs = true then .ok (.int (runT gs i.toNat (x.sd x.turn)).1, goX gs i.toNat x) else .ok (.int i, x)
def doPress (b : Bool) (gs : List Sg) : Cs → Res := fun x => if x.fallen.isSome = true then .error .over else if x.runs = true then (if b = x.turn then .ok (.non, { x with turn := !b, sd := setS x.sd b (moveS gs (x.sd b)) }) else .error .now) else .error .now
def doGive (b : Bool) (n : Int) : Cs → Res := fun x => if x.fallen.isSome = true then .error .over else if x.runs = true then .error .now else
  if 1 ≤ (x.sd b).left + n ∧ (x.sd b).left + n ≤ 10000000 then .ok (.non, { x with sd := setS x.sd b { x.sd b with left := (x.sd b).left + n } }) else .error .ticks
def spRef (a : Ads) (f : Cs → Bool) (r : Rf) : Sp := fun vs H Q E => ∃ c x, vs = [.ref c.p] ∧ CkAt a H c x ∧ (f x = false → Q .non H) ∧ (f x = true → E (.ref (xr a r)) none H)
theorem ok_ref_over (T : Txt K mg a) : HasM P w K mg base (CX1 P w) 1 a.cClock "refuse_if_over" ["self"] (spRef a (fun x => x.fallen.isSome) .over) := by
  refine T.m_Clock_refuse_if_over.has fun f fd F => F.ok1 sc_Clock_refuse_if_over (fun vs H Q E h => ?_) (fun cdv A outer s H vs Q E hr h => ?_)
  · obtain ⟨c, x, rfl, _⟩ := h; rfl
  · obtain ⟨c, x, rfl, hc, kq, ke⟩ := h
    refine ⟨_, (pss_one (ps_if (pt_cmpR op_notN (pe_fld (pv 0) rfl) pe_non (nomark _)) (pss_one (ps_raise leaves_cx rfl T.x_Over.is rfl T.g_Over (pa_c pe_str pa_nil ns_con))) pss_nil)), ?_⟩
    walk_at "rd"
    refine ⟨_, _, _, _, _, rfl, hc.ck, T.cl_Clock, T.a_Clock_fallen, cl_fallen _ _ _ _ _, ?_⟩
    walk_at "rd"
    cases hf : x.fallen with
    | none =>
      refine rd_iteN (fun h => (h rfl).elim) (fun _ => ?_)
      walk_at "rd"
      exact kq (by show x.fallen.isSome = false; rw [hf]; rfl)
    | some b =>
      refine rd_iteN (fun _ => ?_) (fun h => by cases h)
      walk_at "rd"
      exact ⟨by show 1 ≤ sizeLine; decide, ke (by show x.fallen.isSome = true; rw [hf]; rfl)⟩
theorem ok_ref_running (T : Txt K mg a) : HasM P w K mg base (CX1 P w) 1 a.cClock "refuse_if_running" ["self"] (spRef a (fun x => x.runs) .now) := by
  refine T.m_Clock_refuse_if_running.has fun f fd F => F.ok1 sc_Clock_refuse_if_running (fun vs H Q E h => ?_) (fun cdv A outer s H vs Q E hr h => ?_)
  · obtain ⟨c, x, rfl, _⟩ := h; rfl
  · obtain ⟨c, x, rfl, hc, kq, ke⟩ := h
    refine ⟨_, (pss_one (ps_if (pt_val (pe_fld (pv 0) rfl) (fun _ => rfl)) (pss_one (ps_raise leaves_cx rfl T.x_NotNow.is rfl T.g_NotNow (pa_c pe_str pa_nil ns_con))) pss_nil)), ?_⟩
    walk_at "rd"
    refine ⟨_, _, _, _, _, rfl, hc.ck, T.cl_Clock, T.a_Clock_running, cl_running _ _ _ _ _, ?_⟩
    walk_at "rd"
    refine rd_iteB (fun hr => ?_) (fun hr => ?_)
    · walk_at "rd"
      exact ⟨by show 1 ≤ sizeLine; decide, ke hr⟩
    · walk_at "rd"
      exact kq hr
theorem ok_ref_still (T : Txt K mg a) : HasM P w K mg base (CX1 P w) 1 a.cClock "refuse_if_still" ["self"] (spRef a (fun x => !x.runs) .now) := by
  refine T.m_Clock_refuse_if_still.has fun f fd F => F.ok1 sc_Clock_refuse_if_still (fun vs H Q E h => ?_) (fun cdv A outer s H vs Q E hr h => ?_)
  · obtain ⟨c, x, rfl, _⟩ := h; rfl
  · obtain ⟨c, x, rfl, hc, kq, ke⟩ := h
    refine ⟨_, (pss_one (ps_if (pt_not (pt_val (pe_fld (pv 0) rfl) (fun _ => rfl))) (pss_one (ps_raise leaves_cx rfl T.x_NotNow.is rfl T.g_NotNow (pa_c pe_str pa_nil ns_con))) pss_nil)), ?_⟩
    walk_at "rd"
    refine ⟨_, _, _, _, _, rfl, hc.ck, T.cl_Clock, T.a_Clock_running, cl_running _ _ _ _ _, ?_⟩
    walk_at "rd"
    refine rd_iteNB (fun hr => ?_) (fun hr => ?_)
    · walk_at "rd"
      exact ⟨by show 1 ≤ sizeLine; decide, ke (by show (!x.runs) = true; rw [hr]; rfl)⟩
    · walk_at "rd"
      exact kq (by show (!x.runs) = false; rw [hr]; rfl)
def mStart : List V → Option (List Sg → Cs → Res) := fun vs => match vs with
  | [] => some fun _ => doStart
  | _ => none
def mStop : List V → Option (List Sg → Cs → Res) := fun vs => match vs with
  | [] => some fun _ => doStop
  | _ => none
def mGo : List V → Option (List Sg → Cs → Res) := fun vs => match vs with
  | [.int i] => some (doGo i)
  | _ => none
def sideOf (i : Int) : Option Bool := if i = 0 then some false else if i = 1 then some true else none
def mPress : List V → Option (List Sg → Cs → Res) := fun vs => match vs with
  | [.int i] => (sideOf i).map doPress
  | _ => none
def mGive : List V → Option (List Sg → Cs → Res) := fun vs => match vs with
  | [.int i, .int n] => (sideOf i).map fun b _ => doGive b n
  | _ => none
theorem sideOf_some {i : Int} {b : Bool} (h : sideOf i = some b) : i = tI b := by
  unfold sideOf at h
  split at h
  · cases h; assumption
  · split at h
    · cases h; assumption
    · cases h
theorem noMeth {m : Str} (h : m ∉ clockN := by decide +kernel) : m ∉ clockN := h
theorem ok_start (T : Txt K mg a) : HasM P w K mg base (CX1 P w) 2 a.cClock "start" ["self"] (spDeed a mStart) := by
  have G_Clock_refuse_if_over := ok_ref_over (P := P) (w := w) (base := base) T
  have G_Clock_refuse_if_running := ok_ref_running (P := P) (w := w) (base := base) T
  refine T.m_Clock_start.has fun f fd F => F.ok1 sc_Clock_start (fun vs H Q E h => ?_) (fun cdv A outer s H vs Q E hr h => ?_)
  · obtain ⟨c, x, args, f, rfl, hm, _⟩ := h
    cases args with
    | nil => rfl
    | cons _ _ => cases hm
  · obtain ⟨c, x, args, f, rfl, hm, hc, k⟩ := h
    cases args with
    | cons _ _ => cases hm
    | nil =>
      cases hm
      dsimp only [doStart] at k
      refine ⟨_, (pss_cons (ps_expr (pe_methH01 (pv 0) T.cl_Clock G_Clock_refuse_if_over leaves_cx hr)) (pss_cons (ps_expr (pe_methH01 (pv 0) T.cl_Clock G_Clock_refuse_if_running leaves_cx hr)) (pss_one (ps_fld (pv 0) pe_bl rfl)))), ?_⟩
      walk_at "rd"
      refine ⟨c.p, c.dx, _, rfl, hc.ck, cl_no _ _ _ _ _ (noMeth (by decide +kernel)), ?_⟩
      walk_at "rd"
      refine ⟨c, x, rfl, hc, fun h1 => ?_, fun h1 => ?_⟩
      · have h1' : x.fallen.isSome = false := h1
        rw [if_neg (by rw [h1']; exact Bool.false_ne_true)] at k
        walk_at "rd"
        refine ⟨c.p, c.dx, _, rfl, hc.ck, cl_no _ _ _ _ _ (noMeth (by decide +kernel)), ?_⟩
        walk_at "rd"
        refine ⟨c, x, rfl, hc, fun h2 => ?_, fun h2 => ?_⟩
        · have h2' : x.runs = false := h2
          rw [if_neg (by rw [h2']; exact Bool.false_ne_true)] at k
          walk_at "rd"
          refine rd_sfldx hc.ck T.cl_Clock T.a_Clock_running (cf_len _ _ _ _ _) ?_
          rw [cf_running]
          exact k _ (hc.setClock (u := x.turn) (r := true) (fl := x.fallen) (n := x.total)) kp_clock
        · have h2' : x.runs = true := h2
          rw [if_pos h2'] at k
          exact k
      · have h1' : x.fallen.isSome = true := h1
        rw [if_pos h1'] at k
        exact k
theorem ok_stop (T : Txt K mg a) : HasM P w K mg base (CX1 P w) 2 a.cClock "stop" ["self"] (spDeed a mStop) := by
  have G_Clock_refuse_if_over := ok_ref_over (P := P) (w := w) (base := base) T
  have G_Clock_refuse_if_still := ok_ref_still (P := P) (w := w) (base := base) T
  refine T.m_Clock_stop.has fun f fd F => F.ok1 sc_Clock_stop (fun vs H Q E h => ?_) (fun cdv A outer s H vs Q E hr h => ?_)
  · obtain ⟨c, x, args, f, rfl, hm, _⟩ := h
    cases args with
    | nil => rfl
    | cons _ _ => cases hm
  · obtain ⟨c, x, args, f, rfl, hm, hc, k⟩ := h
    cases args with
    | cons _ _ => cases hm
    | nil =>
      cases hm
      dsimp only [doStop] at k
      refine ⟨_, (pss_cons (ps_expr (pe_methH01 (pv 0) T.cl_Clock G_Clock_refuse_if_over leaves_cx hr)) (pss_cons (ps_expr (pe_methH01 (pv 0) T.cl_Clock G_Clock_refuse_if_still leaves_cx hr)) (pss_one (ps_fld (pv 0) pe_bl rfl)))), ?_⟩
      walk_at "rd"
      refine ⟨c.p, c.dx, _, rfl, hc.ck, cl_no _ _ _ _ _ (noMeth (by decide +kernel)), ?_⟩
      walk_at "rd"
      refine ⟨c, x, rfl, hc, fun h1 => ?_, fun h1 => ?_⟩
      · have h1' : x.fallen.isSome = false := h1
        rw [if_neg (by rw [h1']; exact Bool.false_ne_true)] at k
        walk_at "rd"
        refine ⟨c.p, c.dx, _, rfl, hc.ck, cl_no _ _ _ _ _ (noMeth (by decide +kernel)), ?_⟩
        walk_at "rd"
        refine ⟨c, x, rfl, hc, fun h2 => ?_, fun h2 => ?_⟩
        · have h2b : (!x.runs) = false := h2
          have h2' : x.runs = true := by cases q : x.runs with | true => rfl | false => rw [q] at h2b; cases h2b
          rw [if_pos h2'] at k
          walk_at "rd"
          refine rd_sfldx hc.ck T.cl_Clock T.a_Clock_running (cf_len _ _ _ _ _) ?_
          rw [cf_running]
          exact k _ (hc.setClock (u := x.turn) (r := false) (fl := x.fallen) (n := x.total)) kp_clock
        · have h2b : (!x.runs) = true := h2
          have h2' : ¬ x.runs = true := by cases q : x.runs with | true => rw [q] at h2b; cases h2b | false => exact Bool.false_ne_true
          rw [if_neg h2'] at k
          exact k
      · have h1' : x.fallen.isSome = true := h1
        rw [if_pos h1'] at k
        exact k
theorem ok_go (T : Txt K mg a) : HasM P w K mg base (CX1 P w) 6 a.cClock "go" ["self", "ticks"] (spDeed a mGo) := by
  have G_Clock_refuse_if_over := ok_ref_over (P := P) (w := w) (base := base) T
  have G_Side_pass_ticks := ok_pass_ticks (P := P) (w := w) (base := base) T
  have G_Side_has_fallen := ok_has_fallen (P := P) (w := w) (base := base) T
  refine T.m_Clock_go.has fun f fd F => F.ok1 sc_Clock_go (fun vs H Q E h => ?_) (fun cdv A outer s H vs Q E hr h => ?_)
  · obtain ⟨c, x, args, f, rfl, hm, _⟩ := h
    unfold mGo at hm
    split at hm
    · rfl
    · cases hm
  · obtain ⟨c, x, args, f, rfl, hm, hc, k⟩ := h
    unfold mGo at hm
    split at hm
    · rename_i i
      cases hm
      dsimp only [doGo] at k
      refine ⟨_, (pss_cons (ps_if (pt_cmpR op_lt (pv 1) pe_int (nomark _)) (pss_one (ps_raise leaves_cx rfl T.x_BadTicks.is rfl T.g_BadTicks (pa_c pe_str pa_nil ns_con))) pss_nil) (pss_cons (ps_expr (pe_methH01 (pv 0) T.cl_Clock G_Clock_refuse_if_over leaves_cx hr)) (pss_cons (ps_if (pt_not (pt_val (pe_fld (pv 0) rfl) (fun _ => rfl))) (pss_one (ps_ret (pv 1))) pss_nil) (pss_cons (ps_set (i := 2) sc_Clock_go.nd rfl (Or.inl rfl) (pe_ix ix_tup (pe_fld (pv 0) rfl) (pe_fld (pv 0) rfl) (fun _ _ => rfl))) (pss_cons (ps_set (i := 3) sc_Clock_go.nd rfl (Or.inl rfl) (pe_methH (pv 2) T.cl_Side G_Side_pass_ticks hr (pa_c (pv 1) pa_nil ns_name) (hst := star_cons ns_name) (hpl := star_any ns_nil))) (pss_cons (ps_fldaug (pv 0) (pv 3) in_add) (pss_cons (ps_if (pt_val (pe_methH0 (pv 2) T.cl_Side G_Side_has_fallen hr) (fun _ => rfl)) (pss_cons (ps_fld (pv 0) (pe_fld (pv 0) rfl) rfl) (pss_one (ps_fld (pv 0) pe_bl rfl))) pss_nil) (pss_one (ps_ret (pv 3)))))))))), ?_⟩
      walk_at "rd"
      refine rd_ite (fun hneg => ?_) (fun hneg => ?_)
      · rw [if_pos hneg] at k
        walk_at "rd"
        exact ⟨by show 1 ≤ sizeLine; decide, k⟩
      · rw [if_neg hneg] at k
        walk_at "rd"
        refine ⟨c.p, c.dx, _, rfl, hc.ck, cl_no _ _ _ _ _ (noMeth (by decide +kernel)), ?_⟩
        walk_at "rd"
        refine ⟨c, x, rfl, hc, fun h1 => ?_, fun h1 => ?_⟩
        · have h1' : x.fallen.isSome = false := h1
          rw [if_neg (by rw [h1']; exact Bool.false_ne_true)] at k
          walk_at "rd"
          refine ⟨_, _, _, _, _, rfl, hc.ck, T.cl_Clock, T.a_Clock_running, cl_running _ _ _ _ _, ?_⟩
          walk_at "rd"
          refine rd_iteNB (fun hru => ?_) (fun hru => ?_)
          · rw [if_neg (by rw [hru]; exact Bool.false_ne_true)] at k
            walk_at "rd"
            exact k _ hc Kp.refl
          · rw [if_pos hru] at k
            walk_at "rd"
            refine ⟨_, _, _, _, _, rfl, hc.ck, T.cl_Clock, T.a_Clock_sides, cl_sides _ _ _ _ _, ?_⟩
            walk_at "rd"
            refine ⟨_, _, _, _, _, rfl, hc.ck, T.cl_Clock, T.a_Clock_turn, cl_turn _ _ _ _ _, ?_⟩
            refine rd_ixT (SqT.of hc.tp) (at_side c x.turn) ?_
            walk_at "rd"
            refine ⟨c.sa x.turn, c.da x.turn, _, rfl, hc.sd x.turn, sl_no _ _ (by decide +kernel), ?_⟩
            walk_at "rd"
            obtain ⟨n, rfl⟩ : ∃ n : Nat, i = (n : Int) := ⟨i.toNat, by omega⟩
            refine ⟨c.sa x.turn, c.da x.turn, c.t, c.ps, c.gs, x.sd x.turn, n, rfl, hc.side x.turn, hc.wf x.turn, hc.ok.2.2.1, ?_⟩
            rw [Int.toNat_natCast] at k
            have hc2 := hc.setSide x.turn (run_wf hc.ok.2.2.1 n _ (hc.wf x.turn))
            generalize hH2 : upd H (c.sa x.turn) (.ins a.cSide (c.da x.turn) (sideF c.t (runT c.gs n (x.sd x.turn)).2)) = H2 at hc2
            have kp2 : Kp c H H2 := by rw [← hH2]; exact kp_side
            walk_at "rd"
            refine ⟨_, _, _, _, _, rfl, hc2.ck, T.cl_Clock, T.a_Clock_passed, cl_passed _ _ _ _ _, ?_⟩
            walk_at "rd"
            refine ⟨x.total, _, rfl, rfl, c.dx, _, hc2.ck, cf_len _ _ _ _ _, ?_⟩
            rw [cf_passed]
            have hc3 := hc2.setClock (u := x.turn) (r := x.runs) (fl := x.fallen) (n := x.total + (runT c.gs n (x.sd x.turn)).1)
            generalize hH3 : upd H2 c.p (.ins a.cClock c.dx (clockF c.tp (tI x.turn) x.runs (fV x.fallen) (x.total + (runT c.gs n (x.sd x.turn)).1))) = H3 at hc3
            have kp3 : Kp c H2 H3 := by rw [← hH3]; exact kp_clock
            walk_at "rd"
            refine ⟨c.sa x.turn, c.da x.turn, _, rfl, hc3.sd x.turn, sl_no _ _ (by decide +kernel), ?_⟩
            walk_at "rd"
            refine ⟨c.sa x.turn, c.da x.turn, c.t, _, rfl, hc3.sd x.turn, ?_⟩
            walk_at "rd"
            have el : (setS x.sd x.turn (runT c.gs n (x.sd x.turn)).2 x.turn) = (runT c.gs n (x.sd x.turn)).2 := setS_same
            refine rd_ite (fun hz => ?_) (fun hz => ?_)
            · have hz' : (runT c.gs n (x.sd x.turn)).2.left = 0 := by rw [← el]; exact hz
              walk_at "rd"
              refine ⟨_, _, _, _, _, rfl, hc3.ck, T.cl_Clock, T.a_Clock_turn, cl_turn _ _ _ _ _, ?_⟩
              walk_at "rd"
              refine rd_sfldx hc3.ck T.cl_Clock T.a_Clock_fallen (cf_len _ _ _ _ _) ?_
              rw [cf_fallen]
              walk_at "rd"
              refine rd_sfldx upd_same T.cl_Clock T.a_Clock_running (cf_len _ _ _ _ _) ?_
              rw [cf_running, upd_upd]
              walk_at "rd"
              have e1 : goX c.gs n x = { turn := x.turn, runs := false, fallen := some x.turn, total := x.total + (runT c.gs n (x.sd x.turn)).1, sd := setS x.sd x.turn (runT c.gs n (x.sd x.turn)).2 } := by unfold goX; rw [if_pos hz']
              rw [e1] at k
              exact k _ (hc3.setClock (u := x.turn) (r := false) (fl := some x.turn) (n := x.total + (runT c.gs n (x.sd x.turn)).1)) ((kp2.trans kp3).trans kp_clock)
            · have hz' : ¬ (runT c.gs n (x.sd x.turn)).2.left = 0 := by rw [← el]; exact hz
              walk_at "rd"
              have e1 : goX c.gs n x = { turn := x.turn, runs := x.runs, fallen := x.fallen, total := x.total + (runT c.gs n (x.sd x.turn)).1, sd := setS x.sd x.turn (runT c.gs n (x.sd x.turn)).2 } := by unfold goX; rw [if_neg hz']
              rw [e1] at k
              exact k _ hc3 (kp2.trans kp3)
        · have h1' : x.fallen.isSome = true := h1
          rw [if_pos h1'] at k
          exact k
    · cases hm
theorem tI_not (b : Bool) : 1 - tI b = tI (!b) := by cases b <;> rfl
theorem tI_inj {b b' : Bool} : (V.int (tI b) = V.int (tI b')) ↔ b = b' := by
  cases b <;> cases b' <;> simp [tI]
theorem ok_press (T : Txt K mg a) : HasM P w K mg base (CX1 P w) 5 a.cClock "press" ["self", "who"] (spDeed a mPress) := by
  have G_Clock_refuse_if_over := ok_ref_over (P := P) (w := w) (base := base) T
  have G_Clock_refuse_if_still := ok_ref_still (P := P) (w := w) (base := base) T
  have G_Side_make_move := ok_make_move (P := P) (w := w) (base := base) T
  refine T.m_Clock_press.has fun f fd F => F.ok1 sc_Clock_press (fun vs H Q E h => ?_) (fun cdv A outer s H vs Q E hr h => ?_)
  · obtain ⟨c, x, args, f, rfl, hm, _⟩ := h
    unfold mPress at hm
    split at hm
    · rfl
    · cases hm
  · obtain ⟨c, x, args, f, rfl, hm, hc, k⟩ := h
    unfold mPress at hm
    split at hm
    · rename_i i
      obtain ⟨b, hb, rfl⟩ := Option.map_eq_some_iff.mp hm
      have hi := sideOf_some hb
      subst hi
      dsimp only [doPress] at k
      refine ⟨_, (pss_cons (ps_expr (pe_methH01 (pv 0) T.cl_Clock G_Clock_refuse_if_over leaves_cx hr)) (pss_cons (ps_expr (pe_methH01 (pv 0) T.cl_Clock G_Clock_refuse_if_still leaves_cx hr)) (pss_cons (ps_if (pt_cmpR op_ne (pv 1) (pe_fld (pv 0) rfl) (nomark _)) (pss_one (ps_raise leaves_cx rfl T.x_NotNow.is rfl T.g_NotNow (pa_c pe_str pa_nil ns_con))) pss_nil) (pss_cons (ps_expr (pe_methH0 (pe_ix ix_tup (pe_fld (pv 0) rfl) (pv 1) (fun _ _ => rfl)) T.cl_Side G_Side_make_move hr)) (pss_one (ps_fld (pv 0) (pe_op op_sub pe_int (pv 1)) rfl)))))), ?_⟩
      walk_at "rd"
      refine ⟨c.p, c.dx, _, rfl, hc.ck, cl_no _ _ _ _ _ (noMeth (by decide +kernel)), ?_⟩
      walk_at "rd"
      refine ⟨c, x, rfl, hc, fun h1 => ?_, fun h1 => ?_⟩
      · have h1' : x.fallen.isSome = false := h1
        rw [if_neg (by rw [h1']; exact Bool.false_ne_true)] at k
        walk_at "rd"
        refine ⟨c.p, c.dx, _, rfl, hc.ck, cl_no _ _ _ _ _ (noMeth (by decide +kernel)), ?_⟩
        walk_at "rd"
        refine ⟨c, x, rfl, hc, fun h2 => ?_, fun h2 => ?_⟩
        · have h2b : (!x.runs) = false := h2
          have h2' : x.runs = true := by cases q : x.runs with | true => rfl | false => rw [q] at h2b; cases h2b
          rw [if_pos h2'] at k
          walk_at "rd"
          refine ⟨_, _, _, _, _, rfl, hc.ck, T.cl_Clock, T.a_Clock_turn, cl_turn _ _ _ _ _, ?_⟩
          walk_at "rd"
          refine rd_iteN (fun ht => ?_) (fun ht => ?_)
          · rw [if_neg (fun z => ht (by rw [z]))] at k
            walk_at "rd"
            exact ⟨by show 1 ≤ sizeLine; decide, k⟩
          · have hbt := tI_inj.mp ht
            rw [if_pos hbt] at k
            walk_at "rd"
            refine ⟨_, _, _, _, _, rfl, hc.ck, T.cl_Clock, T.a_Clock_sides, cl_sides _ _ _ _ _, ?_⟩
            walk_at "rd"
            refine rd_ixT (SqT.of hc.tp) (at_side c b) ?_
            walk_at "rd"
            refine ⟨c.sa b, c.da b, _, rfl, hc.sd b, sl_no _ _ (by decide +kernel), ?_⟩
            walk_at "rd"
            refine ⟨c.sa b, c.da b, c.t, c.ps, c.gs, x.sd b, rfl, hc.side b, hc.ok, ?_⟩
            have hc2 := hc.setSide b (move_wf hc.ok.2.2.1 hc.ok.2.2.2 (hc.wf b)).1
            generalize hH2 : upd H (c.sa b) (.ins a.cSide (c.da b) (sideF c.t (moveS c.gs (x.sd b)))) = H2 at hc2
            have kp2 : Kp c H H2 := by rw [← hH2]; exact kp_side
            walk_at "rd"
            refine rd_sfldx hc2.ck T.cl_Clock T.a_Clock_turn (cf_len _ _ _ _ _) ?_
            rw [tI_not, cf_turn]
            exact k _ (hc2.setClock (u := !b) (r := x.runs) (fl := x.fallen) (n := x.total)) (kp2.trans kp_clock)
        · have h2b : (!x.runs) = true := h2
          have h2' : ¬ x.runs = true := by cases q : x.runs with | true => rw [q] at h2b; cases h2b | false => exact Bool.false_ne_true
          rw [if_neg h2'] at k
          exact k
      · have h1' : x.fallen.isSome = true := h1
        rw [if_pos h1'] at k
        exact k
    · cases hm
theorem ok_give (T : Txt K mg a) : HasM P w K mg base (CX1 P w) 2 a.cClock "give" ["self", "who", "ticks"] (spDeed a mGive) := by
  have G_Clock_refuse_if_over := ok_ref_over (P := P) (w := w) (base := base) T
  have G_Clock_refuse_if_running := ok_ref_running (P := P) (w := w) (base := base) T
  have G_Side_put_right := ok_put_right (P := P) (w := w) (base := base) T
  refine T.m_Clock_give.has fun f fd F => F.ok1 sc_Clock_give (fun vs H Q E h => ?_) (fun cdv A outer s H vs Q E hr h => ?_)
  · obtain ⟨c, x, args, f, rfl, hm, _⟩ := h
    unfold mGive at hm
    split at hm
    · rfl
    · cases hm
  · obtain ⟨c, x, args, f, rfl, hm, hc, k⟩ := h
    unfold mGive at hm
    split at hm
    · rename_i i n
      obtain ⟨b, hb, rfl⟩ := Option.map_eq_some_iff.mp hm
      have hi := sideOf_some hb
      subst hi
      dsimp only [doGive] at k
      refine ⟨_, (pss_cons (ps_expr (pe_methH01 (pv 0) T.cl_Clock G_Clock_refuse_if_over leaves_cx hr)) (pss_cons (ps_expr (pe_methH01 (pv 0) T.cl_Clock G_Clock_refuse_if_running leaves_cx hr)) (pss_one (ps_expr (pe_methH1 (pe_ix ix_tup (pe_fld (pv 0) rfl) (pv 1) (fun _ _ => rfl)) T.cl_Side G_Side_put_right leaves_cx hr (pa_c (pv 2) pa_nil ns_name) (hst := star_cons ns_name) (hpl := star_any ns_nil)))))), ?_⟩
      walk_at "rd"
      refine ⟨c.p, c.dx, _, rfl, hc.ck, cl_no _ _ _ _ _ (noMeth (by decide +kernel)), ?_⟩
      walk_at "rd"
      refine ⟨c, x, rfl, hc, fun h1 => ?_, fun h1 => ?_⟩
      · have h1' : x.fallen.isSome = false := h1
        rw [if_neg (by rw [h1']; exact Bool.false_ne_true)] at k
        walk_at "rd"
        refine ⟨c.p, c.dx, _, rfl, hc.ck, cl_no _ _ _ _ _ (noMeth (by decide +kernel)), ?_⟩
        walk_at "rd"
        refine ⟨c, x, rfl, hc, fun h2 => ?_, fun h2 => ?_⟩
        · have h2' : x.runs = false := h2
          rw [if_neg (by rw [h2']; exact Bool.false_ne_true)] at k
          walk_at "rd"
          refine ⟨_, _, _, _, _, rfl, hc.ck, T.cl_Clock, T.a_Clock_sides, cl_sides _ _ _ _ _, ?_⟩
          walk_at "rd"
          refine rd_ixT (SqT.of hc.tp) (at_side c b) ?_
          walk_at "rd"
          refine ⟨c.sa b, c.da b, _, rfl, hc.sd b, sl_no _ _ (by decide +kernel), ?_⟩
          walk_at "rd"
          refine ⟨c.sa b, c.da b, c.t, x.sd b, n, rfl, hc.sd b, fun h3 => ?_, fun h3 => ?_⟩
          · rw [if_pos h3] at k
            walk_at "rd"
            exact k _ (hc.setSide b ⟨(hc.wf b).num, by show 0 ≤ (x.sd b).left + n; omega, (hc.wf b).pas⟩) kp_side
          · rw [if_neg h3] at k
            exact k
        · have h2' : x.runs = true := h2
          rw [if_pos h2'] at k
          exact k
      · have h1' : x.fallen.isSome = true := h1
        rw [if_pos h1'] at k
        exact k
    · cases hm
def spState (a : Ads) : Sp := fun vs H Q _ => ∃ c x b, vs = [.ref c.p, .int (tI b)] ∧ CkAt a H c x ∧ ∀ q, H q = none → Q (.ref q) (upd H q (.tup (toldS (x.sd b))))
theorem ok_state (T : Txt K mg a) : HasM P w K mg base CX0 2 a.cClock "state" ["self", "who"] (spState a) := by
  have G_Side_told := ok_told (P := P) (w := w) (base := base) T
  refine T.m_Clock_state.has fun f fd F => F.ok sc_Clock_state (fun vs H Q E h => ?_) (fun cdv A outer s H vs Q E hr h => ?_)
  · obtain ⟨c, x, b, rfl, _⟩ := h; rfl
  · obtain ⟨c, x, b, rfl, hc, k⟩ := h
    refine ⟨_, (pss_one (ps_ret (pe_methH0 (pe_ix ix_tup (pe_fld (pv 0) rfl) (pv 1) (fun _ _ => rfl)) T.cl_Side G_Side_told hr))), ?_⟩
    walk_at "rd"
    refine ⟨_, _, _, _, _, rfl, hc.ck, T.cl_Clock, T.a_Clock_sides, cl_sides _ _ _ _ _, ?_⟩
    walk_at "rd"
    refine rd_ixT (SqT.of hc.tp) (at_side c b) ?_
    walk_at "rd"
    refine ⟨c.sa b, c.da b, _, rfl, hc.sd b, sl_no _ _ (by decide +kernel), ?_⟩
    walk_at "rd"
    exact ⟨c.sa b, c.da b, c.t, x.sd b, rfl, hc.sd b, k⟩
def toldG (x : Cs) : List V := [.int (tI x.turn), .bl x.runs, fV x.fallen, .int x.total]
def spGame (a : Ads) : Sp := fun vs H Q _ => ∃ c x, vs = [.ref c.p] ∧ CkAt a H c x ∧ ∀ q, H q = none → Q (.ref q) (upd H q (.tup (toldG x)))
theorem ok_game (T : Txt K mg a) : HasM P w K mg base CX0 1 a.cClock "game" ["self"] (spGame a) := by
  refine T.m_Clock_game.has fun f fd F => F.ok sc_Clock_game (fun vs H Q E h => ?_) (fun cdv A outer s H vs Q E hr h => ?_)
  · obtain ⟨c, x, rfl, _⟩ := h; rfl
  · obtain ⟨c, x, rfl, hc, k⟩ := h
    refine ⟨_, (pss_one (ps_ret (pe_tup (pa_c (pe_fld (pv 0) rfl) (pa_c (pe_fld (pv 0) rfl) (pa_c (pe_fld (pv 0) rfl) (pa_c (pe_fld (pv 0) rfl) pa_nil ns_att) ns_att) ns_att) ns_att)))), ?_⟩
    walk_at "rd"
    refine ⟨_, _, _, _, _, rfl, hc.ck, T.cl_Clock, T.a_Clock_turn, cl_turn _ _ _ _ _, ?_⟩
    walk_at "rd"
    refine ⟨_, _, _, _, _, rfl, hc.ck, T.cl_Clock, T.a_Clock_running, cl_running _ _ _ _ _, ?_⟩
    walk_at "rd"
    refine ⟨_, _, _, _, _, rfl, hc.ck, T.cl_Clock, T.a_Clock_fallen, cl_fallen _ _ _ _ _, ?_⟩
    walk_at "rd"
    refine ⟨_, _, _, _, _, rfl, hc.ck, T.cl_Clock, T.a_Clock_passed, cl_passed _ _ _ _ _, ?_⟩
    walk_at "rd"
    exact ⟨by show 4 ≤ sizeLine; decide, k⟩
inductive Dd where
  | go (n : Int) | press (b : Bool) | start | stop | give (b : Bool) (n : Int)
def Dd.word : Dd → Str
  | .go _ => "go"
  | .press _ => "press"
  | .start => "start"
  | .stop => "stop"
  | .give b _ => if b = true then "give1" else "give0"
def Dd.num : Dd → Int
  | .go n => n
  | .press b => tI b
  | .start => 0
  | .stop => 0
  | .give _ n => n
def doD (gs : List Sg) : Dd → Cs → Res
  | .go n => doGo n gs
  | .press b => doPress b gs
  | .start => doStart
  | .stop => doStop
  | .give b n => doGive b n
def rW : Rf → Str
  | .ticks => "ticks"
  | .now => "now"
  | .over => "over"
def resV : Res → V
  | .ok (v, _) => v
  | .error r => .str (rW r)
def resX (x : Cs) : Res → Cs
  | .ok (_, x') => x'
  | .error _ => x
def spTold2 (a : Ads) : Sp := fun vs H Q _ => ∃ c x d, vs = [.ref c.p, .str (Dd.word d), .int (Dd.num d)] ∧ CkAt a H c x ∧ ∀ H', CkAt a H' c (resX x (doD c.gs d x)) → Kp c H H' → Q (resV (doD c.gs d x)) H'
theorem kitR (T : Txt K mg a) (r r' : Rf) : PySem.W.kitOne K (.ref (xr a r)) (.ref (xr a r')) = some (decide (r = r')) := by
  cases r <;> cases r' <;> first | exact T.k1 | exact T.k2 | exact T.k3 | exact T.k6 | exact T.k7 | exact T.k8 | exact T.k11 | exact T.k12 | exact T.k13
theorem kitS (T : Txt K mg a) (r : Rf) : PySem.W.kitOne K (.ref (xr a r)) (.ref a.xBadStages) = some false := by
  cases r <;> first | exact T.k4 | exact T.k9 | exact T.k14
theorem kitV (T : Txt K mg a) (r : Rf) : PySem.W.kitOne K (.ref (xr a r)) (.type "ValueError") = some true := by
  cases r <;> first | exact T.k5 | exact T.k10 | exact T.k15
theorem exmR (T : Txt K mg a) (r : Rf) : PySem.W.exmOne K (.ref (xr a r)) (.ref a.xClockError) = some true := by
  cases r <;> first | exact T.e0 | exact T.e1 | exact T.e2
theorem excR (T : Txt K mg a) (r : Rf) : ExcC K (xr a r) := by
  cases r <;> first | exact T.x_BadTicks | exact T.x_NotNow | exact T.x_Over
def rfB (r : Rf) : List Bool := [decide (r = .ticks), decide (r = .now), decide (r = .over)]
def rfI : Rf → Nat
  | .ticks => 0
  | .now => 1
  | .over => 2
theorem rfB_count (r : Rf) : (rfB r).count true = 1 := by cases r <;> rfl
theorem rfB_at (r : Rf) : (rfB r)[rfI r]? = some true ∧ ∀ i, i < rfI r → (rfB r)[i]? = some false := by
  cases r
  · exact ⟨rfl, fun i h => absurd h (Nat.not_lt_zero _)⟩
  · refine ⟨rfl, fun i h => ?_⟩
    have h' : i < 1 := h
    have : i = 0 := by omega
    subst this; rfl
  · refine ⟨rfl, fun i h => ?_⟩
    have h' : i < 2 := h
    have : i = 0 ∨ i = 1 := by omega
    rcases this with rfl | rfl <;> rfl
theorem rfB_word (r : Rf) : atI [V.str "ticks", V.str "now", V.str "over"] (rfI r) = some (.str (rW r)) := by cases r <;> rfl
theorem give_at (b : Bool) (n : Int) : atI (Dd.word (.give b n)).cps.toList (-1) = some (if b = true then 49 else 48) := by
  cases b
  · show atI (Str.ofString "give0").cps.toList (-1) = some 48; decide +kernel
  · show atI (Str.ofString "give1").cps.toList (-1) = some 49; decide +kernel
theorem give_len (b : Bool) (n : Int) : (Dd.word (.give b n)).length ≤ 5 := by
  cases b
  · show (Str.ofString "give0").length ≤ 5; decide +kernel
  · show (Str.ofString "give1").length ≤ 5; decide +kernel
theorem give_ne {b : Bool} {n : Int} {z : Str} (h0 : ¬ V.str "give0" = V.str z) (h1 : ¬ V.str "give1" = V.str z) : ¬ V.str (Dd.word (.give b n)) = V.str z := by
  cases b
  · exact h0
  · exact h1
theorem give_int (b : Bool) : PySem.intText? ⟨#[if b = true then 49 else 48]⟩ = some (tI b) := by cases b <;> decide +kernel
theorem sideOf_tI (b : Bool) : sideOf (tI b) = some b := by cases b <;> rfl
theorem ok_law_told (T : Txt K mg a) : Has P w K mg base CX0 7 "_law_told" ["_law_clock", "_law_word", "_law_number"] (spTold2 a) := by
  have G_Clock_go := ok_go (P := P) (w := w) (base := base) T
  have G_Clock_press := ok_press (P := P) (w := w) (base := base) T
  have G_Clock_start := ok_start (P := P) (w := w) (base := base) T
  have G_Clock_stop := ok_stop (P := P) (w := w) (base := base) T
  have G_Clock_give := ok_give (P := P) (w := w) (base := base) T
  refine T.f_law_told.has fun f fd F => F.ok sc_law_told (fun vs H Q E h => ?_) (fun cdv A outer s H vs Q E hr h => ?_)
  · obtain ⟨c, x, d, rfl, _⟩ := h; rfl
  · obtain ⟨c, x, d, rfl, hc, k⟩ := h
    refine ⟨_, (pss_cons (ps_set (i := 3) sc_law_told.nd rfl (Or.inl rfl) pe_non) (pss_cons (ps_set (i := 4) sc_law_told.nd rfl (Or.inl rfl) pe_non) (pss_cons (ps_try (i := 3) (j := 5) rfl rfl rfl (psx_if (pt_cmpR op_eq (pv 1) pe_str (nomark _)) (psx_set (i := 4) sc_law_told.nd rfl (Or.inl rfl) (pex_methH (pv 0) T.cl_Clock G_Clock_go hr (pa_c (pv 2) pa_nil ns_name) (hst := star_cons ns_name) (hpl := star_any ns_nil))) (psx_if (pt_cmpR op_eq (pv 1) pe_str (nomark _)) (psx_set (i := 4) sc_law_told.nd rfl (Or.inl rfl) (pex_methH (pv 0) T.cl_Clock G_Clock_press hr (pa_c (pv 2) pa_nil ns_name) (hst := star_cons ns_name) (hpl := star_any ns_nil))) (psx_if (pt_cmpR op_eq (pv 1) pe_str (nomark _)) (psx_set (i := 4) sc_law_told.nd rfl (Or.inl rfl) (pex_methH0 (pv 0) T.cl_Clock G_Clock_start hr)) (psx_if (pt_cmpR op_eq (pv 1) pe_str (nomark _)) (psx_set (i := 4) sc_law_told.nd rfl (Or.inl rfl) (pex_methH0 (pv 0) T.cl_Clock G_Clock_stop hr)) (psx_set (i := 4) sc_law_told.nd rfl (Or.inl rfl) (pex_methH (pv 0) T.cl_Clock G_Clock_give hr (pa_c (pe_callTy call_int_text (by rfl) T.n_int boot_int (pa_c (pe_ix ix_str (pv 1) (pe_un un_neg pe_int) (fun _ _ => rfl)) pa_nil ns_sub) (he := star_cons ns_sub) (hpl := star_any ns_nil)) (pa_c (pv 2) pa_nil ns_name) ns_call) (hst := star_cons ns_call) (hpl := star_any (ns_cons ns_name ns_nil)))))))) rfl T.g_ClockError sc_law_told.nd rfl rfl (by decide) rfl rfl) (pss_cons (ps_if (pt_cmpR op_isN (pv 3) pe_non (nomark _)) (pss_one (ps_ret (pv 4))) pss_nil) (pss_cons (ps_set (i := 6) sc_law_told.nd rfl (Or.inl rfl) (pe_lst (pa_c (pe_callB call_isinstX (by rfl) T.n_isinstance boot_isinstance (pa_c (pv 3) (pa_c (pe_gR rfl T.g_BadTicks) pa_nil ns_name) ns_name) (he := star_cons ns_name) (hpl := star_any (ns_cons ns_name ns_nil))) (pa_c (pe_callB call_isinstX (by rfl) T.n_isinstance boot_isinstance (pa_c (pv 3) (pa_c (pe_gR rfl T.g_NotNow) pa_nil ns_name) ns_name) (he := star_cons ns_name) (hpl := star_any (ns_cons ns_name ns_nil))) (pa_c (pe_callB call_isinstX (by rfl) T.n_isinstance boot_isinstance (pa_c (pv 3) (pa_c (pe_gR rfl T.g_Over) pa_nil ns_name) ns_name) (he := star_cons ns_name) (hpl := star_any (ns_cons ns_name ns_nil))) pa_nil ns_call) ns_call) ns_call))) (pss_cons (ps_if (PW.pt (pw_or (pt_cmpR op_ne (pe_bm1 PySem.F.plainAttrs_list PySem.F.slot_list_count PySem.F.type_list_count mt_countT (pv 6) (pa_c pe_bl pa_nil ns_con) ns_con) pe_int (nomark _)) (pw_or (pt_val (pe_callB call_isinstX (by rfl) T.n_isinstance boot_isinstance (pa_c (pv 3) (pa_c (pe_gR rfl T.g_BadStages) pa_nil ns_name) ns_name) (he := star_cons ns_name) (hpl := star_any (ns_cons ns_name ns_nil))) (fun _ => rfl)) (pw_or1 (pt_not (pt_val (pe_callB call_isinstX (by rfl) T.n_isinstance boot_isinstance (pa_c (pv 3) (pa_c (pe_bT rfl T.n_ValueError boot_ValueError) pa_nil ns_name) ns_name) (he := star_cons ns_name) (hpl := star_any (ns_cons ns_name ns_nil))) (fun _ => rfl))))))) (pss_one (ps_ret pe_str)) pss_nil) (pss_one (ps_ret (pe_ix ix_list (pe_lst (pa_c pe_str (pa_c pe_str (pa_c pe_str pa_nil ns_con) ns_con) ns_con)) (pe_bm1 PySem.F.plainAttrs_list PySem.F.slot_list_index PySem.F.type_list_index mt_indexT (pv 6) (pa_c pe_bl pa_nil ns_con) ns_con) (fun _ _ => rfl)))))))))), ?_⟩
    walk_at "rs"
    refine rd_join (fun σ' H' => ∃ vk vf, σ' = [some (.ref c.p), some (.str d.word), some (.int d.num), some vk, some vf, none, none] ∧
      ((vk = .non ∧ ∃ x', doD c.gs d x = .ok (vf, x') ∧ CkAt a H' c x' ∧ Kp c H H') ∨ ∃ r e, doD c.gs d x = .error r ∧ vk = .ref e ∧ H' e = some (.ext (IsExc e (xr a r))) ∧ Same H H')) ?_ ?_
    · rintro σ' H1 ⟨vk, vf, rfl, ⟨rfl, x', hd, hc', kp⟩ | ⟨r, e, hd, rfl, he, sm⟩⟩
      · walk_at "rd"
        refine rd_ite (fun _ => ?_) (fun z => absurd rfl z)
        walk_at "rd"
        rw [hd] at k
        exact k H1 hc' kp
      · have hx := excR T r
        walk_at "rd"
        refine rd_ite (fun z => by cases z) (fun _ => ?_)
        walk_at "rd"
        refine ⟨e, xr a r, _, _, _, rfl, rfl, he, hx, kitR T r .ticks, ?_⟩
        walk_at "rd"
        refine ⟨e, xr a r, _, _, _, rfl, rfl, he, hx, kitR T r .now, ?_⟩
        walk_at "rd"
        refine ⟨e, xr a r, _, _, _, rfl, rfl, he, hx, kitR T r .over, ?_⟩
        walk_at "rd"
        refine ⟨by show 3 ≤ sizeLine; decide, fun q hq => ?_⟩
        have hq2 : (upd H1 q (.lst [.bl (decide (r = .ticks)), .bl (decide (r = .now)), .bl (decide (r = .over))])) q = some (.lst ((rfB r).map V.bl)) := upd_same
        have he2 := same_upd (o := .lst [.bl (decide (r = .ticks)), .bl (decide (r = .now)), .bl (decide (r = .over))]) hq _ _ he
        have sm2 := sm.trans (same_upd (o := .lst [.bl (decide (r = .ticks)), .bl (decide (r = .now)), .bl (decide (r = .over))]) hq)
        generalize upd H1 q (.lst [.bl (decide (r = .ticks)), .bl (decide (r = .now)), .bl (decide (r = .over))]) = H2 at hq2 he2 sm2
        walk_at "rd"
        refine ⟨.inl ⟨rfl, _, SqL.of hq2⟩, ?_⟩
        walk_at "rd"
        refine ⟨q, rfB r, rfl, rfl, hq2, ?_⟩
        rw [rfB_count]
        walk_at "rd"
        refine rd_iteN (fun z => absurd rfl z) (fun _ => ?_)
        walk_at "rd"
        refine ⟨e, xr a r, _, _, _, rfl, rfl, he2, hx, kitS T r, ?_⟩
        walk_at "rd"
        refine ⟨e, xr a r, _, _, _, rfl, rfl, he2, hx, kitV T r, ?_⟩
        walk_at "rd"
        refine ⟨by show 3 ≤ sizeLine; decide, fun q2 hq3 => ?_⟩
        walk_at "rd"
        refine ⟨.inl ⟨rfl, _, SqL.of (same_upd hq3 _ _ hq2)⟩, ?_⟩
        walk_at "rd"
        refine ⟨q, rfB r, rfI r, rfl, rfl, same_upd hq3 _ _ hq2, (rfB_at r).1, (rfB_at r).2, by show 3 ≤ 1000; decide, ?_⟩
        refine rd_ixL (SqL.of upd_same) (rfB_word r) ?_
        rw [hd] at k
        have sm3 := sm2.trans (same_upd (o := .lst [V.str "ticks", V.str "now", V.str "over"]) hq3)
        exact k _ (hc.same sm3) (Kp.of sm3)
    · intro nx hnx
      have ke : ∀ r, doD c.gs d x = .error r → ∃ C, Value.ref (xr a r) = .ref C ∧ PySem.W.exmOne K (.ref C) (.ref a.xClockError) = some true ∧ ∀ e, H e = none → nx (([some (.ref c.p), some (.str d.word), some (.int d.num), some .non, some .non, none, none].set 3 (some (.ref e))).set 5 none) (upd H e (.ext (IsExc e C))) := fun r hr =>
        ⟨xr a r, rfl, exmR T r, fun e he => hnx _ _ ⟨_, _, rfl, .inr ⟨r, e, hr, rfl, upd_same, same_upd he⟩⟩⟩
      have ko : ∀ v x', doD c.gs d x = .ok (v, x') → ∀ H', CkAt a H' c x' → Kp c H H' → nx ([some (.ref c.p), some (.str d.word), some (.int d.num), some .non, some .non, none, none].set 4 (some v)) H' := fun v x' hr H' hc' kp => hnx _ _ ⟨_, _, rfl, .inl ⟨rfl, x', hr, hc', kp⟩⟩
      have fin : ∀ (f : List Sg → Cs → Res), doD c.gs d x = f c.gs x → (match f c.gs x with
          | .ok (v, x') => ∀ H', CkAt a H' c x' → Kp c H H' → nx ([some (.ref c.p), some (.str d.word), some (.int d.num), some .non, some .non, none, none].set 4 (some v)) H'
          | .error r => ∃ C, Value.ref (xr a r) = .ref C ∧ PySem.W.exmOne K (.ref C) (.ref a.xClockError) = some true ∧ ∀ e, H e = none → nx (([some (.ref c.p), some (.str d.word), some (.int d.num), some .non, some .non, none, none].set 3 (some (.ref e))).set 5 none) (upd H e (.ext (IsExc e C)))) := fun f hf => by
        split
        · rename_i v x' h1
          exact ko v x' (hf.trans h1)
        · rename_i r h1
          exact ke r (hf.trans h1)
      walk_at "rd"
      cases d with
      | go n =>
        refine rd_ite (fun _ => ?_) (fun z => absurd rfl z)
        walk_at "rd"
        refine ⟨c.p, c.dx, _, rfl, hc.ck, cl_no _ _ _ _ _ (noMeth (by decide +kernel)), ?_⟩
        walk_at "rd"
        exact ⟨c, x, [.int n], doGo n, rfl, rfl, hc, fin (doGo n) rfl⟩
      | press b =>
        refine rd_ite (fun z => absurd z (show ¬ V.str "press" = V.str "go" by decide +kernel)) (fun _ => ?_)
        walk_at "rd"
        refine rd_ite (fun _ => ?_) (fun z => absurd rfl z)
        walk_at "rd"
        refine ⟨c.p, c.dx, _, rfl, hc.ck, cl_no _ _ _ _ _ (noMeth (by decide +kernel)), ?_⟩
        walk_at "rd"
        exact ⟨c, x, [.int (tI b)], doPress b, rfl, by show (sideOf (tI b)).map doPress = _; rw [sideOf_tI]; rfl, hc, fin (doPress b) rfl⟩
      | start =>
        refine rd_ite (fun z => absurd z (show ¬ V.str "start" = V.str "go" by decide +kernel)) (fun _ => ?_)
        walk_at "rd"
        refine rd_ite (fun z => absurd z (show ¬ V.str "start" = V.str "press" by decide +kernel)) (fun _ => ?_)
        walk_at "rd"
        refine rd_ite (fun _ => ?_) (fun z => absurd rfl z)
        walk_at "rd"
        refine ⟨c.p, c.dx, _, rfl, hc.ck, cl_no _ _ _ _ _ (noMeth (by decide +kernel)), ?_⟩
        walk_at "rd"
        exact ⟨c, x, [], fun _ => doStart, rfl, rfl, hc, fin (fun _ => doStart) rfl⟩
      | stop =>
        refine rd_ite (fun z => absurd z (show ¬ V.str "stop" = V.str "go" by decide +kernel)) (fun _ => ?_)
        walk_at "rd"
        refine rd_ite (fun z => absurd z (show ¬ V.str "stop" = V.str "press" by decide +kernel)) (fun _ => ?_)
        walk_at "rd"
        refine rd_ite (fun z => absurd z (show ¬ V.str "stop" = V.str "start" by decide +kernel)) (fun _ => ?_)
        walk_at "rd"
        refine rd_ite (fun _ => ?_) (fun z => absurd rfl z)
        walk_at "rd"
        refine ⟨c.p, c.dx, _, rfl, hc.ck, cl_no _ _ _ _ _ (noMeth (by decide +kernel)), ?_⟩
        walk_at "rd"
        exact ⟨c, x, [], fun _ => doStop, rfl, rfl, hc, fin (fun _ => doStop) rfl⟩
      | give b n =>
        have hz : 1000 ≤ sizeLine := by decide
        have hl5 := give_len b n
        refine rd_ite (fun z => absurd z (give_ne (by decide +kernel) (by decide +kernel))) (fun _ => ?_)
        walk_at "rd"
        refine rd_ite (fun z => absurd z (give_ne (by decide +kernel) (by decide +kernel))) (fun _ => ?_)
        walk_at "rd"
        refine rd_ite (fun z => absurd z (give_ne (by decide +kernel) (by decide +kernel))) (fun _ => ?_)
        walk_at "rd"
        refine rd_ite (fun z => absurd z (give_ne (by decide +kernel) (by decide +kernel))) (fun _ => ?_)
        walk_at "rd"
        refine ⟨c.p, c.dx, _, rfl, hc.ck, cl_no _ _ _ _ _ (noMeth (by decide +kernel)), ?_⟩
        walk_at "rd"
        refine ⟨_, _, _, rfl, rfl, by omega, give_at b n, ?_⟩
        walk_at "rd"
        refine ⟨_, _, rfl, give_int b, by show 1 ≤ 640; decide, ?_⟩
        walk_at "rd"
        exact ⟨c, x, [.int (tI b), .int n], fun _ => doGive b n, rfl, by show (sideOf (tI b)).map (fun b (_ : List Sg) => doGive b n) = _; rw [sideOf_tI]; rfl, hc, fin (fun _ => doGive b n) rfl⟩
def spStages (K : PySem.W.Frag) : Sp := fun vs H Q _ => ∃ l ns k, vs = [.ref l, .int k] ∧ SqL K H l (List.map V.int ns) ∧
  ∀ H' p ps gs, Same H H' → H p = none → H' p = some (.lst (refs ps)) → StAt H' ps gs → Drawn gs → Q (.ref p) H'
theorem StAt.snoc {H : Hp} {ps : List Addr} {gs : List Sg} {q : Addr} {g : Sg} (x : StAt H ps gs) (h : H q = some (.tup g.vs)) : StAt H (ps ++ [q]) (gs ++ [g]) := by
  refine ⟨by rw [List.length_append, List.length_append, x.len]; rfl, fun i p g' h1 h2 => ?_⟩
  have hl := x.len
  by_cases hi : i < ps.length
  · rw [List.getElem?_append_left hi] at h1
    rw [List.getElem?_append_left (by omega)] at h2
    exact x.at_ i p g' h1 h2
  · rw [List.getElem?_append_right (by omega)] at h1
    rw [List.getElem?_append_right (by omega)] at h2
    have hi2 : i - ps.length < 1 := by
      have := (List.getElem?_eq_some_iff.mp h1).1
      simpa using this
    have e1 : i - ps.length = 0 := by omega
    have e2 : i - gs.length = 0 := by omega
    rw [e1] at h1
    rw [e2] at h2
    simp at h1 h2
    subst h1 h2
    exact h
theorem refs_snoc {ps : List Addr} {q : Addr} : refs ps ++ [V.ref q] = refs (ps ++ [q]) := by unfold refs; rw [List.map_append]; rfl
theorem StAt.lset {H : Hp} {ps : List Addr} {gs : List Sg} {p : Addr} {xs ys : List V} (x : StAt H ps gs) (hp : H p = some (.lst xs)) : StAt (L2.upd H p (HO.lst ys)) ps gs :=
  ⟨x.len, fun i q g h1 h2 => by rw [upd_ne (ne_of (x.at_ i q g h1 h2) hp (by intro z; cases z))]; exact x.at_ i q g h1 h2⟩
theorem same_out {H H' : Hp} {p : Addr} {o : HO} (s : Same H H') (h : H p = none) : Same H (upd H' p o) := fun b u e => by rw [upd_ne (ne_of_none e h)]; exact s b u e
theorem StAt.more {H : Hp} {ps : List Addr} {gs : List Sg} {p q : Addr} {g : Sg} (x : StAt H ps gs) (hp : H p = some (.lst (refs ps))) (hq : H q = none) :
    StAt (L2.upd (L2.upd H q (HO.tup g.vs)) p (HO.lst (refs (ps ++ [q])))) (ps ++ [q]) (gs ++ [g]) ∧ (L2.upd (L2.upd H q (HO.tup g.vs)) p (HO.lst (refs (ps ++ [q])))) p = some (HO.lst (refs (ps ++ [q]))) :=
  ⟨StAt.lset (xs := refs ps) (((x.same (same_upd hq)).snoc upd_same)) (by rw [upd_ne (ne_of_none hp hq)]; exact hp), upd_same⟩
theorem ok_law_stages (T : Txt K mg a) : Has P w K mg base CX0 3 "_law_stages" ["_law_script", "_law_k"] (spStages K) := by
  have G_law_mix := ok_law_mix (P := P) (w := w) (base := base) T
  refine T.f_law_stages.has fun f fd F => F.ok sc_law_stages (fun vs H Q E h => ?_) (fun cdv A outer s H vs Q E hr h => ?_)
  · obtain ⟨l, ns, k, rfl, _⟩ := h; rfl
  · obtain ⟨l, ns, kk, rfl, hl, k⟩ := h
    have hu := hu_of hr
    refine ⟨_, (pss_cons (ps_set (i := 2) sc_law_stages.nd rfl (Or.inl rfl) (pe_lst pa_nil)) (pss_cons (ps_for PassesOwn.never rfl (pi_range1 rfl T.n_range (pa_c (pe_op op_mod (pe_callH G_law_mix hr (pa_c (pv 0) (pa_c (pv 1) pa_nil ns_name) ns_name) (he := star_cons ns_name) (hpl := star_any (ns_cons ns_name ns_nil))) pe_int) pa_nil ns_bin)) (pg_name (i := 3) sc_law_stages.nd rfl (Or.inl rfl)) (pss_cons (ps_set (i := 4) sc_law_stages.nd rfl (Or.inl rfl) (pe_callH G_law_mix hr (pa_c (pv 0) (pa_c (pe_op op_add (pe_op op_add (pv 1) pe_int) (pv 3)) pa_nil ns_bin) ns_name) (he := star_cons ns_name) (hpl := star_any (ns_cons ns_bin ns_nil)))) (pss_cons (ps_set (i := 5) sc_law_stages.nd rfl (Or.inl rfl) (pe_ix ix_list (pe_lst (pa_c pe_str (pa_c pe_str (pa_c pe_str (pa_c pe_str pa_nil ns_con) ns_con) ns_con) ns_con)) (pe_op op_mod (pv 4) pe_int) (fun _ _ => rfl))) (pss_one (ps_expr (pe_bm1 PySem.F.plainAttrs_list PySem.F.slot_list_append PySem.F.type_list_append mt_append (pv 2) (pa_c (pe_tup (pa_c pe_str (pa_c (pe_op op_add pe_int (pe_op op_mod (pe_op op_fdiv (pv 4) pe_int) pe_int)) (pa_c (pe_op op_add pe_int (pe_op op_mod (pe_op op_fdiv (pv 4) pe_int) pe_int)) (pa_c (pv 5) (pa_c (pe_op op_mod (pe_op op_fdiv (pv 4) pe_int) pe_int) pa_nil ns_bin) ns_name) ns_bin) ns_bin) ns_con)) pa_nil ns_tup) ns_tup)))))) (pss_cons (ps_set (i := 4) sc_law_stages.nd rfl (Or.inl rfl) (pe_callH G_law_mix hr (pa_c (pv 0) (pa_c (pe_op op_add (pv 1) pe_int) pa_nil ns_bin) ns_name) (he := star_cons ns_name) (hpl := star_any (ns_cons ns_bin ns_nil)))) (pss_cons (ps_if (PW.pt (pw_or (pt_cmpR op_lt (pe_op op_mod (pv 4) pe_int) pe_int (nomark _)) (pw_or1 (PW.pt (pw_and (pt_cmpR (op_eqL hu) (pv 2) (pe_lst pa_nil) (nomark _)) (pw_and1 (pt_cmpR op_eq (pe_op op_mod (pe_op op_fdiv (pv 4) pe_int) pe_int) pe_int (nomark _)))))))) (pss_cons (ps_set (i := 5) sc_law_stages.nd rfl (Or.inl rfl) (pe_ix ix_list (pe_lst (pa_c pe_str (pa_c pe_str (pa_c pe_str (pa_c pe_str pa_nil ns_con) ns_con) ns_con) ns_con)) (pe_op op_mod (pe_op op_fdiv (pv 4) pe_int) pe_int) (fun _ _ => rfl))) (pss_one (ps_expr (pe_bm1 PySem.F.plainAttrs_list PySem.F.slot_list_append PySem.F.type_list_append mt_append (pv 2) (pa_c (pe_tup (pa_c pe_str (pa_c pe_non (pa_c (pe_op op_add pe_int (pe_op op_mod (pe_op op_fdiv (pv 4) pe_int) pe_int)) (pa_c (pv 5) (pa_c (pe_op op_mod (pe_op op_fdiv (pv 4) pe_int) pe_int) pa_nil ns_bin) ns_name) ns_bin) ns_con) ns_con)) pa_nil ns_tup) ns_tup)))) pss_nil) (pss_cons (ps_if (pt_cmpR op_gt (pe_op op_mod (pv 4) pe_int) pe_int (nomark _)) (pss_one (ps_expr (pe_bm1 PySem.F.plainAttrs_list PySem.F.slot_list_append PySem.F.type_list_append mt_append (pv 2) (pa_c (pe_tup (pa_c pe_str (pa_c (pe_op op_add pe_int (pe_op op_mod (pe_op op_fdiv (pv 4) pe_int) pe_int)) (pa_c (pe_op op_add pe_int (pe_op op_mod (pe_op op_fdiv (pv 4) pe_int) pe_int)) pa_nil ns_bin) ns_bin) ns_con)) pa_nil ns_tup) ns_tup))) pss_nil) (pss_one (ps_ret (pv 2)))))))), ?_⟩
    walk_at "rd"
    refine ⟨by show 0 ≤ sizeLine; decide, fun p hp => ?_⟩
    have s0 : Same H (upd H p (.lst (refs []))) := same_upd hp
    walk_at "rd"
    refine ⟨l, ns, kk, rfl, s0.seq hl, fun r0 => ?_⟩
    walk_at "rd"
    have h3 := Int.emod_nonneg r0 (show (3 : Int) ≠ 0 by decide)
    have h4 := Int.emod_lt_of_pos r0 (show (0 : Int) < 3 by decide)
    refine ⟨_, rfl, by omega, by omega, for_range (lo := 0) (fun i σ H1 => (∃ v3 v4 v5, σ = [some (.ref l), some (.int kk), some (.ref p), v3, v4, v5]) ∧ Same H H1 ∧ ∃ ps gs, H1 p = some (.lst (refs ps)) ∧ StAt H1 ps gs ∧ gs.length = i ∧ ∀ g ∈ gs, isMv g)
      ⟨⟨none, none, none, rfl⟩, s0, [], [], upd_same, ⟨rfl, fun i p g h => by simp at h⟩, rfl, fun g h => by simp at h⟩ ?_ ?_⟩
    · rintro i σ H1 hi ⟨⟨v3, v4, v5, rfl⟩, sm, ps, gs, h1p, hst, hgl, hmv⟩
      walk_at "rd"
      refine ⟨l, ns, _, rfl, sm.seq hl, fun n => ?_⟩
      walk_at "rd"
      refine ⟨by show 4 ≤ sizeLine; decide, fun q hq => ?_⟩
      walk_at "rd"
      obtain ⟨ww, hw1, hw2⟩ := four (Int.emod_nonneg n (show (4 : Int) ≠ 0 by decide)) (Int.emod_lt_of_pos n (show (0 : Int) < 4 by decide))
      refine rd_ixL (SqL.of upd_same) hw1 ?_
      have sm1 := sm.trans (same_upd (o := .lst ways) hq)
      have hst1 := hst.same (same_upd (o := .lst ways) hq)
      have h1p1 : (upd H1 q (.lst ways)) p = some (.lst (refs ps)) := by rw [upd_ne (ne_of_none h1p hq)]; exact h1p
      change _ at h1p1
      walk_at "rd"
      refine ⟨.inl ⟨rfl, _, SqL.of h1p1⟩, ?_⟩
      walk_at "rd"
      refine ⟨by show 5 ≤ sizeLine; decide, fun t ht => ?_⟩
      walk_at "rd"
      have a1 := Int.emod_nonneg (n / 4) (show (4 : Int) ≠ 0 by decide)
      have a2 := Int.emod_lt_of_pos (n / 4) (show (0 : Int) < 4 by decide)
      have b1 := Int.emod_nonneg (n / 16) (show (40 : Int) ≠ 0 by decide)
      have b2 := Int.emod_lt_of_pos (n / 16) (show (0 : Int) < 40 by decide)
      have c1 := Int.emod_nonneg (n / 640) (show (7 : Int) ≠ 0 by decide)
      have c2 := Int.emod_lt_of_pos (n / 640) (show (0 : Int) < 7 by decide)
      have hmvg : isMv (.five "main" (some (1 + n / 4 % 4)) (1 + n / 16 % 40) ww (n / 640 % 7)) := mk_mv (inn_mk (by omega) (by omega)) (inn_mk (by omega) (by omega)) hw2 (inn_mk (by omega) (by omega))
      have h5 : ps.length ≤ 2 := by have := hst.len; omega
      refine ⟨p, refs ps, _, rfl, rfl, by rw [upd_ne (ne_of_none h1p1 ht)]; exact h1p1, by rw [refs_len]; exact small1000 (by omega), ?_⟩
      rw [refs_snoc]
      obtain ⟨m1, m2⟩ := hst1.more (g := .five "main" (some (1 + n / 4 % 4)) (1 + n / 16 % 40) ww (n / 640 % 7)) h1p1 ht
      refine ⟨⟨_, _, _, rfl⟩, same_out (sm1.trans (same_upd ht)) hp, _, _, m2, m1, by rw [List.length_append]; simp; omega, fun g hg => ?_⟩
      rcases List.mem_append.mp hg with z | z
      · exact hmv g z
      · simp at z; subst z; exact hmvg
    · rintro σ H1 ⟨⟨v3, v4, v5, rfl⟩, sm, ps, gs, h1p, hst, hgl, hmv⟩
      walk_at "rd"
      refine ⟨l, ns, _, rfl, sm.seq hl, fun n => ?_⟩
      walk_at "rs"
      have n0 := Int.emod_nonneg n (show (3 : Int) ≠ 0 by decide)
      have n1 := Int.emod_lt_of_pos n (show (0 : Int) < 3 by decide)
      have hpl : ps.length ≤ 2 := by have := hst.len; omega
      have hgl2 : gs.length ≤ 2 := by have := hst.len; omega
      refine rd_joinIf (fun σ' H' => ∃ v5 ts ps', σ' = [some (.ref l), some (.int kk), some (.ref p), v3, some (.int n), v5] ∧ Same H H' ∧ H' p = some (.lst (refs ps')) ∧ StAt H' ps' (gs ++ ts) ∧ ((ts = [] ∧ n % 3 = 2) ∨ ∃ g, ts = [g] ∧ isEn g)) ?_ ?_
      · rintro σ' H2 ⟨v5', ts, ps', rfl, sm2, h2p, hst2, hts⟩
        have hpl2 : ps'.length ≤ 3 := by
          have := hst2.len
          rw [List.length_append] at this
          rcases hts with ⟨rfl, _⟩ | ⟨g, rfl, _⟩
          · simp at this; omega
          · simp at this; omega
        walk_at "rd"
        refine rd_ite (fun hpos => ?_) (fun hpos => ?_)
        · walk_at "rd"
          refine ⟨.inl ⟨rfl, _, SqL.of h2p⟩, ?_⟩
          walk_at "rd"
          refine ⟨by show 3 ≤ sizeLine; decide, fun t ht => ?_⟩
          walk_at "rd"
          refine ⟨p, refs ps', _, rfl, rfl, by rw [upd_ne (ne_of_none h2p ht)]; exact h2p, by rw [refs_len]; exact small1000 (by omega), ?_⟩
          rw [refs_snoc]
          have a1 := Int.emod_nonneg (n / 7000) (show (4 : Int) ≠ 0 by decide)
          have a2 := Int.emod_lt_of_pos (n / 7000) (show (0 : Int) < 4 by decide)
          have b1 := Int.emod_nonneg (n / 28000) (show (12 : Int) ≠ 0 by decide)
          have b2 := Int.emod_lt_of_pos (n / 28000) (show (0 : Int) < 12 by decide)
          have hov : isOv (.three "over" (1 + n / 7000 % 4) (1 + n / 28000 % 12)) := mk_ov (inn_mk (by omega) (by omega)) (inn_mk (by omega) (by omega))
          obtain ⟨m1, m2⟩ := hst2.more (g := .three "over" (1 + n / 7000 % 4) (1 + n / 28000 % 12)) h2p ht
          walk_at "rd"
          rw [List.append_assoc] at m1
          refine k _ p _ _ (same_out (sm2.trans (same_upd ht)) hp) hp m2 m1 (drawn_of hmv ?_ hgl2)
          rcases hts with ⟨rfl, _⟩ | ⟨g, rfl, hg⟩
          · exact .inl ⟨_, rfl, .inr hov⟩
          · exact .inr ⟨_, _, rfl, hg, hov⟩
        · walk_at "rd"
          refine k _ p _ _ sm2 hp h2p hst2 (drawn_of hmv ?_ hgl2)
          rcases hts with ⟨rfl, z⟩ | ⟨g, rfl, hg⟩
          · omega
          · exact .inl ⟨_, rfl, .inl hg⟩
      · intro nx hnx
        refine rd_ifS (rd_gen (fun b H2 => Same H H2 ∧ H2 p = some (.lst (refs ps)) ∧ StAt H2 ps gs ∧ (b = false → n % 3 = 2)) ?_ ?_)
        · rintro b H2 ⟨sm2, h2p, hst2, hb⟩
          refine rd_iteB (fun hbt => ?_) (fun hbf => ?_)
          · walk_at "rd"
            refine ⟨by show 4 ≤ sizeLine; decide, fun q hq => ?_⟩
            walk_at "rd"
            obtain ⟨ww, hw1, hw2⟩ := four (Int.emod_nonneg (n / 3) (show (4 : Int) ≠ 0 by decide)) (Int.emod_lt_of_pos (n / 3) (show (0 : Int) < 4 by decide))
            refine rd_ixL (SqL.of upd_same) hw1 ?_
            have sm1 := sm2.trans (same_upd (o := .lst ways) hq)
            have hst1 := hst2.same (same_upd (o := .lst ways) hq)
            have h1p1 : (upd H2 q (.lst ways)) p = some (.lst (refs ps)) := by rw [upd_ne (ne_of_none h2p hq)]; exact h2p
            walk_at "rd"
            refine ⟨.inl ⟨rfl, _, SqL.of h1p1⟩, ?_⟩
            walk_at "rd"
            refine ⟨by show 5 ≤ sizeLine; decide, fun t ht => ?_⟩
            walk_at "rd"
            refine ⟨p, refs ps, _, rfl, rfl, by rw [upd_ne (ne_of_none h1p1 ht)]; exact h1p1, by rw [refs_len]; exact small1000 (by omega), ?_⟩
            rw [refs_snoc]
            have b1 := Int.emod_nonneg (n / 12) (show (60 : Int) ≠ 0 by decide)
            have b2 := Int.emod_lt_of_pos (n / 12) (show (0 : Int) < 60 by decide)
            have c1 := Int.emod_nonneg (n / 720) (show (9 : Int) ≠ 0 by decide)
            have c2 := Int.emod_lt_of_pos (n / 720) (show (0 : Int) < 9 by decide)
            have hen : isEn (.five "main" none (1 + n / 12 % 60) ww (n / 720 % 9)) := mk_en (inn_mk (by omega) (by omega)) hw2 (inn_mk (by omega) (by omega))
            obtain ⟨m1, m2⟩ := hst1.more (g := .five "main" none (1 + n / 12 % 60) ww (n / 720 % 9)) h1p1 ht
            exact hnx _ _ ⟨_, _, _, rfl, same_out (sm1.trans (same_upd ht)) hp, m2, m1, .inr ⟨_, rfl, hen⟩⟩
          · walk_at "rd"
            exact hnx _ _ ⟨v5, [], ps, rfl, sm2, h2p, by rw [List.append_nil]; exact hst2, .inl ⟨rfl, hb hbf⟩⟩
        · intro QB hQ
          walk_at "rd"
          refine rd_ite (fun h1 => ?_) (fun h1 => ?_)
          · exact hQ _ _ ⟨sm, h1p, hst, fun z => by cases z⟩
          · have hn2 : n % 3 = 2 := by omega
            walk_at "rd"
            refine ⟨by show 0 ≤ sizeLine; decide, fun q hq => ?_⟩
            have sm1 := sm.trans (same_upd (o := .lst []) hq)
            have hst1 := hst.same (same_upd (o := .lst []) hq)
            have h1p1 : (upd H1 q (.lst [])) p = some (.lst (refs ps)) := by rw [upd_ne (ne_of_none h1p hq)]; exact h1p
            have hfin : ∀ b, QB b (upd H1 q (.lst [])) := fun b => hQ _ _ ⟨sm1, h1p1, hst1, fun _ => hn2⟩
            refine ⟨p, q, refs ps, [], rfl, rfl, SqL.of h1p1, SqL.of upd_same, ?_⟩
            cases ps with
            | nil =>
              refine .inr ⟨rfl, fun v hv => absurd (show v ∈ ([] : List V) from hv) List.not_mem_nil, ?_⟩
              walk_at "rd"
              exact hfin _
            | cons y ys =>
              refine .inl ⟨by rw [refs_len]; simp, ?_⟩
              walk_at "rd"
              exact hfin _
structure DdAt (H : Hp) (qs : List Addr) (ds : List Dd) : Prop where
  len : qs.length = ds.length
  at_ : ∀ (i : Nat) q d, qs[i]? = some q → ds[i]? = some d → H q = some (.tup [.str (Dd.word d), .int (Dd.num d)])
theorem DdAt.same {H H' : Hp} {qs : List Addr} {ds : List Dd} (x : DdAt H qs ds) (s : Same H H') : DdAt H' qs ds := ⟨x.len, fun i q d h1 h2 => s _ _ (x.at_ i q d h1 h2)⟩
theorem DdAt.snoc {H : Hp} {qs : List Addr} {ds : List Dd} {q : Addr} {d : Dd} (x : DdAt H qs ds) (h : H q = some (.tup [.str (Dd.word d), .int (Dd.num d)])) : DdAt H (qs ++ [q]) (ds ++ [d]) := by
  refine ⟨by rw [List.length_append, List.length_append, x.len]; rfl, fun i p g' h1 h2 => ?_⟩
  have hl := x.len
  by_cases hi : i < qs.length
  · rw [List.getElem?_append_left hi] at h1
    rw [List.getElem?_append_left (by omega)] at h2
    exact x.at_ i p g' h1 h2
  · rw [List.getElem?_append_right (by omega)] at h1
    rw [List.getElem?_append_right (by omega)] at h2
    have hi2 : i - qs.length < 1 := by
      have := (List.getElem?_eq_some_iff.mp h1).1
      simpa using this
    have e1 : i - qs.length = 0 := by omega
    have e2 : i - ds.length = 0 := by omega
    rw [e1] at h1
    rw [e2] at h2
    simp at h1 h2
    subst h1 h2
    exact h
theorem DdAt.lset {H : Hp} {qs : List Addr} {ds : List Dd} {p : Addr} {xs ys : List V} (x : DdAt H qs ds) (hp : H p = some (.lst xs)) : DdAt (L2.upd H p (HO.lst ys)) qs ds :=
  ⟨x.len, fun i q d h1 h2 => by rw [upd_ne (ne_of (x.at_ i q d h1 h2) hp (by intro z; cases z))]; exact x.at_ i q d h1 h2⟩
theorem DdAt.more {H : Hp} {qs : List Addr} {ds : List Dd} {p q : Addr} {d : Dd} (x : DdAt H qs ds) (hp : H p = some (.lst (refs qs))) (hq : H q = none) :
    DdAt (L2.upd (L2.upd H q (HO.tup [.str (Dd.word d), .int (Dd.num d)])) p (HO.lst (refs (qs ++ [q])))) (qs ++ [q]) (ds ++ [d]) ∧ (L2.upd (L2.upd H q (HO.tup [.str (Dd.word d), .int (Dd.num d)])) p (HO.lst (refs (qs ++ [q])))) p = some (HO.lst (refs (qs ++ [q]))) :=
  ⟨DdAt.lset (xs := refs qs) (((x.same (same_upd hq)).snoc upd_same)) (by rw [upd_ne (ne_of_none hp hq)]; exact hp), upd_same⟩
def okD : Dd → Prop
  | .go n => 0 ≤ n ∧ n ≤ 100
  | _ => True
def goV : List V := [.int 0, .int 1, .int 2, .int 3, .int 5, .int 9, .int 25, .int 100, .int 1]
theorem nine {i : Int} (h0 : 0 ≤ i) (h1 : i < 9) : ∃ n : Int, atI goV i = some (.int n) ∧ 0 ≤ n ∧ n ≤ 100 := by
  have : i = 0 ∨ i = 1 ∨ i = 2 ∨ i = 3 ∨ i = 4 ∨ i = 5 ∨ i = 6 ∨ i = 7 ∨ i = 8 := by omega
  rcases this with rfl | rfl | rfl | rfl | rfl | rfl | rfl | rfl | rfl
  all_goals exact ⟨_, rfl, by decide, by decide⟩
def giveV : List V := [.int 3, .int (-2), .int 50, .int (-100), .int 9999970, .int (-1)]
theorem six {i : Int} (h0 : 0 ≤ i) (h1 : i < 6) : ∃ n : Int, atI giveV i = some (.int n) := by
  have : i = 0 ∨ i = 1 ∨ i = 2 ∨ i = 3 ∨ i = 4 ∨ i = 5 := by omega
  rcases this with rfl | rfl | rfl | rfl | rfl | rfl
  all_goals exact ⟨_, rfl⟩
theorem two {i : Int} (h0 : 0 ≤ i) (h1 : i < 2) : ∃ d : Dd, atI [V.str "stop", V.str "start"] i = some (.str d.word) ∧ d.num = 0 ∧ okD d := by
  have : i = 0 ∨ i = 1 := by omega
  rcases this with rfl | rfl
  · exact ⟨.stop, rfl, rfl, trivial⟩
  · exact ⟨.start, rfl, rfl, trivial⟩
theorem give_word {i : Int} (h0 : 0 ≤ i) (h1 : i < 2) : ∃ b, (Str.ofString "give" ++ (toString i : Str)) = (if b = true then Str.ofString "give1" else Str.ofString "give0") ∧ (toString i : Str).length ≤ 1 := by
  have : i = 0 ∨ i = 1 := by omega
  rcases this with rfl | rfl
  · exact ⟨false, by decide +kernel, by decide +kernel⟩
  · exact ⟨true, by decide +kernel, by decide +kernel⟩
def spDeeds (K : PySem.W.Frag) : Sp := fun vs H Q _ => ∃ l ns k, ∃ m : Nat, vs = [.ref l, .int k, .int m] ∧ SqL K H l (List.map V.int ns) ∧ m ≤ 100 ∧
  ∀ H' p qs ds, Same H H' → H p = none → H' p = some (.lst (refs qs)) → DdAt H' qs ds → ds.length = m → (∀ d ∈ ds, okD d) → Q (.ref p) H'
theorem ok_law_deeds (T : Txt K mg a) : Has P w K mg base CX0 3 "_law_deeds" ["_law_script", "_law_k", "_law_many"] (spDeeds K) := by
  have G_law_mix := ok_law_mix (P := P) (w := w) (base := base) T
  refine T.f_law_deeds.has fun f fd F => F.ok sc_law_deeds (fun vs H Q E h => ?_) (fun cdv A outer s H vs Q E hr h => ?_)
  · obtain ⟨l, ns, k, m, rfl, _⟩ := h; rfl
  · obtain ⟨l, ns, kk, m, rfl, hl, hm, k⟩ := h
    have hz : 1000 ≤ sizeLine := by decide
    refine ⟨_, (pss_cons (ps_set (i := 3) sc_law_deeds.nd rfl (Or.inl rfl) (pe_lst pa_nil)) (pss_cons (ps_set (i := 4) sc_law_deeds.nd rfl (Or.inl rfl) pe_int) (pss_cons (ps_for PassesOwn.never rfl (pi_range1 rfl T.n_range (pa_c (pv 2) pa_nil ns_name)) (pg_name (i := 5) sc_law_deeds.nd rfl (Or.inl rfl)) (pss_cons (ps_set (i := 6) sc_law_deeds.nd rfl (Or.inl rfl) (pe_callH G_law_mix hr (pa_c (pv 0) (pa_c (pe_op op_add (pv 1) (pv 5)) pa_nil ns_bin) ns_name) (he := star_cons ns_name) (hpl := star_any (ns_cons ns_bin ns_nil)))) (pss_cons (ps_set (i := 7) sc_law_deeds.nd rfl (Or.inl rfl) (pe_op op_mod (pv 6) pe_int)) (pss_one (ps_if (pt_cmpR op_lt (pv 7) pe_int (nomark _)) (pss_one (ps_expr (pe_bm1q PySem.F.plainAttrs_list PySem.F.slot_list_append PySem.F.type_list_append mt_append (pv 3) (qa_c (qe_tup (qa_c (QE.mk pe_str) (qa_c (qe_ix ix_list (qe_lst (qa_c (QE.mk pe_int) (qa_c (QE.mk pe_int) (qa_c (QE.mk pe_int) (qa_c (QE.mk pe_int) (qa_c (QE.mk pe_int) (qa_c (QE.mk pe_int) (qa_c (QE.mk pe_int) (qa_c (QE.mk pe_int) (qa_c (QE.mk pe_int) qa_nil ns_con) ns_con) ns_con) ns_con) ns_con) ns_con) ns_con) ns_con) ns_con)) (QE.mk (pe_op op_mod (pe_op op_fdiv (pv 6) pe_int) pe_int)) (fun _ _ => rfl)) qa_nil ns_sub) ns_con)) qa_nil ns_tup) ns_tup))) (pss_one (ps_if (pt_cmpR op_lt (pv 7) pe_int (nomark _)) (pss_cons (ps_set (i := 4) sc_law_deeds.nd rfl (Or.inl rfl) (pe_ifExp (pt_cmpR op_eq (pe_op op_mod (pe_op op_fdiv (pv 6) pe_int) pe_int) pe_int (nomark _)) (pe_op op_sub pe_int (pv 4)) (pv 4))) (pss_cons (ps_expr (pe_bm1q PySem.F.plainAttrs_list PySem.F.slot_list_append PySem.F.type_list_append mt_append (pv 3) (qa_c (qe_tup (qa_c (QE.mk pe_str) (qa_c (QE.mk (pv 4)) qa_nil ns_name) ns_con)) qa_nil ns_tup) ns_tup)) (pss_one (ps_set (i := 4) sc_law_deeds.nd rfl (Or.inl rfl) (pe_op op_sub pe_int (pv 4)))))) (pss_one (ps_if (pt_cmpR op_eq (pv 7) pe_int (nomark _)) (pss_one (ps_expr (pe_bm1q PySem.F.plainAttrs_list PySem.F.slot_list_append PySem.F.type_list_append mt_append (pv 3) (qa_c (qe_tup (qa_c (qe_ix ix_list (qe_lst (qa_c (QE.mk pe_str) (qa_c (QE.mk pe_str) qa_nil ns_con) ns_con)) (QE.mk (pe_op op_mod (pe_op op_fdiv (pv 6) pe_int) pe_int)) (fun _ _ => rfl)) (qa_c (QE.mk pe_int) qa_nil ns_con) ns_sub)) qa_nil ns_tup) ns_tup))) (pss_one (ps_expr (pe_bm1q PySem.F.plainAttrs_list PySem.F.slot_list_append PySem.F.type_list_append mt_append (pv 3) (qa_c (qe_tup (qa_c (QE.mk (pe_op op_add_str pe_str (pe_callTy call_str_int (by rfl) T.n_str boot_str (pa_c (pe_op op_mod (pe_op op_fdiv (pv 6) pe_int) pe_int) pa_nil ns_bin) (he := star_cons ns_bin) (hpl := star_any ns_nil)))) (qa_c (qe_ix ix_list (qe_lst (qa_c (QE.mk pe_int) (qa_c (QE.mk (pe_un un_neg pe_int)) (qa_c (QE.mk pe_int) (qa_c (QE.mk (pe_un un_neg pe_int)) (qa_c (QE.mk pe_int) (qa_c (QE.mk (pe_un un_neg pe_int)) qa_nil ns_un) ns_con) ns_un) ns_con) ns_un) ns_con)) (QE.mk (pe_op op_mod (pe_op op_fdiv (pv 6) pe_int) pe_int)) (fun _ _ => rfl)) qa_nil ns_sub) ns_bin)) qa_nil ns_tup) ns_tup)))))))))))) (pss_one (ps_ret (pv 3)))))), ?_⟩
    walk_at "rd"
    refine ⟨by show 0 ≤ sizeLine; decide, fun p hp => ?_⟩
    have s0 : Same H (upd H p (.lst (refs []))) := same_upd hp
    walk_at "rd"
    refine ⟨_, rfl, by omega, by omega, for_range (lo := 0) (fun i σ H1 => (∃ (b : Bool) (v5 v6 v7 : Option V), σ = [some (.ref l), some (.int kk), some (.int m), some (.ref p), some (.int (tI b)), v5, v6, v7]) ∧ Same H H1 ∧ ∃ qs ds, H1 p = some (.lst (refs qs)) ∧ DdAt H1 qs ds ∧ ds.length = i ∧ ∀ d ∈ ds, okD d)
      ⟨⟨false, none, none, none, rfl⟩, s0, [], [], upd_same, ⟨rfl, fun i p g h => by simp at h⟩, rfl, fun g h => by simp at h⟩ ?_ ?_⟩
    · rintro i σ H1 hi ⟨⟨b, v5, v6, v7, rfl⟩, sm, qs, ds, h1p, hst, hgl, hok⟩
      have hqs : qs.length ≤ 100 := by have := hst.len; omega
      have add : ∀ (d : Dd) (H2 : Hp) (t : Addr), okD d → Same H1 H2 → H2 t = none → H2 p = some (.lst (refs qs)) ∧ Same H (upd (upd H2 t (.tup [.str d.word, .int d.num])) p (.lst (refs (qs ++ [t])))) ∧
          ∃ qs' ds', (upd (upd H2 t (.tup [.str d.word, .int d.num])) p (.lst (refs (qs ++ [t])))) p = some (.lst (refs qs')) ∧ DdAt (upd (upd H2 t (.tup [.str d.word, .int d.num])) p (.lst (refs (qs ++ [t])))) qs' ds' ∧ ds'.length = i + 1 ∧ ∀ d ∈ ds', okD d := fun d H2 t hd s2 ht => by
        have h2p := s2 _ _ h1p
        obtain ⟨m1, m2⟩ := (hst.same s2).more (d := d) h2p ht
        refine ⟨h2p, same_out ((sm.trans s2).trans (same_upd ht)) hp, qs ++ [t], ds ++ [d], m2, m1, by rw [List.length_append]; simp; omega, fun d' hd' => ?_⟩
        rcases List.mem_append.mp hd' with z | z
        · exact hok d' z
        · simp at z; subst z; exact hd
      walk_at "rd"
      refine ⟨l, ns, _, rfl, sm.seq hl, fun n => ?_⟩
      walk_at "rd"
      refine rd_ite (fun hw => ?_) (fun hw => ?_)
      · walk_at "rd"
        refine ⟨.inl ⟨rfl, _, SqL.of h1p⟩, ?_⟩
        walk_at "rd"
        refine ⟨by show 9 ≤ sizeLine; decide, fun q hq => ?_⟩
        walk_at "rd"
        obtain ⟨g, hg1, hg2⟩ := nine (Int.emod_nonneg (n / 10) (show (9 : Int) ≠ 0 by decide)) (Int.emod_lt_of_pos (n / 10) (show (0 : Int) < 9 by decide))
        refine rd_ixL (SqL.of upd_same) hg1 ?_
        walk_at "rd"
        refine ⟨by show 2 ≤ sizeLine; decide, fun t ht => ?_⟩
        obtain ⟨a1, a2, a3⟩ := add (.go g) _ t hg2 (same_upd hq) ht
        walk_at "rd"
        refine ⟨p, refs qs, _, rfl, rfl, by rw [upd_ne (ne_of_none a1 ht)]; exact a1, by rw [refs_len]; omega, ?_⟩
        rw [refs_snoc]
        exact ⟨⟨b, _, _, _, rfl⟩, a2, a3⟩
      · walk_at "rd"
        refine rd_ite (fun hw2 => ?_) (fun hw2 => ?_)
        · walk_at "rd"
          refine rd_ite (fun _ => ?_) (fun _ => ?_)
          · walk_at "rd"
            rw [tI_not]
            refine ⟨.inl ⟨rfl, _, SqL.of h1p⟩, ?_⟩
            walk_at "rd"
            refine ⟨by show 2 ≤ sizeLine; decide, fun t ht => ?_⟩
            obtain ⟨a1, a2, a3⟩ := add (.press (!b)) _ t trivial (Same.refl _) ht
            walk_at "rd"
            refine ⟨p, refs qs, _, rfl, rfl, by rw [upd_ne (ne_of_none a1 ht)]; exact a1, by rw [refs_len]; omega, ?_⟩
            rw [refs_snoc]
            walk_at "rd"
            exact ⟨⟨!(!b), _, _, _, by rw [tI_not]; rfl⟩, a2, a3⟩
          · walk_at "rd"
            refine ⟨.inl ⟨rfl, _, SqL.of h1p⟩, ?_⟩
            walk_at "rd"
            refine ⟨by show 2 ≤ sizeLine; decide, fun t ht => ?_⟩
            obtain ⟨a1, a2, a3⟩ := add (.press (b)) _ t trivial (Same.refl _) ht
            walk_at "rd"
            refine ⟨p, refs qs, _, rfl, rfl, by rw [upd_ne (ne_of_none a1 ht)]; exact a1, by rw [refs_len]; omega, ?_⟩
            rw [refs_snoc]
            walk_at "rd"
            exact ⟨⟨!(b), _, _, _, by rw [tI_not]; rfl⟩, a2, a3⟩
        · walk_at "rd"
          refine rd_ite (fun hw3 => ?_) (fun hw3 => ?_)
          · walk_at "rd"
            refine ⟨.inl ⟨rfl, _, SqL.of h1p⟩, ?_⟩
            walk_at "rd"
            refine ⟨by show 2 ≤ sizeLine; decide, fun q hq => ?_⟩
            walk_at "rd"
            obtain ⟨d, hd1, hd2, hd3⟩ := two (Int.emod_nonneg (n / 10) (show (2 : Int) ≠ 0 by decide)) (Int.emod_lt_of_pos (n / 10) (show (0 : Int) < 2 by decide))
            refine rd_ixL (SqL.of upd_same) hd1 ?_
            walk_at "rd"
            refine ⟨by show 2 ≤ sizeLine; decide, fun t ht => ?_⟩
            obtain ⟨a1, a2, a3⟩ := add d _ t hd3 (same_upd hq) ht
            rw [hd2] at a2 a3
            walk_at "rd"
            refine ⟨p, refs qs, _, rfl, rfl, by rw [upd_ne (ne_of_none a1 ht)]; exact a1, by rw [refs_len]; omega, ?_⟩
            rw [refs_snoc]
            exact ⟨⟨b, _, _, _, rfl⟩, a2, a3⟩
          · walk_at "rd"
            refine ⟨.inl ⟨rfl, _, SqL.of h1p⟩, ?_⟩
            walk_at "rd"
            have g0 := Int.emod_nonneg (n / 10) (show (2 : Int) ≠ 0 by decide)
            have g1 := Int.emod_lt_of_pos (n / 10) (show (0 : Int) < 2 by decide)
            obtain ⟨gb, hgb1, hgb2⟩ := give_word g0 g1
            refine ⟨_, rfl, log_small g0 (by omega), ?_⟩
            have s4 : (Str.ofString "give").length ≤ 10 := by decide +kernel
            refine ⟨_, _, rfl, rfl, by omega, ?_⟩
            rw [hgb1]
            walk_at "rd"
            refine ⟨by show 6 ≤ sizeLine; decide, fun q hq => ?_⟩
            walk_at "rd"
            obtain ⟨gn, hgn⟩ := six (Int.emod_nonneg (n / 20) (show (6 : Int) ≠ 0 by decide)) (Int.emod_lt_of_pos (n / 20) (show (0 : Int) < 6 by decide))
            refine rd_ixL (SqL.of upd_same) hgn ?_
            walk_at "rd"
            refine ⟨by show 2 ≤ sizeLine; decide, fun t ht => ?_⟩
            obtain ⟨a1, a2, a3⟩ := add (.give gb gn) _ t trivial (same_upd hq) ht
            walk_at "rd"
            refine ⟨p, refs qs, _, rfl, rfl, by rw [upd_ne (ne_of_none a1 ht)]; exact a1, by rw [refs_len]; omega, ?_⟩
            rw [refs_snoc]
            exact ⟨⟨b, _, _, _, rfl⟩, a2, a3⟩
    · rintro σ H1 ⟨⟨b, v5, v6, v7, rfl⟩, sm, qs, ds, h1p, hst, hgl, hok⟩
      walk_at "rd"
      exact k H1 p qs ds sm hp h1p hst (by omega) hok
theorem inr_nm {x : Str} {l : List Str} (h : x ∉ l) : ¬ (Sum.inr x : Key) ∈ l.map Sum.inr := fun m => by
  obtain ⟨y, hy, e⟩ := List.mem_map.mp m
  exact h (Sum.inr.inj e ▸ hy)
theorem inr_nd {l : List Str} (h : l.Nodup) : (l.map (Sum.inr : Str → Key)).Nodup := List.Pairwise.map _ (fun _ _ hab e => hab (Sum.inr.inj e)) h
theorem st_at {H : Hp} {ps : List Addr} {gs : List Sg} (x : StAt H ps gs) {n : Nat} {g : Sg} (hg : gs[n]? = some g) : ∃ q, atI (refs ps) (n : Int) = some (.ref q) ∧ H q = some (.tup g.vs) := by
  have hn : n < ps.length := by rw [x.len]; exact (List.getElem?_eq_some_iff.mp hg).1
  refine ⟨ps[n], atI_nat ?_, x.at_ n _ g (List.getElem?_eq_getElem hn) hg⟩
  unfold refs
  rw [List.getElem?_map, List.getElem?_eq_getElem hn]; rfl
def Ke (e : Addr) (H H' : Hp) : Prop := ∀ b o, H b = some o → b ≠ e → H' b = some o
theorem Ke.refl {e : Addr} {H : Hp} : Ke e H H := fun _ _ h _ => h
theorem Ke.put {e : Addr} {H H' : Hp} {o : HO} (k : Ke e H H') : Ke e H (upd H' e o) := fun b u h n => by rw [upd_ne n]; exact k b u h n
theorem Ke.lst {e p : Addr} {H H' : Hp} {kv : List (Key × V)} {xs : List V} (k : Ke e H H') (he : H e = some (.dK kv)) (hp : H p = some (.lst xs)) : H' p = some (.lst xs) := k _ _ hp (ne_of hp he (by intro z; cases z))
theorem Ke.tup {e p : Addr} {H H' : Hp} {kv : List (Key × V)} {xs : List V} (k : Ke e H H') (he : H e = some (.dK kv)) (hp : H p = some (.tup xs)) : H' p = some (.tup xs) := k _ _ hp (ne_of hp he (by intro z; cases z))
theorem merge_app : ∀ (more acc : List (Key × V)), ((acc ++ more).map (·.1)).Nodup → mergeK acc more = acc ++ more
  | [], acc, _ => by rw [List.append_nil]; rfl
  | (k, v) :: r, acc, h => by
    show mergeK (putK acc k v) r = _
    have hk : ¬ k ∈ acc.map (·.1) := fun z => by
      rw [List.map_append, List.nodup_append] at h
      exact h.2.2 k z k (by rw [List.map_cons]; exact List.mem_cons_self ..) rfl
    rw [putK_new v (valV_none hk), merge_app r _ (by rw [List.append_assoc]; exact h), List.append_assoc]
    rfl
def moreV (x u : Int) : List (Key × V) := [(.inr "add", .int x), (.inr "back", .int (if u < x then u else x))]
theorem more_merge (x u : Int) : mergeK [] (moreV x u) = moreV x u := merge_app _ [] (inr_nd (l := ["add", "back"]) (by decide +kernel))
theorem more_get (z w : Str) (m : Option Int) (t x u : Int) : (valV (moreV x u) (.inr w)).getD (.int 0) = .int (extraT (.five z m t w x) u) := by
  have ex : extraT (.five z m t w x) u = if V.str w = V.str "add" then x else if V.str w = V.str "back" then min x u else 0 := rfl
  rw [ex]
  by_cases h1 : V.str w = V.str "add"
  · rw [if_pos h1]
    cases h1
    rw [show valV (moreV x u) (.inr "add") = some (.int x) from valV_mid (l1 := []) (inr_nm (l := []) (by decide))]
    rfl
  · rw [if_neg h1]
    by_cases h2 : V.str w = V.str "back"
    · rw [if_pos h2]
      cases h2
      rw [show valV (moreV x u) (.inr "back") = some (.int (if u < x then u else x)) from valV_mid (l1 := [((Sum.inr "add" : Key), V.int x)]) (inr_nm (l := ["add"]) (by decide +kernel))]
      show V.int _ = V.int _
      congr 1
      split <;> omega
    · rw [if_neg h2, valV_none]
      · rfl
      · show ¬ (Sum.inr w : Key) ∈ [.inr "add", .inr "back"]
        intro hm
        rcases List.mem_cons.mp hm with e | hm
        · exact h1 (congrArg V.str (Sum.inr.inj e))
        · exact h2 (congrArg V.str (Sum.inr.inj (List.mem_singleton.mp hm)))
theorem vs_t (g : Sg) : atI g.vs 2 = some (.int g.t) := by cases g <;> rfl
def spShown (a : Ads) : Sp := fun vs H Q _ => ∃ c x, vs = [.ref c.p] ∧ CkAt a H c x ∧ ∀ H' l q0 q1 q2, Same H H' → H' l = some (.lst [.ref q0, .ref q1, .ref q2]) → H' q0 = some (.tup (toldS (x.sd false))) → H' q1 = some (.tup (toldS (x.sd true))) → H' q2 = some (.tup (toldG x)) → Q (.ref l) H'
theorem ok_law_shown (T : Txt K mg a) : Has P w K mg base CX0 3 "_law_shown" ["_law_clock"] (spShown a) := by
  have G_Clock_state := ok_state (P := P) (w := w) (base := base) T
  have G_Clock_game := ok_game (P := P) (w := w) (base := base) T
  refine T.f_law_shown.has fun f fd F => F.ok sc_law_shown (fun vs H Q E h => ?_) (fun cdv A outer s H vs Q E hr h => ?_)
  · obtain ⟨c, x, rfl, _⟩ := h; rfl
  · obtain ⟨c, x, rfl, hc, k⟩ := h
    refine ⟨_, (pss_one (ps_ret (pe_lst (pa_c (pe_methH (pv 0) T.cl_Clock G_Clock_state hr (pa_c pe_int pa_nil ns_con) (hst := star_cons ns_con) (hpl := star_any ns_nil)) (pa_c (pe_methH (pv 0) T.cl_Clock G_Clock_state hr (pa_c pe_int pa_nil ns_con) (hst := star_cons ns_con) (hpl := star_any ns_nil)) (pa_c (pe_methH0 (pv 0) T.cl_Clock G_Clock_game hr) pa_nil ns_call) ns_call) ns_call)))), ?_⟩
    walk_at "rd"
    refine ⟨c.p, c.dx, _, rfl, hc.ck, cl_no _ _ _ _ _ (noMeth (by decide +kernel)), ?_⟩
    walk_at "rd"
    refine ⟨c, x, false, rfl, hc, fun q0 h0 => ?_⟩
    have s0 := same_upd (o := .tup (toldS (x.sd false))) h0
    have hq0 := upd_same (H := H) (a := q0) (o := .tup (toldS (x.sd false)))
    generalize upd H q0 (.tup (toldS (x.sd false))) = H0 at s0 hq0
    have hc0 := hc.same s0
    walk_at "rd"
    refine ⟨c.p, c.dx, _, rfl, hc0.ck, cl_no _ _ _ _ _ (noMeth (by decide +kernel)), ?_⟩
    walk_at "rd"
    refine ⟨c, x, true, rfl, hc0, fun q1 h1 => ?_⟩
    have s1 := same_upd (o := .tup (toldS (x.sd true))) h1
    have hq1 := upd_same (H := H0) (a := q1) (o := .tup (toldS (x.sd true)))
    generalize upd H0 q1 (.tup (toldS (x.sd true))) = H1 at s1 hq1
    have hc1 := hc0.same s1
    walk_at "rd"
    refine ⟨c.p, c.dx, _, rfl, hc1.ck, cl_no _ _ _ _ _ (noMeth (by decide +kernel)), ?_⟩
    walk_at "rd"
    refine ⟨c, x, rfl, hc1, fun q2 h2 => ?_⟩
    have s2 := same_upd (o := .tup (toldG x)) h2
    have hq2 := upd_same (H := H1) (a := q2) (o := .tup (toldG x))
    generalize upd H1 q2 (.tup (toldG x)) = H2 at s2 hq2
    walk_at "rd"
    refine ⟨by show 3 ≤ sizeLine; decide, fun l hl => ?_⟩
    have s3 := same_upd (o := .lst [.ref q0, .ref q1, .ref q2]) hl
    exact k _ l q0 q1 q2 (((s0.trans s1).trans s2).trans s3) upd_same (s3 _ _ (s2 _ _ (s1 _ _ hq0))) (s3 _ _ (s2 _ _ hq1)) (s3 _ _ hq2)
def Live (x : Cs) : Prop := x.fallen = none → ∀ b, 0 < (x.sd b).left
def goN (gs : List Sg) (n : Nat) (x : Cs) : Int := if x.runs = true then ((runT gs n (x.sd x.turn)).1 : Int) else n
def goS (gs : List Sg) (n : Nat) (x : Cs) : Cs := if x.runs = true then goX gs n x else x
theorem doGo_none {gs : List Sg} {n : Nat} {x : Cs} (h : x.fallen = none) : doGo n gs x = .ok (.int (goN gs n x), goS gs n x) := by
  unfold doGo goN goS
  rw [if_neg (by omega), h]
  simp only [Option.isSome_none, Bool.false_eq_true, if_false, Int.toNat_natCast]
  split <;> rfl
theorem goX_live {gs : List Sg} (he : eachOk gs) {n : Nat} {x : Cs} (hl : Live x) (hw : ∀ b, WF gs (x.sd b)) : Live (goX gs n x) := by
  intro hf b
  unfold goX at hf ⊢
  split at hf
  · cases hf
  · rename_i hz
    rw [if_neg hz]
    have hf' : x.fallen = none := hf
    show 0 < (setS x.sd x.turn (runT gs n (x.sd x.turn)).2 b).left
    by_cases e : b = x.turn
    · subst e
      rw [setS_same]
      have := (run_wf he n _ (hw x.turn)).left
      omega
    · rw [setS_ne e]; exact hl hf' b
theorem goX_wf {gs : List Sg} (he : eachOk gs) {n : Nat} {x : Cs} (hw : ∀ b, WF gs (x.sd b)) : ∀ b, WF gs ((goX gs n x).sd b) := by
  intro b
  have key : WF gs (setS x.sd x.turn (runT gs n (x.sd x.turn)).2 b) := by
    by_cases e : b = x.turn
    · subst e; rw [setS_same]; exact run_wf he n _ (hw x.turn)
    · rw [setS_ne e]; exact hw b
  unfold goX
  split <;> exact key
theorem goX_zero {gs : List Sg} {x : Cs} (h : 0 < (x.sd x.turn).left) : goX gs 0 x = x := by
  unfold goX
  rw [run_zero, if_neg (show ¬ (x.sd x.turn).left = 0 by omega)]
  show Cs.mk x.turn x.runs x.fallen (x.total + ((0 : Nat) : Int)) (setS x.sd x.turn (x.sd x.turn)) = x
  rw [setS_self, Int.natCast_zero, Int.add_zero]
theorem goX_add {gs : List Sg} {n m : Nat} {x : Cs} (h : ¬ (runT gs n (x.sd x.turn)).2.left = 0) : goX gs m (goX gs n x) = goX gs (n + m) x := by
  have e1 : goX gs n x = { turn := x.turn, runs := x.runs, fallen := x.fallen, total := x.total + (runT gs n (x.sd x.turn)).1, sd := setS x.sd x.turn (runT gs n (x.sd x.turn)).2 } := by unfold goX; rw [if_neg h]
  rw [e1]
  unfold goX
  simp only [setS_same, setS_set, run_add gs n m]
  split <;> (congr 1; push_cast; omega)
theorem CkAt.ke {H H' : Hp} {c : Ck} {x : Cs} {e : Addr} (h : CkAt a H c x) (k : Ke e H H') (n1 : ∀ C dx fs, H e ≠ some (.ins C dx fs)) (n2 : ∀ xs, H e ≠ some (.tup xs)) : CkAt a H' c x where
  ck := k _ _ h.ck fun z => n1 _ _ _ (z ▸ h.ck)
  tp := k _ _ h.tp fun z => n2 _ (z ▸ h.tp)
  sd := fun b => k _ _ (h.sd b) fun z => n1 _ _ _ (z ▸ h.sd b)
  tt := k _ _ h.tt fun z => n2 _ (z ▸ h.tt)
  st := ⟨h.st.len, fun i p g h1 h2 => k _ _ (h.st.at_ i p g h1 h2) fun z => n2 _ (z ▸ h.st.at_ i p g h1 h2)⟩
  ne := h.ne
  np := h.np
  ok := h.ok
  wf := h.wf
theorem e_ne {e : Bool → Addr} (h : e false ≠ e true) {b b' : Bool} (n : b' ≠ b) : e b' ≠ e b := by
  cases b <;> cases b' <;> first | exact absurd rfl n | exact h | exact h.symm
theorem tI_flip (b : Bool) : (1 : Int) - tI b = tI (!b) := by cases b <;> rfl
def sV (s : Sd) (k : Int) : List (Key × V) := [(.inr "at", .int s.num), (.inr "ticks", .int s.left), (.inr "periods", .int s.periods), (.inr "moved", .int s.moves), (.inr "made", .int k), (.inr "used", .int s.passed)]
theorem sVg_at (s : Sd) (k : Int) {H : Hp} {e : Addr} (h : H e = some (.dK (sV s k))) : DGet H e (.str "at") (some (.int s.num)) := by
  have z : valV (sV s k) (.inr "at") = some (.int s.num) := valV_mid (l1 := []) (inr_nm (l := []) (by decide +kernel))
  rw [← z]; exact DGet.k (k := .inr "at") h
theorem sVp_at (s : Sd) (k : Int) {H : Hp} {e : Addr} (n : Nat) (h : H e = some (.dK (sV s k))) : DPut H e (.str "at") (.int (n : Int)) (upd H e (.dK (sV { s with num := n } k))) := by
  have z : putK (sV s k) (.inr "at") (.int (n : Int)) = sV { s with num := n } k := putK_mid (l1 := []) (inr_nm (l := []) (by decide +kernel)) (inr_nm (l := ["ticks", "periods", "moved", "made", "used"]) (by decide +kernel))
  rw [← z]; exact DPut.k (k := .inr "at") h (by show 6 < sizeLine; decide)
theorem sVg_ticks (s : Sd) (k : Int) {H : Hp} {e : Addr} (h : H e = some (.dK (sV s k))) : DGet H e (.str "ticks") (some (.int s.left)) := by
  have z : valV (sV s k) (.inr "ticks") = some (.int s.left) := valV_mid (l1 := [((.inr "at" : Key), .int s.num)]) (inr_nm (l := ["at"]) (by decide +kernel))
  rw [← z]; exact DGet.k (k := .inr "ticks") h
theorem sVp_ticks (s : Sd) (k : Int) {H : Hp} {e : Addr} (n : Int) (h : H e = some (.dK (sV s k))) : DPut H e (.str "ticks") (.int n) (upd H e (.dK (sV { s with left := n } k))) := by
  have z : putK (sV s k) (.inr "ticks") (.int n) = sV { s with left := n } k := putK_mid (l1 := [((.inr "at" : Key), .int s.num)]) (inr_nm (l := ["at"]) (by decide +kernel)) (inr_nm (l := ["periods", "moved", "made", "used"]) (by decide +kernel))
  rw [← z]; exact DPut.k (k := .inr "ticks") h (by show 6 < sizeLine; decide)
theorem sVg_per (s : Sd) (k : Int) {H : Hp} {e : Addr} (h : H e = some (.dK (sV s k))) : DGet H e (.str "periods") (some (.int s.periods)) := by
  have z : valV (sV s k) (.inr "periods") = some (.int s.periods) := valV_mid (l1 := [((.inr "at" : Key), .int s.num), ((.inr "ticks" : Key), .int s.left)]) (inr_nm (l := ["at", "ticks"]) (by decide +kernel))
  rw [← z]; exact DGet.k (k := .inr "periods") h
theorem sVp_per (s : Sd) (k : Int) {H : Hp} {e : Addr} (n : Int) (h : H e = some (.dK (sV s k))) : DPut H e (.str "periods") (.int n) (upd H e (.dK (sV { s with periods := n } k))) := by
  have z : putK (sV s k) (.inr "periods") (.int n) = sV { s with periods := n } k := putK_mid (l1 := [((.inr "at" : Key), .int s.num), ((.inr "ticks" : Key), .int s.left)]) (inr_nm (l := ["at", "ticks"]) (by decide +kernel)) (inr_nm (l := ["moved", "made", "used"]) (by decide +kernel))
  rw [← z]; exact DPut.k (k := .inr "periods") h (by show 6 < sizeLine; decide)
theorem sVg_moved (s : Sd) (k : Int) {H : Hp} {e : Addr} (h : H e = some (.dK (sV s k))) : DGet H e (.str "moved") (some (.int s.moves)) := by
  have z : valV (sV s k) (.inr "moved") = some (.int s.moves) := valV_mid (l1 := [((.inr "at" : Key), .int s.num), ((.inr "ticks" : Key), .int s.left), ((.inr "periods" : Key), .int s.periods)]) (inr_nm (l := ["at", "ticks", "periods"]) (by decide +kernel))
  rw [← z]; exact DGet.k (k := .inr "moved") h
theorem sVp_moved (s : Sd) (k : Int) {H : Hp} {e : Addr} (n : Int) (h : H e = some (.dK (sV s k))) : DPut H e (.str "moved") (.int n) (upd H e (.dK (sV { s with moves := n } k))) := by
  have z : putK (sV s k) (.inr "moved") (.int n) = sV { s with moves := n } k := putK_mid (l1 := [((.inr "at" : Key), .int s.num), ((.inr "ticks" : Key), .int s.left), ((.inr "periods" : Key), .int s.periods)]) (inr_nm (l := ["at", "ticks", "periods"]) (by decide +kernel)) (inr_nm (l := ["made", "used"]) (by decide +kernel))
  rw [← z]; exact DPut.k (k := .inr "moved") h (by show 6 < sizeLine; decide)
theorem sVg_made (s : Sd) (k : Int) {H : Hp} {e : Addr} (h : H e = some (.dK (sV s k))) : DGet H e (.str "made") (some (.int k)) := by
  have z : valV (sV s k) (.inr "made") = some (.int k) := valV_mid (l1 := [((.inr "at" : Key), .int s.num), ((.inr "ticks" : Key), .int s.left), ((.inr "periods" : Key), .int s.periods), ((.inr "moved" : Key), .int s.moves)]) (inr_nm (l := ["at", "ticks", "periods", "moved"]) (by decide +kernel))
  rw [← z]; exact DGet.k (k := .inr "made") h
theorem sVp_made (s : Sd) (k : Int) {H : Hp} {e : Addr} (n : Int) (h : H e = some (.dK (sV s k))) : DPut H e (.str "made") (.int n) (upd H e (.dK (sV s n))) := by
  have z : putK (sV s k) (.inr "made") (.int n) = sV s n := putK_mid (l1 := [((.inr "at" : Key), .int s.num), ((.inr "ticks" : Key), .int s.left), ((.inr "periods" : Key), .int s.periods), ((.inr "moved" : Key), .int s.moves)]) (inr_nm (l := ["at", "ticks", "periods", "moved"]) (by decide +kernel)) (inr_nm (l := ["used"]) (by decide +kernel))
  rw [← z]; exact DPut.k (k := .inr "made") h (by show 6 < sizeLine; decide)
theorem sVg_used (s : Sd) (k : Int) {H : Hp} {e : Addr} (h : H e = some (.dK (sV s k))) : DGet H e (.str "used") (some (.int s.passed)) := by
  have z : valV (sV s k) (.inr "used") = some (.int s.passed) := valV_mid (l1 := [((.inr "at" : Key), .int s.num), ((.inr "ticks" : Key), .int s.left), ((.inr "periods" : Key), .int s.periods), ((.inr "moved" : Key), .int s.moves), ((.inr "made" : Key), .int k)]) (inr_nm (l := ["at", "ticks", "periods", "moved", "made"]) (by decide +kernel))
  rw [← z]; exact DGet.k (k := .inr "used") h
theorem sVp_used (s : Sd) (k : Int) {H : Hp} {e : Addr} (n : Int) (h : H e = some (.dK (sV s k))) : DPut H e (.str "used") (.int n) (upd H e (.dK (sV { s with passed := n } k))) := by
  have z : putK (sV s k) (.inr "used") (.int n) = sV { s with passed := n } k := putK_mid (l1 := [((.inr "at" : Key), .int s.num), ((.inr "ticks" : Key), .int s.left), ((.inr "periods" : Key), .int s.periods), ((.inr "moved" : Key), .int s.moves), ((.inr "made" : Key), .int k)]) (inr_nm (l := ["at", "ticks", "periods", "moved", "made"]) (by decide +kernel)) (inr_nm (l := []) (by decide +kernel))
  rw [← z]; exact DPut.k (k := .inr "used") h (by show 6 < sizeLine; decide)
def wV (d sl : Addr) (x : Cs) : List (Key × V) := [(.inr "stages", .ref d), (.inr "turn", .int (tI x.turn)), (.inr "runs", .bl x.runs), (.inr "fallen", fV x.fallen), (.inr "total", .int x.total), (.inr "sides", .ref sl)]
theorem wVg_stages (d sl : Addr) (x : Cs) {H : Hp} {e : Addr} (h : H e = some (.dK (wV d sl x))) : DGet H e (.str "stages") (some (.ref d)) := by
  have z : valV (wV d sl x) (.inr "stages") = some (.ref d) := valV_mid (l1 := []) (inr_nm (l := []) (by decide +kernel))
  rw [← z]; exact DGet.k (k := .inr "stages") h
theorem wVg_turn (d sl : Addr) (x : Cs) {H : Hp} {e : Addr} (h : H e = some (.dK (wV d sl x))) : DGet H e (.str "turn") (some (.int (tI x.turn))) := by
  have z : valV (wV d sl x) (.inr "turn") = some (.int (tI x.turn)) := valV_mid (l1 := [((.inr "stages" : Key), .ref d)]) (inr_nm (l := ["stages"]) (by decide +kernel))
  rw [← z]; exact DGet.k (k := .inr "turn") h
theorem wVp_turn (d sl : Addr) (x : Cs) {H : Hp} {e : Addr} (b : Bool) (h : H e = some (.dK (wV d sl x))) : DPut H e (.str "turn") (.int (tI b)) (upd H e (.dK (wV d sl { x with turn := b }))) := by
  have z : putK (wV d sl x) (.inr "turn") (.int (tI b)) = wV d sl { x with turn := b } := putK_mid (l1 := [((.inr "stages" : Key), .ref d)]) (inr_nm (l := ["stages"]) (by decide +kernel)) (inr_nm (l := ["runs", "fallen", "total", "sides"]) (by decide +kernel))
  rw [← z]; exact DPut.k (k := .inr "turn") h (by show 6 < sizeLine; decide)
theorem wVg_runs (d sl : Addr) (x : Cs) {H : Hp} {e : Addr} (h : H e = some (.dK (wV d sl x))) : DGet H e (.str "runs") (some (.bl x.runs)) := by
  have z : valV (wV d sl x) (.inr "runs") = some (.bl x.runs) := valV_mid (l1 := [((.inr "stages" : Key), .ref d), ((.inr "turn" : Key), .int (tI x.turn))]) (inr_nm (l := ["stages", "turn"]) (by decide +kernel))
  rw [← z]; exact DGet.k (k := .inr "runs") h
theorem wVp_runs (d sl : Addr) (x : Cs) {H : Hp} {e : Addr} (b : Bool) (h : H e = some (.dK (wV d sl x))) : DPut H e (.str "runs") (.bl b) (upd H e (.dK (wV d sl { x with runs := b }))) := by
  have z : putK (wV d sl x) (.inr "runs") (.bl b) = wV d sl { x with runs := b } := putK_mid (l1 := [((.inr "stages" : Key), .ref d), ((.inr "turn" : Key), .int (tI x.turn))]) (inr_nm (l := ["stages", "turn"]) (by decide +kernel)) (inr_nm (l := ["fallen", "total", "sides"]) (by decide +kernel))
  rw [← z]; exact DPut.k (k := .inr "runs") h (by show 6 < sizeLine; decide)
theorem wVg_fallen (d sl : Addr) (x : Cs) {H : Hp} {e : Addr} (h : H e = some (.dK (wV d sl x))) : DGet H e (.str "fallen") (some (fV x.fallen)) := by
  have z : valV (wV d sl x) (.inr "fallen") = some (fV x.fallen) := valV_mid (l1 := [((.inr "stages" : Key), .ref d), ((.inr "turn" : Key), .int (tI x.turn)), ((.inr "runs" : Key), .bl x.runs)]) (inr_nm (l := ["stages", "turn", "runs"]) (by decide +kernel))
  rw [← z]; exact DGet.k (k := .inr "fallen") h
theorem wVp_fallen (d sl : Addr) (x : Cs) {H : Hp} {e : Addr} (o : Option Bool) (h : H e = some (.dK (wV d sl x))) : DPut H e (.str "fallen") (fV o) (upd H e (.dK (wV d sl { x with fallen := o }))) := by
  have z : putK (wV d sl x) (.inr "fallen") (fV o) = wV d sl { x with fallen := o } := putK_mid (l1 := [((.inr "stages" : Key), .ref d), ((.inr "turn" : Key), .int (tI x.turn)), ((.inr "runs" : Key), .bl x.runs)]) (inr_nm (l := ["stages", "turn", "runs"]) (by decide +kernel)) (inr_nm (l := ["total", "sides"]) (by decide +kernel))
  rw [← z]; exact DPut.k (k := .inr "fallen") h (by show 6 < sizeLine; decide)
theorem wVg_total (d sl : Addr) (x : Cs) {H : Hp} {e : Addr} (h : H e = some (.dK (wV d sl x))) : DGet H e (.str "total") (some (.int x.total)) := by
  have z : valV (wV d sl x) (.inr "total") = some (.int x.total) := valV_mid (l1 := [((.inr "stages" : Key), .ref d), ((.inr "turn" : Key), .int (tI x.turn)), ((.inr "runs" : Key), .bl x.runs), ((.inr "fallen" : Key), fV x.fallen)]) (inr_nm (l := ["stages", "turn", "runs", "fallen"]) (by decide +kernel))
  rw [← z]; exact DGet.k (k := .inr "total") h
theorem wVp_total (d sl : Addr) (x : Cs) {H : Hp} {e : Addr} (n : Int) (h : H e = some (.dK (wV d sl x))) : DPut H e (.str "total") (.int n) (upd H e (.dK (wV d sl { x with total := n }))) := by
  have z : putK (wV d sl x) (.inr "total") (.int n) = wV d sl { x with total := n } := putK_mid (l1 := [((.inr "stages" : Key), .ref d), ((.inr "turn" : Key), .int (tI x.turn)), ((.inr "runs" : Key), .bl x.runs), ((.inr "fallen" : Key), fV x.fallen)]) (inr_nm (l := ["stages", "turn", "runs", "fallen"]) (by decide +kernel)) (inr_nm (l := ["sides"]) (by decide +kernel))
  rw [← z]; exact DPut.k (k := .inr "total") h (by show 6 < sizeLine; decide)
theorem wVg_sides (d sl : Addr) (x : Cs) {H : Hp} {e : Addr} (h : H e = some (.dK (wV d sl x))) : DGet H e (.str "sides") (some (.ref sl)) := by
  have z : valV (wV d sl x) (.inr "sides") = some (.ref sl) := valV_mid (l1 := [((.inr "stages" : Key), .ref d), ((.inr "turn" : Key), .int (tI x.turn)), ((.inr "runs" : Key), .bl x.runs), ((.inr "fallen" : Key), fV x.fallen), ((.inr "total" : Key), .int x.total)]) (inr_nm (l := ["stages", "turn", "runs", "fallen", "total"]) (by decide +kernel))
  rw [← z]; exact DGet.k (k := .inr "sides") h
local macro_rules | `(tactic| walk_at "rd1") => `(tactic| first
  | with_reducible refine rd_dget ?_
  | with_reducible refine rd_dput ?_
  | with_reducible refine rd_pcons ?_
  | with_reducible refine rd_pnil ?_
  | with_reducible refine rd_disp ?_
  | with_reducible refine rd_dget2 ?_
  | with_reducible refine rd_dcopy ?_)
local macro_rules | `(tactic| walk_at "rs1") => `(tactic| first
  | with_reducible refine rd_dget ?_
  | with_reducible refine rd_dput ?_
  | with_reducible refine rd_dget2 ?_
  | with_reducible refine rd_dcopy ?_)
def K2 (p q : Addr) (H H' : Hp) : Prop := ∀ b o, H b = some o → b ≠ p → b ≠ q → H' b = some o
section
variable {p q e : Addr} {H H' H'' : Hp} {o : HO}
theorem K2.refl : K2 p q H H := fun _ _ h _ _ => h
theorem K2.putp (k : K2 p q H H') : K2 p q H (upd H' p o) := fun b u h n m => by rw [upd_ne n]; exact k b u h n m
theorem K2.putq (k : K2 p q H H') : K2 p q H (upd H' q o) := fun b u h n m => by rw [upd_ne m]; exact k b u h n m
theorem K2.new (k : K2 p q H H') (hq : H' e = none) : K2 p q H (upd H' e o) := fun b u h n m => by rw [upd_ne (ne_of_none (k b u h n m) hq)]; exact k b u h n m
theorem K2.ke (k : K2 p q H H') (z : Ke q H' H'') : K2 p q H H'' := fun b u h n m => z b u (k b u h n m) m
theorem K2.lst {kv kv' : List (Key × V)} {xs : List V} (k : K2 p q H H') (hp : H p = some (.dK kv)) (hq : H q = some (.dK kv')) (h : H e = some (.lst xs)) : H' e = some (.lst xs) := k _ _ h (ne_of h hp (by intro z; cases z)) (ne_of h hq (by intro z; cases z))
theorem K2.tup {kv kv' : List (Key × V)} {xs : List V} (k : K2 p q H H') (hp : H p = some (.dK kv)) (hq : H q = some (.dK kv')) (h : H e = some (.tup xs)) : H' e = some (.tup xs) := k _ _ h (ne_of h hp (by intro z; cases z)) (ne_of h hq (by intro z; cases z))
theorem K2.st {kv kv' : List (Key × V)} {ps : List Addr} {gs : List Sg} (k : K2 p q H H') (hp : H p = some (.dK kv)) (hq : H q = some (.dK kv')) (x : StAt H ps gs) : StAt H' ps gs := ⟨x.len, fun i b g h1 h2 => k.tup hp hq (x.at_ i b g h1 h2)⟩
end
def setK (f : Bool → Int) (b : Bool) (k : Int) : Bool → Int := fun b' => if b' = b then k else f b'
theorem setK_same {f : Bool → Int} {b : Bool} {k : Int} : setK f b k b = k := by unfold setK; rw [if_pos rfl]
theorem setK_ne {f : Bool → Int} {b b' : Bool} {k : Int} (h : b' ≠ b) : setK f b k b' = f b' := by unfold setK; rw [if_neg h]
def Mk (gs : List Sg) (s : Sd) (k : Int) : Prop := ∀ z m t w y, gs[s.num]? = some (.five z m t w y) → k = s.made
structure Wd (H : Hp) (wa d sl : Addr) (e : Bool → Addr) (ps : List Addr) (gs : List Sg) (x : Cs) (k : Bool → Int) : Prop where
  w : H wa = some (.dK (wV d sl x))
  st : H d = some (.lst (refs ps))
  sa : StAt H ps gs
  sl : H sl = some (.lst [.ref (e false), .ref (e true)])
  di : ∀ b, H (e b) = some (.dK (sV (x.sd b) (k b)))
  ne : e false ≠ e true
  nw : ∀ b, e b ≠ wa
  mm : ∀ b, Mk gs (x.sd b) (k b)
section
variable {H H' : Hp} {wa d sl : Addr} {e : Bool → Addr} {ps : List Addr} {gs : List Sg} {x x' : Cs} {k : Bool → Int}
theorem Wd.same (h : Wd H wa d sl e ps gs x k) (s : Same H H') : Wd H' wa d sl e ps gs x k := ⟨s _ _ h.w, s _ _ h.st, h.sa.same s, s _ _ h.sl, fun b => s _ _ (h.di b), h.ne, h.nw, h.mm⟩
theorem Wd.put (h : Wd H wa d sl e ps gs x k) {b : Bool} {s : Sd} {c : Int} (z : K2 wa (e b) H H') (hw : H' wa = some (.dK (wV d sl x'))) (hs : H' (e b) = some (.dK (sV s c))) (ex : x'.sd = setS x.sd b s) (hm : Mk gs s c) : Wd H' wa d sl e ps gs x' (setK k b c) := by
  have hd := h.di b
  refine ⟨hw, z.lst h.w hd h.st, z.st h.w hd h.sa, z.lst h.w hd h.sl, fun b' => ?_, h.ne, h.nw, fun b' => ?_⟩
  · rw [ex]
    by_cases eb : b' = b
    · subst eb; rw [setS_same, setK_same]; exact hs
    · rw [setS_ne eb, setK_ne eb]; exact z _ _ (h.di b') (h.nw b') (e_ne h.ne eb)
  · rw [ex]
    by_cases eb : b' = b
    · subst eb; rw [setS_same, setK_same]; exact hm
    · rw [setS_ne eb, setK_ne eb]; exact h.mm b'
theorem Wd.at (h : Wd H wa d sl e ps gs x k) (b : Bool) : atI [V.ref (e false), V.ref (e true)] (tI b) = some (.ref (e b)) := by cases b <;> rfl
end
def spNext : Sp := fun vs H Q _ => ∃ wa e d sl ps gs x s k g, vs = [.ref wa, .ref e] ∧ wa ≠ e ∧ H wa = some (.dK (wV d sl x)) ∧ H d = some (.lst (refs ps)) ∧ StAt H ps gs ∧ H e = some (.dK (sV s k)) ∧ gs[s.num + 1]? = some g ∧ natG g ∧
  ∀ H', Ke e H H' → H' e = some (.dK (sV (beginS g (s.num + 1) s) 0)) → Q .non H'
theorem ok_law_next (T : Txt K mg a) : Has P w K mg base CX0 1 "_law_next" ["_law_world", "_law_side"] spNext := by
  refine T.f_law_next.has fun f fd F => F.ok sc_law_next (fun vs H Q E h => ?_) (fun cdv A outer s H vs Q E hr h => ?_)
  · obtain ⟨wa, e, d, sl, ps, gs, x, s, k, g, rfl, _⟩ := h; rfl
  · obtain ⟨wa, e, d, sl, ps, gs, x, s, k, g, rfl, hne, hw, hd, hst, he, hg, hnat, kk⟩ := h
    have hu := hu_of hr
    obtain ⟨q, hq1, hq⟩ := st_at hst hg
    refine ⟨_, (pss_cons (ps_dput hu (pv 1) pe_str (pe_op op_add (pe_dget hu (pv 1) pe_str (fun _ _ => rfl)) pe_int) rfl) (pss_cons (ps_dput hu (pv 1) pe_str pe_int rfl) (pss_cons (ps_set (i := 2) sc_law_next.nd rfl (Or.inl rfl) (pe_ix ix_list (pe_dget hu (pv 0) pe_str (fun _ _ => rfl)) (pe_dget hu (pv 1) pe_str (fun _ _ => rfl)) (fun _ _ => rfl))) (pss_one (ps_if (pt_cmpR op_eq (pe_ix ix_tup (pv 2) pe_int (fun _ _ => rfl)) pe_str (nomark _)) (pss_cons (ps_dput hu (pv 1) pe_str (pe_ix ix_tup (pv 2) pe_int (fun _ _ => rfl)) rfl) (pss_one (ps_dput hu (pv 1) pe_str (pe_ix ix_tup (pv 2) pe_int (fun _ _ => rfl)) rfl))) (pss_one (ps_dput hu (pv 1) pe_str (pe_op op_add (pe_dget hu (pv 1) pe_str (fun _ _ => rfl)) (pe_ix ix_tup (pv 2) pe_int (fun _ _ => rfl))) rfl))))))), ?_⟩
    walk_at "rd"
    refine ⟨e, _, rfl, sVg_at _ _ he, ?_⟩
    walk_at "rd"
    refine ⟨e, _, rfl, sVp_at _ _ (s.num + 1) he, ?_⟩
    have k1 : Ke e H (upd H e (.dK (sV { s with num := s.num + 1 } k))) := Ke.refl.put
    have he1 := upd_same (H := H) (a := e) (o := .dK (sV { s with num := s.num + 1 } k))
    generalize upd H e (.dK (sV { s with num := s.num + 1 } k)) = H1 at k1 he1
    walk_at "rd"
    refine ⟨e, _, rfl, sVp_made _ _ 0 he1, ?_⟩
    have k2 : Ke e H (upd H1 e (.dK (sV { s with num := s.num + 1 } 0))) := k1.put
    have he2 := upd_same (H := H1) (a := e) (o := .dK (sV { s with num := s.num + 1 } 0))
    generalize upd H1 e (.dK (sV { s with num := s.num + 1 } 0)) = H2 at k2 he2
    have hw2 := k2 _ _ hw hne
    have hd2 := k2.lst he hd
    have hq2 := k2.tup he hq
    walk_at "rd"
    refine ⟨wa, _, rfl, wVg_stages _ _ _ hw2, ?_⟩
    walk_at "rd"
    refine ⟨e, _, rfl, sVg_at _ _ he2, ?_⟩
    refine rd_ixL (SqL.of hd2) hq1 ?_
    walk_at "rd"
    cases g with
    | five z m t ww y =>
      obtain rfl : z = "main" := hnat
      refine rd_ixT (v := .str "main") (SqT.of hq2) rfl ?_
      walk_at "rd"
      refine rd_ite (fun z => absurd z (show ¬ V.str "main" = V.str "over" by decide +kernel)) (fun _ => ?_)
      walk_at "rd"
      refine ⟨e, _, rfl, sVg_ticks _ _ he2, ?_⟩
      walk_at "rd"
      refine rd_ixT (v := .int t) (SqT.of hq2) rfl ?_
      walk_at "rd"
      refine ⟨e, _, rfl, sVp_ticks _ _ _ he2, ?_⟩
      exact kk _ k2.put upd_same
    | three z p t =>
      obtain rfl : z = "over" := hnat
      refine rd_ixT (v := .str "over") (SqT.of hq2) rfl ?_
      walk_at "rd"
      refine rd_ite (fun _ => ?_) (fun z => absurd rfl z)
      walk_at "rd"
      refine rd_ixT (v := .int p) (SqT.of hq2) rfl ?_
      walk_at "rd"
      refine ⟨e, _, rfl, sVp_per _ _ _ he2, ?_⟩
      have k3 : Ke e H (upd H2 e (.dK (sV { s with num := s.num + 1, periods := p } 0))) := k2.put
      have he3 := upd_same (H := H2) (a := e) (o := .dK (sV { s with num := s.num + 1, periods := p } 0))
      have hq3 := k3.tup he hq
      generalize upd H2 e (.dK (sV { s with num := s.num + 1, periods := p } 0)) = H3 at k3 he3 hq3
      walk_at "rd"
      refine rd_ixT (v := .int t) (SqT.of hq3) rfl ?_
      walk_at "rd"
      refine ⟨e, _, rfl, sVp_ticks _ _ _ he3, ?_⟩
      exact kk _ k3.put upd_same
theorem goX_one {gs : List Sg} {x : Cs} {g : Sg} (hl : 0 < (x.sd x.turn).left) (hg : gs[(x.sd x.turn).num]? = some g) : goX gs 1 x = if (tick gs g (x.sd x.turn)).left = 0 then { turn := x.turn, runs := false, fallen := some x.turn, total := x.total + 1, sd := setS x.sd x.turn (tick gs g (x.sd x.turn)) }
    else { turn := x.turn, runs := x.runs, fallen := x.fallen, total := x.total + 1, sd := setS x.sd x.turn (tick gs g (x.sd x.turn)) } := by
  have e : runT gs 1 (x.sd x.turn) = (1, tick gs g (x.sd x.turn)) := by rw [show (1 : Nat) = 0 + 1 from rfl, run_succ gs 0 _ g (by omega) hg, run_zero]
  unfold goX
  rw [e]; rfl
theorem adv1_three {z : Str} {p t : Int} {s : Sd} : adv (.three z p t) 1 s = { s with passed := s.passed + 1, left := s.left - 1 } := by
  unfold adv
  rw [show freeT (.three z p t) s.passed = 0 from rfl, show s.left - max 0 ((1 : Int) - 0) = s.left - 1 by omega]
theorem adv1_go {z w : Str} {m : Option Int} {t y : Int} {s : Sd} (h : ¬ V.str w = V.str "wait" ∨ s.passed + 1 > y) : adv (.five z m t w y) 1 s = { s with passed := s.passed + 1, left := s.left - 1 } := by
  have e : freeT (.five z m t w y) s.passed = 0 := by
    show (if V.str w = V.str "wait" then max 0 (y - s.passed) else 0) = 0
    rcases h with h | h
    · rw [if_neg h]
    · split <;> omega
  unfold adv
  rw [e, show s.left - max 0 ((1 : Int) - 0) = s.left - 1 by omega]
theorem adv1_wait {z w : Str} {m : Option Int} {t y : Int} {s : Sd} (h : V.str w = V.str "wait") (h2 : ¬ s.passed + 1 > y) : adv (.five z m t w y) 1 s = { s with passed := s.passed + 1 } := by
  have e : freeT (.five z m t w y) s.passed = y - s.passed := by
    show (if V.str w = V.str "wait" then max 0 (y - s.passed) else 0) = _
    rw [if_pos h]; omega
  unfold adv
  rw [e, show s.left - max 0 ((1 : Int) - (y - s.passed)) = s.left by omega]
theorem begin_pos {gs : List Sg} (he : eachOk gs) {n : Nat} {g : Sg} {s : Sd} (hg : gs[n]? = some g) (hl : 0 ≤ s.left) : (beginS g n s).left ≠ 0 := by
  have h1 := good_t (he n g hg)
  cases g with
  | five z m t w e => show s.left + t ≠ 0; have : (1 : Int) ≤ t := h1; omega
  | three z p t => show t ≠ 0; have : (1 : Int) ≤ t := h1; omega
def spTick : Sp := fun vs H Q _ => ∃ wa d sl e ps gs x k, vs = [.ref wa] ∧ Wd H wa d sl e ps gs x k ∧ (∀ g ∈ gs, natG g) ∧ eachOk gs ∧ WF gs (x.sd x.turn) ∧ 0 < (x.sd x.turn).left ∧
  ∀ H' k', Wd H' wa d sl e ps gs (goX gs 1 x) k' → K2 wa (e x.turn) H H' → Q .non H'
theorem ok_law_tick (T : Txt K mg a) : Has P w K mg base CX0 2 "_law_tick" ["_law_world"] spTick := by
  have G_law_next := ok_law_next (P := P) (w := w) (base := base) T
  refine T.f_law_tick.has fun f fd F => F.ok sc_law_tick (fun vs H Q E h => ?_) (fun cdv A outer s H vs Q E hr h => ?_)
  · obtain ⟨wa, d, sl, e, ps, gs, x, k, rfl, _⟩ := h; rfl
  · obtain ⟨wa, d, sl, e, ps, gs, x, k, rfl, W, hnat, heo, hwf, hpos, kk⟩ := h
    have hu := hu_of hr
    have hg := List.getElem?_eq_getElem hwf.num
    have hgn := hnat _ (List.mem_of_getElem? hg)
    generalize gs[(x.sd x.turn).num]'hwf.num = g at hg hgn
    obtain ⟨q, hq1, hq⟩ := st_at W.sa hg
    have hgo := goX_one hpos hg
    have hds := W.di x.turn
    have hne := W.nw x.turn
    have hmk := W.mm x.turn
    have fin : ∀ H9 s9 c9, K2 wa (e x.turn) H H9 → H9 wa = some (.dK (wV d sl { x with total := x.total + 1 })) → H9 (e x.turn) = some (.dK (sV s9 c9)) → tick gs g (x.sd x.turn) = s9 → s9.left ≠ 0 → Mk gs s9 c9 → Q .non H9 := fun H9 s9 c9 k9 hw9 hs9 e9 hl9 hm9 => by
      rw [e9] at hgo
      rw [if_neg hl9] at hgo
      exact kk H9 _ (by rw [hgo]; exact W.put k9 hw9 hs9 rfl hm9) k9
    have falls : ∀ H9 s9 c9, K2 wa (e x.turn) H H9 → H9 wa = some (.dK (wV d sl { x with total := x.total + 1, fallen := some x.turn, runs := false })) → H9 (e x.turn) = some (.dK (sV s9 c9)) → tick gs g (x.sd x.turn) = s9 → s9.left = 0 → Mk gs s9 c9 → Q .non H9 := fun H9 s9 c9 k9 hw9 hs9 e9 hl9 hm9 => by
      rw [e9] at hgo
      rw [if_pos hl9] at hgo
      exact kk H9 _ (by rw [hgo]; exact W.put k9 hw9 hs9 rfl hm9) k9
    generalize hs0 : x.sd x.turn = s0 at *
    refine ⟨_, (pss_cons (ps_set (i := 1) sc_law_tick.nd rfl (Or.inl rfl) (pe_ix ix_list (pe_dget hu (pv 0) pe_str (fun _ _ => rfl)) (pe_dget hu (pv 0) pe_str (fun _ _ => rfl)) (fun _ _ => rfl))) (pss_cons (ps_set (i := 2) sc_law_tick.nd rfl (Or.inl rfl) (pe_ix ix_list (pe_dget hu (pv 0) pe_str (fun _ _ => rfl)) (pe_dget hu (pv 1) pe_str (fun _ _ => rfl)) (fun _ _ => rfl))) (pss_cons (ps_dput hu (pv 1) pe_str (pe_op op_add (pe_dget hu (pv 1) pe_str (fun _ _ => rfl)) pe_int) rfl) (pss_cons (ps_dput hu (pv 0) pe_str (pe_op op_add (pe_dget hu (pv 0) pe_str (fun _ _ => rfl)) pe_int) rfl) (pss_cons (ps_if (PW.pt (pw_or (pt_cmpR op_eq (pe_ix ix_tup (pv 2) pe_int (fun _ _ => rfl)) pe_str (nomark _)) (pw_or (pt_cmpR op_ne (pe_ix ix_tup (pv 2) pe_int (fun _ _ => rfl)) pe_str (nomark _)) (pw_or1 (pt_cmpR op_gt (pe_dget hu (pv 1) pe_str (fun _ _ => rfl)) (pe_ix ix_tup (pv 2) pe_int (fun _ _ => rfl)) (nomark _)))))) (pss_one (ps_dput hu (pv 1) pe_str (pe_op op_sub (pe_dget hu (pv 1) pe_str (fun _ _ => rfl)) pe_int) rfl)) pss_nil) (pss_cons (ps_if (pt_cmpR op_gt (pe_dget hu (pv 1) pe_str (fun _ _ => rfl)) pe_int (nomark _)) (pss_one ps_retN) pss_nil) (pss_cons (ps_if (pt_cmpR op_eq (pe_ix ix_tup (pv 2) pe_int (fun _ _ => rfl)) pe_str (nomark _)) (pss_cons (ps_dput hu (pv 1) pe_str (pe_op op_sub (pe_dget hu (pv 1) pe_str (fun _ _ => rfl)) pe_int) rfl) (pss_one (ps_if (pt_cmpR op_gt (pe_dget hu (pv 1) pe_str (fun _ _ => rfl)) pe_int (nomark _)) (pss_cons (ps_dput hu (pv 1) pe_str (pe_ix ix_tup (pv 2) pe_int (fun _ _ => rfl)) rfl) (pss_one ps_retN)) pss_nil))) (pss_one (ps_if (PW.pt (pw_and (pt_cmpR op_isN (pe_ix ix_tup (pv 2) pe_int (fun _ _ => rfl)) pe_non (nomark _)) (pw_and1 (pt_cmpR op_lt (pe_op op_add (pe_dget hu (pv 1) pe_str (fun _ _ => rfl)) pe_int) (pe_callB call_len_seq (by rfl) T.n_len PySem.boot_len (pa_c (pe_dget hu (pv 0) pe_str (fun _ _ => rfl)) pa_nil ns_sub) (he := star_cons ns_sub) (hpl := star_any ns_nil)) (nomark _))))) (pss_cons (ps_expr (pe_callH G_law_next hr (pa_c (pv 0) (pa_c (pv 1) pa_nil ns_name) ns_name) (he := star_cons ns_name) (hpl := star_any (ns_cons ns_name ns_nil)))) (pss_one ps_retN)) pss_nil))) (pss_cons (ps_dput hu (pv 0) pe_str (pe_dget hu (pv 0) pe_str (fun _ _ => rfl)) rfl) (pss_one (ps_dput hu (pv 0) pe_str pe_bl rfl)))))))))), ?_⟩
    walk_at "rd"
    refine ⟨wa, _, rfl, wVg_sides _ _ _ W.w, ?_⟩
    walk_at "rd"
    refine ⟨wa, _, rfl, wVg_turn _ _ _ W.w, ?_⟩
    refine rd_ixL (SqL.of W.sl) (W.at x.turn) ?_
    walk_at "rd"
    refine ⟨wa, _, rfl, wVg_stages _ _ _ W.w, ?_⟩
    walk_at "rd"
    refine ⟨e x.turn, _, rfl, sVg_at _ _ hds, ?_⟩
    refine rd_ixL (SqL.of W.st) hq1 ?_
    walk_at "rd"
    refine ⟨e x.turn, _, rfl, sVg_used _ _ hds, ?_⟩
    walk_at "rd"
    refine ⟨e x.turn, _, rfl, sVp_used _ _ _ hds, ?_⟩
    have k1 : K2 wa (e x.turn) H (upd H (e x.turn) (.dK (sV { s0 with passed := s0.passed + 1 } (k x.turn)))) := K2.refl.putq
    have hs1 := upd_same (H := H) (a := e x.turn) (o := .dK (sV { s0 with passed := s0.passed + 1 } (k x.turn)))
    have hw1 : (upd H (e x.turn) (.dK (sV { s0 with passed := s0.passed + 1 } (k x.turn)))) wa = some (.dK (wV d sl x)) := by rw [upd_ne hne.symm]; exact W.w
    generalize upd H (e x.turn) (.dK (sV { s0 with passed := s0.passed + 1 } (k x.turn))) = H1 at k1 hs1 hw1
    walk_at "rd"
    refine ⟨wa, _, rfl, wVg_total _ _ _ hw1, ?_⟩
    walk_at "rd"
    refine ⟨wa, _, rfl, wVp_total _ _ _ _ hw1, ?_⟩
    have k2 := k1.putp (o := .dK (wV d sl { x with total := x.total + 1 }))
    have hw2 := upd_same (H := H1) (a := wa) (o := .dK (wV d sl { x with total := x.total + 1 }))
    have hs2 : (upd H1 wa (.dK (wV d sl { x with total := x.total + 1 }))) (e x.turn) = some (.dK (sV { s0 with passed := s0.passed + 1 } (k x.turn))) := by rw [upd_ne hne]; exact hs1
    generalize upd H1 wa (.dK (wV d sl { x with total := x.total + 1 })) = H2 at k2 hw2 hs2
    have hq2 := k2.tup W.w hds hq
    walk_at "rs"
    refine rd_joinIf (fun σ' H' => σ' = [some (.ref wa), some (.ref (e x.turn)), some (.ref q)] ∧ K2 wa (e x.turn) H H' ∧ H' wa = some (.dK (wV d sl { x with total := x.total + 1 })) ∧ H' (e x.turn) = some (.dK (sV (adv g 1 s0) (k x.turn)))) ?_ ?_
    · rintro σ' H3 ⟨rfl, k3, hw3, hs3⟩
      have hq3 := k3.tup W.w hds hq
      have hf0 := free_nn g s0.passed
      have hl1 : 0 ≤ (adv g 1 s0).left := by show 0 ≤ s0.left - max 0 (1 - freeT g s0.passed); omega
      walk_at "rd"
      refine ⟨e x.turn, _, rfl, sVg_ticks _ _ hs3, ?_⟩
      walk_at "rd"
      refine rd_ite (fun hp => ?_) (fun hp => ?_)
      · walk_at "rd"
        exact fin H3 (adv g 1 s0) _ k3 hw3 hs3 (by unfold tick settle; rw [if_neg (by omega)]) (by omega) (fun z m t w y h => hmk z m t w y h)
      · have hz : (adv g 1 s0).left = 0 := by omega
        have ht : tick gs g s0 = goOnG gs g (adv g 1 s0) := by
          unfold tick settle
          rw [if_pos hz]
          unfold goOn
          rw [show gs[(adv g 1 s0).num]? = some g from hg]
        walk_at "rs"
        refine rd_joinIf (fun σ' H' => σ' = [some (.ref wa), some (.ref (e x.turn)), some (.ref q)] ∧ ∃ s9 c9, K2 wa (e x.turn) H H' ∧ H' wa = some (.dK (wV d sl { x with total := x.total + 1 })) ∧ H' (e x.turn) = some (.dK (sV s9 c9)) ∧ tick gs g s0 = s9 ∧ s9.left = 0 ∧ Mk gs s9 c9) ?_ ?_
        · rintro σ' H4 ⟨rfl, s9, c9, k9, hw9, hs9, e9, hl9, hm9⟩
          walk_at "rd"
          refine ⟨wa, _, rfl, wVg_turn _ _ _ hw9, ?_⟩
          walk_at "rd"
          refine ⟨wa, _, rfl, wVp_fallen _ _ _ (some x.turn) hw9, ?_⟩
          have k5 := k9.putp (o := .dK (wV d sl { x with total := x.total + 1, fallen := some x.turn }))
          have hw5 := upd_same (H := H4) (a := wa) (o := .dK (wV d sl { x with total := x.total + 1, fallen := some x.turn }))
          have hs5 : (upd H4 wa (.dK (wV d sl { x with total := x.total + 1, fallen := some x.turn }))) (e x.turn) = some (.dK (sV s9 c9)) := by rw [upd_ne hne]; exact hs9
          generalize upd H4 wa (.dK (wV d sl { x with total := x.total + 1, fallen := some x.turn })) = H5 at k5 hw5 hs5
          walk_at "rd"
          refine ⟨wa, _, rfl, wVp_runs _ _ _ false hw5, ?_⟩
          exact falls _ s9 c9 k5.putp upd_same (by rw [upd_ne hne]; exact hs5) e9 hl9 hm9
        · intro nx hnx
          cases g with
          | three z p t =>
            obtain rfl : z = "over" := hgn
            have ht1 : (1 : Int) ≤ t := good_t (heo _ _ hg)
            have hmk3 : ∀ s' c', s'.num = s0.num → Mk gs s' c' := fun s' c' hn z m t w y h => by rw [hn, hg] at h; cases h
            walk_at "rd"
            refine rd_ixT (v := .str "over") (SqT.of hq3) rfl ?_
            walk_at "rd"
            refine rd_ite (fun _ => ?_) (fun z => absurd rfl z)
            walk_at "rd"
            refine ⟨e x.turn, _, rfl, sVg_per _ _ hs3, ?_⟩
            walk_at "rd"
            refine ⟨e x.turn, _, rfl, sVp_per _ _ _ hs3, ?_⟩
            have k4 := k3.putq (o := .dK (sV { adv (.three "over" p t) 1 s0 with periods := (adv (.three "over" p t) 1 s0).periods - 1 } (k x.turn)))
            have hs4 := upd_same (H := H3) (a := e x.turn) (o := .dK (sV { adv (.three "over" p t) 1 s0 with periods := (adv (.three "over" p t) 1 s0).periods - 1 } (k x.turn)))
            have hw4 : (upd H3 (e x.turn) (.dK (sV { adv (.three "over" p t) 1 s0 with periods := (adv (.three "over" p t) 1 s0).periods - 1 } (k x.turn)))) wa = some (.dK (wV d sl { x with total := x.total + 1 })) := by rw [upd_ne hne.symm]; exact hw3
            generalize upd H3 (e x.turn) (.dK (sV { adv (.three "over" p t) 1 s0 with periods := (adv (.three "over" p t) 1 s0).periods - 1 } (k x.turn))) = H4 at k4 hs4 hw4
            have hq4 := k4.tup W.w hds hq
            walk_at "rd"
            refine ⟨e x.turn, _, rfl, sVg_per _ _ hs4, ?_⟩
            walk_at "rd"
            refine rd_ite (fun hp2 => ?_) (fun hp2 => ?_)
            · walk_at "rd"
              refine rd_ixT (v := .int t) (SqT.of hq4) rfl ?_
              walk_at "rd"
              refine ⟨e x.turn, _, rfl, sVp_ticks _ _ _ hs4, ?_⟩
              walk_at "rd"
              refine fin _ { adv (.three "over" p t) 1 s0 with periods := (adv (.three "over" p t) 1 s0).periods - 1, left := t } (k x.turn) k4.putq (by rw [upd_ne hne.symm]; exact hw4) upd_same ?_ (by show t ≠ 0; omega) (hmk3 _ _ rfl)
              rw [ht]
              show (if (adv (.three "over" p t) 1 s0).periods - 1 > 0 then _ else _) = _
              rw [if_pos hp2]
            · walk_at "rd"
              refine hnx _ _ ⟨rfl, { adv (.three "over" p t) 1 s0 with periods := (adv (.three "over" p t) 1 s0).periods - 1 }, _, k4, hw4, hs4, ?_, hz, hmk3 _ _ rfl⟩
              rw [ht]
              show (if (adv (.three "over" p t) 1 s0).periods - 1 > 0 then _ else _) = _
              rw [if_neg hp2]
          | five z m t ww y =>
            obtain rfl : z = "main" := hgn
            have hmk5 : Mk gs (adv (.five "main" m t ww y) 1 s0) (k x.turn) := fun z m t w y h => hmk z m t w y h
            walk_at "rd"
            refine rd_ixT (v := .str "main") (SqT.of hq3) rfl ?_
            walk_at "rd"
            refine rd_ite (fun z => absurd z (show ¬ V.str "main" = V.str "over" by decide +kernel)) (fun _ => ?_)
            walk_at "rd"
            cases m with
            | some mm =>
              refine rd_ixT (v := .int mm) (SqT.of hq3) rfl ?_
              walk_at "rd"
              refine rd_ite (fun z => by cases z) (fun _ => ?_)
              walk_at "rd"
              exact hnx _ _ ⟨rfl, _, _, k3, hw3, hs3, ht, hz, hmk5⟩
            | none =>
              refine rd_ixT (v := .non) (SqT.of hq3) rfl ?_
              walk_at "rd"
              refine rd_ite (fun _ => ?_) (fun z => absurd rfl z)
              walk_at "rd"
              refine ⟨e x.turn, _, rfl, sVg_at _ _ hs3, ?_⟩
              walk_at "rd"
              refine ⟨wa, _, rfl, wVg_stages _ _ _ hw3, ?_⟩
              walk_at "rd"
              refine ⟨d, _, rfl, .inl (SqL.of (k3.lst W.w hds W.st)), ?_⟩
              rw [refs_len]
              have hlen := W.sa.len
              have hnum : (adv (.five "main" none t ww y) 1 s0).num = s0.num := rfl
              walk_at "rd"
              refine rd_ite (fun hlt => ?_) (fun hlt => ?_)
              · have hlt' : s0.num + 1 < gs.length := by omega
                have hg' := List.getElem?_eq_getElem hlt'
                have hn' := hnat _ (List.mem_of_getElem? hg')
                have ht2 : tick gs (.five "main" none t ww y) s0 = beginS gs[s0.num + 1] (s0.num + 1) (adv (.five "main" none t ww y) 1 s0) := by
                  rw [ht]
                  show (if (adv (.five "main" none t ww y) 1 s0).num + 1 < gs.length then beginAt gs ((adv (.five "main" none t ww y) 1 s0).num + 1) (adv (.five "main" none t ww y) 1 s0) else _) = _
                  rw [hnum, if_pos hlt']
                  unfold beginAt
                  rw [hg']
                generalize gs[s0.num + 1] = g' at hg' hn' ht2
                walk_at "rd"
                refine ⟨wa, e x.turn, d, sl, ps, gs, _, adv (.five "main" none t ww y) 1 s0, k x.turn, g', rfl, hne.symm, hw3, k3.lst W.w hds W.st, k3.st W.w hds W.sa, hs3, hg', hn', fun H5 ke hs5 => ?_⟩
                walk_at "rd"
                refine fin H5 _ 0 (k3.ke ke) (ke _ _ hw3 hne.symm) hs5 ht2 (begin_pos heo hg' (Int.le_of_eq hz.symm)) (fun z m t w y h => ?_)
                cases g' <;> rfl
              · walk_at "rd"
                refine hnx _ _ ⟨rfl, _, _, k3, hw3, hs3, ?_, hz, hmk5⟩
                rw [ht]
                show (if (adv (.five "main" none t ww y) 1 s0).num + 1 < gs.length then _ else _) = _
                rw [hnum, if_neg (by omega)]
    · intro nx hnx
      have go : ∀ H5, H5 = H2 → adv g 1 s0 = { s0 with passed := s0.passed + 1, left := s0.left - 1 } → nx [some (.ref wa), some (.ref (e x.turn)), some (.ref q)] (upd H5 (e x.turn) (.dK (sV { s0 with passed := s0.passed + 1, left := s0.left - 1 } (k x.turn)))) := fun H5 e5 ea => by
        subst e5
        exact hnx _ _ ⟨rfl, k2.putq, by rw [upd_ne hne.symm]; exact hw2, by rw [ea]; exact upd_same⟩
      refine rd_ifS (rd_gen (fun b H5 => H5 = H2 ∧ (b = true → adv g 1 s0 = { s0 with passed := s0.passed + 1, left := s0.left - 1 }) ∧ (b = false → adv g 1 s0 = { s0 with passed := s0.passed + 1 })) ?_ ?_)
      · rintro b H5 ⟨e5, h1, h2⟩
        refine rd_iteB (fun hb => ?_) (fun hb => ?_)
        · subst e5
          walk_at "rd"
          refine ⟨e x.turn, _, rfl, sVg_ticks _ _ hs2, ?_⟩
          walk_at "rd"
          refine ⟨e x.turn, _, rfl, sVp_ticks _ _ _ hs2, ?_⟩
          exact go _ rfl (h1 hb)
        · subst e5
          walk_at "rd"
          exact hnx _ _ ⟨rfl, k2, hw2, by rw [h2 hb]; exact hs2⟩
      · intro QB hQ
        walk_at "rd"
        cases g with
        | three z p t =>
          obtain rfl : z = "over" := hgn
          refine rd_ixT (v := .str "over") (SqT.of hq2) rfl ?_
          walk_at "rd"
          refine rd_ite (fun _ => ?_) (fun z => absurd rfl z)
          exact hQ _ _ ⟨rfl, fun _ => adv1_three, fun z => by cases z⟩
        | five z m t ww y =>
          obtain rfl : z = "main" := hgn
          refine rd_ixT (v := .str "main") (SqT.of hq2) rfl ?_
          walk_at "rd"
          refine rd_ite (fun z => absurd z (show ¬ V.str "main" = V.str "over" by decide +kernel)) (fun _ => ?_)
          walk_at "rd"
          refine rd_ixT (v := .str ww) (SqT.of hq2) rfl ?_
          walk_at "rd"
          refine rd_iteN (fun hw => ?_) (fun hw => ?_)
          · exact hQ _ _ ⟨rfl, fun _ => adv1_go (.inl hw), fun z => by cases z⟩
          · walk_at "rd"
            refine ⟨e x.turn, _, rfl, sVg_used _ _ hs2, ?_⟩
            walk_at "rd"
            refine rd_ixT (v := .int y) (SqT.of hq2) rfl ?_
            walk_at "rd"
            by_cases hy : s0.passed + 1 > y
            · exact hQ _ _ ⟨rfl, fun _ => adv1_go (.inr hy), fun z => by simp at z; omega⟩
            · exact hQ _ _ ⟨rfl, fun z => by simp at z; omega, fun _ => adv1_wait hw hy⟩
theorem move_three {gs : List Sg} {s : Sd} {z : Str} {p t : Int} (hg : gs[s.num]? = some (.three z p t)) : moveS gs s = { s with moves := s.moves + 1, left := t, passed := 0 } := by unfold moveS; rw [hg]; rfl
theorem move_five {gs : List Sg} {s : Sd} {z w : Str} {m : Option Int} {t y : Int} (hg : gs[s.num]? = some (.five z m t w y)) : moveS gs s = { countS gs (.five z m t w y) { s with moves := s.moves + 1, left := s.left + extraT (.five z m t w y) s.passed } with passed := 0 } := by unfold moveS; rw [hg]; rfl
def prX (gs : List Sg) (x : Cs) : Cs := { x with turn := !x.turn, sd := setS x.sd x.turn (moveS gs (x.sd x.turn)) }
def spPress : Sp := fun vs H Q _ => ∃ wa d sl e ps gs x k, vs = [.ref wa] ∧ Wd H wa d sl e ps gs x k ∧ (∀ g ∈ gs, natG g) ∧ eachOk gs ∧ orderOk gs ∧ WF gs (x.sd x.turn) ∧
  ∀ H' k', Wd H' wa d sl e ps gs (prX gs x) k' → K2 wa (e x.turn) H H' → Q .non H'
theorem ok_law_press (T : Txt K mg a) : Has P w K mg base CX0 2 "_law_press" ["_law_world"] spPress := by
  have G_law_next := ok_law_next (P := P) (w := w) (base := base) T
  refine T.f_law_press.has fun f fd F => F.ok sc_law_press (fun vs H Q E h => ?_) (fun cdv A outer s H vs Q E hr h => ?_)
  · obtain ⟨wa, d, sl, e, ps, gs, x, k, rfl, _⟩ := h; rfl
  · obtain ⟨wa, d, sl, e, ps, gs, x, k, rfl, W, hnat, heo, hoo, hwf, kk⟩ := h
    have hu := hu_of hr
    have hg := List.getElem?_eq_getElem hwf.num
    have hgn := hnat _ (List.mem_of_getElem? hg)
    have hgood := heo _ _ hg
    generalize gs[(x.sd x.turn).num]'hwf.num = g at hg hgn hgood
    obtain ⟨q, hq1, hq⟩ := st_at W.sa hg
    have hds := W.di x.turn
    have hne := W.nw x.turn
    have hmk := W.mm x.turn
    have fin : ∀ H9 s9 c9, K2 wa (e x.turn) H H9 → H9 wa = some (.dK (wV d sl x)) → H9 (e x.turn) = some (.dK (sV s9 c9)) → sV s9 c9 = sV (moveS gs (x.sd x.turn)) c9 → Mk gs (moveS gs (x.sd x.turn)) c9 → Q .non (upd H9 wa (.dK (wV d sl { x with turn := !x.turn }))) := fun H9 s9 c9 k9 hw9 hs9 e9 hm9 => by
      rw [e9] at hs9
      exact kk _ _ (W.put (x' := prX gs x) k9.putp upd_same (by rw [upd_ne hne]; exact hs9) rfl hm9) k9.putp
    generalize hs0 : x.sd x.turn = s0 at *
    refine ⟨_, (pss_cons (ps_set (i := 1) sc_law_press.nd rfl (Or.inl rfl) (pe_ix ix_list (pe_dget hu (pv 0) pe_str (fun _ _ => rfl)) (pe_dget hu (pv 0) pe_str (fun _ _ => rfl)) (fun _ _ => rfl))) (pss_cons (ps_set (i := 2) sc_law_press.nd rfl (Or.inl rfl) (pe_ix ix_list (pe_dget hu (pv 0) pe_str (fun _ _ => rfl)) (pe_dget hu (pv 1) pe_str (fun _ _ => rfl)) (fun _ _ => rfl))) (pss_cons (ps_dput hu (pv 1) pe_str (pe_op op_add (pe_dget hu (pv 1) pe_str (fun _ _ => rfl)) pe_int) rfl) (pss_cons (ps_dput hu (pv 1) pe_str (pe_op op_add (pe_dget hu (pv 1) pe_str (fun _ _ => rfl)) pe_int) rfl) (pss_cons (ps_if (pt_cmpR op_eq (pe_ix ix_tup (pv 2) pe_int (fun _ _ => rfl)) pe_str (nomark _)) (pss_one (ps_dput hu (pv 1) pe_str (pe_ix ix_tup (pv 2) pe_int (fun _ _ => rfl)) rfl)) (pss_cons (ps_set (i := 3) sc_law_press.nd rfl (Or.inl rfl) (pe_disp (pps_cons pe_str (pe_ix ix_tup (pv 2) pe_int (fun _ _ => rfl)) (pps_cons pe_str (pe_callB (call_min2 rfl) (by rfl) T.n_min boot_min (pa_c (pe_ix ix_tup (pv 2) pe_int (fun _ _ => rfl)) (pa_c (pe_dget hu (pv 1) pe_str (fun _ _ => rfl)) pa_nil ns_sub) ns_sub) (he := star_cons ns_sub) (hpl := star_any (ns_cons ns_sub ns_nil))) pps_nil)) rfl rfl (List.cons_ne_nil _ _) (Nat.le_of_ble_eq_true rfl))) (pss_one (ps_dput hu (pv 1) pe_str (pe_op op_add (pe_dget hu (pv 1) pe_str (fun _ _ => rfl)) (pe_dget2 hu (pv 3) (pe_ix ix_tup (pv 2) pe_int (fun _ _ => rfl)) pe_int (m2_of ns_sub ns_con))) rfl)))) (pss_cons (ps_dput hu (pv 1) pe_str pe_int rfl) (pss_cons (ps_if (PW.pt (pw_and (pt_cmpR op_eq (pe_ix ix_tup (pv 2) pe_int (fun _ _ => rfl)) pe_str (nomark _)) (pw_and1 (pt_cmpR op_eq (pe_dget hu (pv 1) pe_str (fun _ _ => rfl)) (pe_ix ix_tup (pv 2) pe_int (fun _ _ => rfl)) (nomark _))))) (pss_one (ps_expr (pe_callH G_law_next hr (pa_c (pv 0) (pa_c (pv 1) pa_nil ns_name) ns_name) (he := star_cons ns_name) (hpl := star_any (ns_cons ns_name ns_nil))))) pss_nil) (pss_one (ps_dput hu (pv 0) pe_str (pe_op op_sub pe_int (pe_dget hu (pv 0) pe_str (fun _ _ => rfl))) rfl))))))))), ?_⟩
    walk_at "rd"
    refine ⟨wa, _, rfl, wVg_sides _ _ _ W.w, ?_⟩
    walk_at "rd"
    refine ⟨wa, _, rfl, wVg_turn _ _ _ W.w, ?_⟩
    refine rd_ixL (SqL.of W.sl) (W.at x.turn) ?_
    walk_at "rd"
    refine ⟨wa, _, rfl, wVg_stages _ _ _ W.w, ?_⟩
    walk_at "rd"
    refine ⟨e x.turn, _, rfl, sVg_at _ _ hds, ?_⟩
    refine rd_ixL (SqL.of W.st) hq1 ?_
    walk_at "rd"
    refine ⟨e x.turn, _, rfl, sVg_moved _ _ hds, ?_⟩
    walk_at "rd"
    refine ⟨e x.turn, _, rfl, sVp_moved _ _ _ hds, ?_⟩
    have k1 : K2 wa (e x.turn) H (upd H (e x.turn) (.dK (sV { s0 with moves := s0.moves + 1 } (k x.turn)))) := K2.refl.putq
    have hs1 := upd_same (H := H) (a := e x.turn) (o := .dK (sV { s0 with moves := s0.moves + 1 } (k x.turn)))
    have hw1 : (upd H (e x.turn) (.dK (sV { s0 with moves := s0.moves + 1 } (k x.turn)))) wa = some (.dK (wV d sl x)) := by rw [upd_ne hne.symm]; exact W.w
    generalize upd H (e x.turn) (.dK (sV { s0 with moves := s0.moves + 1 } (k x.turn))) = H1 at k1 hs1 hw1
    walk_at "rd"
    refine ⟨e x.turn, _, rfl, sVg_made _ _ hs1, ?_⟩
    walk_at "rd"
    refine ⟨e x.turn, _, rfl, sVp_made _ _ _ hs1, ?_⟩
    have k2 := k1.putq (o := .dK (sV { s0 with moves := s0.moves + 1 } (k x.turn + 1)))
    have hs2 := upd_same (H := H1) (a := e x.turn) (o := .dK (sV { s0 with moves := s0.moves + 1 } (k x.turn + 1)))
    have hw2 : (upd H1 (e x.turn) (.dK (sV { s0 with moves := s0.moves + 1 } (k x.turn + 1)))) wa = some (.dK (wV d sl x)) := by rw [upd_ne hne.symm]; exact hw1
    generalize upd H1 (e x.turn) (.dK (sV { s0 with moves := s0.moves + 1 } (k x.turn + 1))) = H2 at k2 hs2 hw2
    have hq2 := k2.tup W.w hds hq
    walk_at "rd"
    cases g with
    | three z p t =>
      obtain rfl : z = "over" := hgn
      refine rd_ixT (v := .str "over") (SqT.of hq2) rfl ?_
      walk_at "rd"
      refine rd_ite (fun _ => ?_) (fun z => absurd rfl z)
      walk_at "rd"
      refine rd_ixT (v := .int t) (SqT.of hq2) rfl ?_
      walk_at "rd"
      refine ⟨e x.turn, _, rfl, sVp_ticks _ _ _ hs2, ?_⟩
      have k3 := k2.putq (o := .dK (sV { s0 with moves := s0.moves + 1, left := t } (k x.turn + 1)))
      have hs3 := upd_same (H := H2) (a := e x.turn) (o := .dK (sV { s0 with moves := s0.moves + 1, left := t } (k x.turn + 1)))
      have hw3 : (upd H2 (e x.turn) (.dK (sV { s0 with moves := s0.moves + 1, left := t } (k x.turn + 1)))) wa = some (.dK (wV d sl x)) := by rw [upd_ne hne.symm]; exact hw2
      generalize upd H2 (e x.turn) (.dK (sV { s0 with moves := s0.moves + 1, left := t } (k x.turn + 1))) = H3 at k3 hs3 hw3
      walk_at "rd"
      refine ⟨e x.turn, _, rfl, sVp_used _ _ _ hs3, ?_⟩
      have k4 := k3.putq (o := .dK (sV { s0 with moves := s0.moves + 1, left := t, passed := 0 } (k x.turn + 1)))
      have hs4 := upd_same (H := H3) (a := e x.turn) (o := .dK (sV { s0 with moves := s0.moves + 1, left := t, passed := 0 } (k x.turn + 1)))
      have hw4 : (upd H3 (e x.turn) (.dK (sV { s0 with moves := s0.moves + 1, left := t, passed := 0 } (k x.turn + 1)))) wa = some (.dK (wV d sl x)) := by rw [upd_ne hne.symm]; exact hw3
      generalize upd H3 (e x.turn) (.dK (sV { s0 with moves := s0.moves + 1, left := t, passed := 0 } (k x.turn + 1))) = H4 at k4 hs4 hw4
      have hq4 := k4.tup W.w hds hq
      walk_at "rd"
      refine rd_ixT (v := .str "over") (SqT.of hq4) rfl ?_
      walk_at "rd"
      refine rd_ite (fun z => absurd z (show ¬ V.str "over" = V.str "main" by decide +kernel)) (fun _ => ?_)
      walk_at "rd"
      refine ⟨wa, _, rfl, wVg_turn _ _ _ hw4, ?_⟩
      walk_at "rd"
      rw [tI_flip]
      refine ⟨wa, _, rfl, wVp_turn _ _ _ (!x.turn) hw4, ?_⟩
      exact fin H4 _ _ k4 hw4 hs4 (by rw [move_three hg]) (fun z m t w y h => by rw [move_three hg] at h; rw [show gs[s0.num]? = _ from hg] at h; cases h)
    | five z m t ww y =>
      obtain rfl : z = "main" := hgn
      have hkm : k x.turn = s0.made := hmk _ _ _ _ _ hg
      refine rd_ixT (v := .str "main") (SqT.of hq2) rfl ?_
      walk_at "rd"
      refine rd_ite (fun z => absurd z (show ¬ V.str "main" = V.str "over" by decide +kernel)) (fun _ => ?_)
      walk_at "rd"
      intro p2 hp2
      have kA := k2.new (o := .dK []) hp2
      have hsA := same_upd (o := .dK []) hp2 _ _ hs2
      have hwA := same_upd (o := .dK []) hp2 _ _ hw2
      have hnA := upd_same (H := H2) (a := p2) (o := .dK [])
      have hqA := same_upd (o := .dK []) hp2 _ _ hq2
      have np1 : p2 ≠ e x.turn := (ne_of_none hs2 hp2).symm
      have np2 : p2 ≠ wa := (ne_of_none hw2 hp2).symm
      have np3 : p2 ≠ q := (ne_of_none hq2 hp2).symm
      have kB0 : ∀ o, K2 wa (e x.turn) H (upd (upd H2 p2 (.dK [])) p2 o) := fun o b u hb n1 n2 => by
        rw [upd_ne (ne_of_none (k2 b u hb n1 n2) hp2)]; exact kA b u hb n1 n2
      generalize upd H2 p2 (.dK []) = HA at kA hsA hwA hnA hqA kB0
      walk_at "rd"
      refine rd_ixT (v := .int y) (SqT.of hqA) rfl ?_
      walk_at "rd"
      refine rd_ixT (v := .int y) (SqT.of hqA) rfl ?_
      walk_at "rd"
      refine ⟨e x.turn, _, rfl, sVg_used _ _ hsA, ?_⟩
      walk_at "rd"
      refine ⟨y, s0.passed, rfl, ?_⟩
      walk_at "rd"
      refine ⟨hnA, moreV y s0.passed, rfl, by show 2 ≤ 15; decide, ?_⟩
      rw [more_merge]
      have kB := kB0 (.dK (moreV y s0.passed))
      have hsB : (upd HA p2 (.dK (moreV y s0.passed))) (e x.turn) = some (.dK (sV { s0 with moves := s0.moves + 1 } (k x.turn + 1))) := by rw [upd_ne np1.symm]; exact hsA
      have hwB : (upd HA p2 (.dK (moreV y s0.passed))) wa = some (.dK (wV d sl x)) := by rw [upd_ne np2.symm]; exact hwA
      have hqB : (upd HA p2 (.dK (moreV y s0.passed))) q = some (.tup (Sg.five "main" m t ww y).vs) := by rw [upd_ne np3.symm]; exact hqA
      have hnB := upd_same (H := HA) (a := p2) (o := .dK (moreV y s0.passed))
      generalize upd HA p2 (.dK (moreV y s0.passed)) = HB at kB hsB hwB hqB hnB
      walk_at "rd"
      refine ⟨e x.turn, _, rfl, sVg_ticks _ _ hsB, ?_⟩
      walk_at "rd"
      refine ⟨p2, rfl, .inl ⟨_, .inl hnB⟩, ?_⟩
      walk_at "rd"
      refine rd_ixT (v := .str ww) (SqT.of hqB) rfl ?_
      walk_at "rd"
      refine ⟨_, DGet.k (k := .inr ww) hnB, ?_⟩
      rw [more_get "main" ww m t y s0.passed]
      walk_at "rd"
      refine ⟨e x.turn, _, rfl, sVp_ticks _ _ _ hsB, ?_⟩
      have k3 := kB.putq (o := .dK (sV { s0 with moves := s0.moves + 1, left := s0.left + extraT (.five "main" m t ww y) s0.passed } (k x.turn + 1)))
      have hs3 := upd_same (H := HB) (a := e x.turn) (o := .dK (sV { s0 with moves := s0.moves + 1, left := s0.left + extraT (.five "main" m t ww y) s0.passed } (k x.turn + 1)))
      have hw3 : (upd HB (e x.turn) (.dK (sV { s0 with moves := s0.moves + 1, left := s0.left + extraT (.five "main" m t ww y) s0.passed } (k x.turn + 1)))) wa = some (.dK (wV d sl x)) := by rw [upd_ne hne.symm]; exact hwB
      generalize upd HB (e x.turn) (.dK (sV { s0 with moves := s0.moves + 1, left := s0.left + extraT (.five "main" m t ww y) s0.passed } (k x.turn + 1))) = H3 at k3 hs3 hw3
      walk_at "rd"
      refine ⟨e x.turn, _, rfl, sVp_used _ _ _ hs3, ?_⟩
      have k4 := k3.putq (o := .dK (sV { s0 with moves := s0.moves + 1, left := s0.left + extraT (.five "main" m t ww y) s0.passed, passed := 0 } (k x.turn + 1)))
      have hs4 := upd_same (H := H3) (a := e x.turn) (o := .dK (sV { s0 with moves := s0.moves + 1, left := s0.left + extraT (.five "main" m t ww y) s0.passed, passed := 0 } (k x.turn + 1)))
      have hw4 : (upd H3 (e x.turn) (.dK (sV { s0 with moves := s0.moves + 1, left := s0.left + extraT (.five "main" m t ww y) s0.passed, passed := 0 } (k x.turn + 1)))) wa = some (.dK (wV d sl x)) := by rw [upd_ne hne.symm]; exact hw3
      generalize upd H3 (e x.turn) (.dK (sV { s0 with moves := s0.moves + 1, left := s0.left + extraT (.five "main" m t ww y) s0.passed, passed := 0 } (k x.turn + 1))) = H4 at k4 hs4 hw4
      have hq4 := k4.tup W.w hds hq
      walk_at "rs"
      refine rd_joinIf (fun σ' H' => (∃ v3, σ' = [some (.ref wa), some (.ref (e x.turn)), some (.ref q), v3]) ∧ ∃ s9 c9, K2 wa (e x.turn) H H' ∧ H' wa = some (.dK (wV d sl x)) ∧ H' (e x.turn) = some (.dK (sV s9 c9)) ∧ sV s9 c9 = sV (moveS gs s0) c9 ∧ Mk gs (moveS gs s0) c9) ?_ ?_
      · rintro σ' H5 ⟨⟨v3, rfl⟩, s9, c9, k9, hw9, hs9, e9, hm9⟩
        walk_at "rd"
        refine ⟨wa, _, rfl, wVg_turn _ _ _ hw9, ?_⟩
        walk_at "rd"
        rw [tI_flip]
        refine ⟨wa, _, rfl, wVp_turn _ _ _ (!x.turn) hw9, ?_⟩
        exact fin H5 s9 c9 k9 hw9 hs9 e9 hm9
      · intro nx hnx
        walk_at "rd"
        refine rd_ixT (v := .str "main") (SqT.of hq4) rfl ?_
        walk_at "rd"
        refine rd_ite (fun _ => ?_) (fun z => absurd rfl z)
        walk_at "rd"
        refine ⟨e x.turn, _, rfl, sVg_made _ _ hs4, ?_⟩
        walk_at "rd"
        refine rd_ixT (v := optV m) (SqT.of hq4) rfl ?_
        refine rd_eq (by cases m <;> rfl) ?_
        walk_at "rd"
        refine rd_ite (fun he => ?_) (fun he => ?_)
        · have he' : V.int (s0.made + 1) = optV m := by rw [← hkm]; exact he
          have hlt : s0.num + 1 < gs.length := by
            cases m with
            | none => cases he'
            | some mm => exact next_there hoo hg hgood
          have hg' := List.getElem?_eq_getElem hlt
          have hn' := hnat _ (List.mem_of_getElem? hg')
          have em : moveS gs s0 = { beginS gs[s0.num + 1] (s0.num + 1) { s0 with moves := s0.moves + 1, left := s0.left + extraT (.five "main" m t ww y) s0.passed, made := s0.made + 1 } with passed := 0 } := by
            rw [move_five hg]
            unfold countS
            rw [if_pos (show V.int (s0.made + 1) = (Sg.five "main" m t ww y).one from he')]
            unfold beginAt
            simp only
            rw [hg']
          generalize gs[s0.num + 1] = g' at hg' hn' em
          walk_at "rd"
          refine ⟨wa, e x.turn, d, sl, ps, gs, x, { s0 with moves := s0.moves + 1, left := s0.left + extraT (.five "main" m t ww y) s0.passed, passed := 0 }, k x.turn + 1, g', rfl, hne.symm, hw4, k4.lst W.w hds W.st, k4.st W.w hds W.sa, hs4, hg', hn', fun H5 ke hs5 => ?_⟩
          walk_at "rd"
          refine hnx _ _ ⟨⟨_, rfl⟩, _, 0, k4.ke ke, ke _ _ hw4 hne.symm, hs5, ?_, fun z m t w y h => ?_⟩
          · rw [em]; cases g' <;> rfl
          · rw [em]; cases g' <;> rfl
        · have he' : ¬ V.int (s0.made + 1) = optV m := by rw [← hkm]; exact he
          have em : moveS gs s0 = { s0 with moves := s0.moves + 1, left := s0.left + extraT (.five "main" m t ww y) s0.passed, made := s0.made + 1, passed := 0 } := by
            rw [move_five hg]
            unfold countS
            rw [if_neg (show ¬ V.int (s0.made + 1) = (Sg.five "main" m t ww y).one from he')]
          walk_at "rd"
          refine hnx _ _ ⟨⟨_, rfl⟩, _, _, k4, hw4, hs4, ?_, fun z m t w y h => ?_⟩
          · rw [em]; rfl
          · rw [em, hkm]
def K3 (p : Addr) (e : Bool → Addr) (H H' : Hp) : Prop := ∀ b o, H b = some o → b ≠ p → (∀ c, b ≠ e c) → H' b = some o
theorem K3.refl {p : Addr} {e : Bool → Addr} {H : Hp} : K3 p e H H := fun _ _ h _ _ => h
theorem K2.k3 {p : Addr} {e : Bool → Addr} {c : Bool} {H H' : Hp} (k : K2 p (e c) H H') : K3 p e H H' := fun b o h n m => k b o h n (m c)
theorem K3.trans {p : Addr} {e : Bool → Addr} {H H' H'' : Hp} (k : K3 p e H H') (z : K3 p e H' H'') : K3 p e H H'' := fun b o h n m => z b o (k b o h n m) n m
theorem K3.of {p : Addr} {e : Bool → Addr} {H H' : Hp} (s : Same H H') : K3 p e H H' := fun b o h _ _ => s b o h
theorem goX_runs {gs : List Sg} {n : Nat} {x : Cs} (h : x.runs = true) (hf : x.fallen = none) : ((goX gs n x).fallen = none ↔ ¬ (runT gs n (x.sd x.turn)).2.left = 0) ∧ ((goX gs n x).fallen = none → (goX gs n x).runs = true) := by
  unfold goX
  split
  · rename_i hz
    exact ⟨⟨fun z => (by cases z), fun z => absurd hz z⟩, fun z => (by cases z)⟩
  · rename_i hz
    exact ⟨⟨fun _ => hz, fun _ => hf⟩, fun _ => h⟩
theorem goX_sd {gs : List Sg} {n : Nat} {x : Cs} : (goX gs n x).sd x.turn = (runT gs n (x.sd x.turn)).2 := by unfold goX; split <;> exact setS_same
theorem run_one {gs : List Sg} {s : Sd} (h : ¬ s.left = 0) (hn : s.num < gs.length) : (runT gs 1 s).1 = 1 := by
  rw [show (1 : Nat) = 0 + 1 from rfl, run_succ gs 0 s _ h (List.getElem?_eq_getElem hn), run_zero]
def okE : Dd → Prop
  | .go n => n ≤ 100
  | _ => True
def spDue : Sp := fun vs H Q _ => ∃ wa d sl e ps gs x k dd, vs = [.ref wa, .str (Dd.word dd), .int (Dd.num dd)] ∧ Wd H wa d sl e ps gs x k ∧ (∀ g ∈ gs, natG g) ∧ eachOk gs ∧ orderOk gs ∧ (∀ b, WF gs (x.sd b)) ∧ Live x ∧ okE dd ∧
  ∀ H' k', Wd H' wa d sl e ps gs (resX x (doD gs dd x)) k' → K3 wa e H H' → Q (resV (doD gs dd x)) H'
theorem ok_law_due (T : Txt K mg a) : Has P w K mg base CX0 3 "_law_due" ["_law_world", "_law_word", "_law_number"] spDue := by
  have G_law_tick := ok_law_tick (P := P) (w := w) (base := base) T
  have G_law_press := ok_law_press (P := P) (w := w) (base := base) T
  refine T.f_law_due.has fun f fd F => F.ok sc_law_due (fun vs H Q E h => ?_) (fun cdv A outer s H vs Q E hr h => ?_)
  · obtain ⟨wa, d, sl, e, ps, gs, x, k, dd, rfl, _⟩ := h; rfl
  · obtain ⟨wa, d, sl, e, ps, gs, x, k, dd, rfl, W, hnat, heo, hoo, hwf, hlv, hok, kk⟩ := h
    have hu := hu_of hr
    refine ⟨_, (pss_cons (ps_if (PW.pt (pw_and (pt_cmpR op_eq (pv 1) pe_str (nomark _)) (pw_and1 (pt_cmpR op_lt (pv 2) pe_int (nomark _))))) (pss_one (ps_ret pe_str)) pss_nil) (pss_cons (ps_if (pt_cmpR op_notN (pe_dget hu (pv 0) pe_str (fun _ _ => rfl)) pe_non (nomark _)) (pss_one (ps_ret pe_str)) pss_nil) (pss_cons (ps_if (pt_cmpR op_eq (pv 1) pe_str (nomark _)) (pss_cons (ps_set (i := 3) sc_law_due.nd rfl (Or.inl rfl) pe_int) (pss_cons (ps_while PassesOwn.never (PW.pt (pw_and (pt_cmpR op_lt (pv 3) (pv 2) (nomark _)) (pw_and (pt_cmpR op_isN (pe_dget hu (pv 0) pe_str (fun _ _ => rfl)) pe_non (nomark _)) (pw_and1 (pt_val (pe_dget hu (pv 0) pe_str (fun _ _ => rfl)) (fun _ => rfl)))))) (pss_cons (ps_expr (pe_callH G_law_tick hr (pa_c (pv 0) pa_nil ns_name) (he := star_cons ns_name) (hpl := star_any ns_nil))) (pss_one (ps_set (i := 3) sc_law_due.nd rfl (Or.inl rfl) (pe_op op_add (pv 3) pe_int))))) (pss_one (ps_ret (pe_ifExp (pt_cmpR op_notN (pe_dget hu (pv 0) pe_str (fun _ _ => rfl)) pe_non (nomark _)) (pv 3) (pv 2)))))) pss_nil) (pss_cons (ps_if (pt_cmpR op_eq (pv 1) pe_str (nomark _)) (pss_cons (ps_if (PW.pt (pw_or (pt_not (pt_val (pe_dget hu (pv 0) pe_str (fun _ _ => rfl)) (fun _ => rfl))) (pw_or1 (pt_cmpR op_ne (pv 2) (pe_dget hu (pv 0) pe_str (fun _ _ => rfl)) (nomark _))))) (pss_one (ps_ret pe_str)) pss_nil) (pss_one (ps_expr (pe_callH G_law_press hr (pa_c (pv 0) pa_nil ns_name) (he := star_cons ns_name) (hpl := star_any ns_nil))))) (pss_one (ps_if (pt_cmpR op_in_seq (pv 1) (pe_tup (pa_c pe_str (pa_c pe_str pa_nil ns_con) ns_con)) (by with_unfolding_all rfl)) (pss_cons (ps_if (pt_cmpR op_eq (pe_dget hu (pv 0) pe_str (fun _ _ => rfl)) (pe_cmpR op_eq (pv 1) pe_str (nomark _)) (nomark _)) (pss_one (ps_ret pe_str)) pss_nil) (pss_one (ps_dput hu (pv 0) pe_str (pe_cmpR op_eq (pv 1) pe_str (nomark _)) rfl))) (pss_cons (ps_set (i := 4) sc_law_due.nd rfl (Or.inl rfl) (pe_ix ix_list (pe_dget hu (pv 0) pe_str (fun _ _ => rfl)) (pe_callTy call_int_text (by rfl) T.n_int boot_int (pa_c (pe_ix ix_str (pv 1) (pe_un un_neg pe_int) (fun _ _ => rfl)) pa_nil ns_sub) (he := star_cons ns_sub) (hpl := star_any ns_nil)) (fun _ _ => rfl))) (pss_cons (ps_if (pt_val (pe_dget hu (pv 0) pe_str (fun _ _ => rfl)) (fun _ => rfl)) (pss_one (ps_ret pe_str)) pss_nil) (pss_cons (ps_if (pt_not (pt_chain op_le op_le pe_int (pe_op op_add (pe_dget hu (pv 4) pe_str (fun _ _ => rfl)) (pv 2)) pe_int)) (pss_one (ps_ret pe_str)) pss_nil) (pss_one (ps_dput hu (pv 4) pe_str (pe_op op_add (pe_dget hu (pv 4) pe_str (fun _ _ => rfl)) (pv 2)) rfl)))))))) (pss_one (ps_ret pe_non)))))), ?_⟩
    cases dd with
    | go n =>
      walk_at "rd"
      refine rd_ite (fun _ => ?_) (fun z => absurd rfl z)
      walk_at "rd"
      refine rd_ite (fun hn => ?_) (fun hn => ?_)
      · have hn' : n < 0 := hn
        have hd : doD gs (.go n) x = .error .ticks := by show doGo n gs x = _; unfold doGo; rw [if_pos hn']
        rw [hd] at kk
        walk_at "rd"
        exact kk H k W K3.refl
      · have hn' : ¬ n < 0 := hn
        walk_at "rd"
        refine ⟨wa, _, rfl, wVg_fallen _ _ _ W.w, ?_⟩
        walk_at "rd"
        cases hf : x.fallen with
        | some b =>
          have hd : doD gs (.go n) x = .error .over := by show doGo n gs x = _; unfold doGo; rw [if_neg hn', hf]; rfl
          rw [hd] at kk
          refine rd_iteN (fun _ => ?_) (fun z => by cases z)
          walk_at "rd"
          exact kk H k W K3.refl
        | none =>
          refine rd_iteN (fun z => absurd rfl z) (fun _ => ?_)
          obtain ⟨N, rfl⟩ : ∃ N : Nat, n = N := ⟨n.toNat, by omega⟩
          have hd : doD gs (.go N) x = .ok (.int (goN gs N x), goS gs N x) := doGo_none hf
          rw [hd] at kk
          walk_at "rd"
          refine rd_ite (fun _ => ?_) (fun z => absurd rfl z)
          walk_at "rd"
          by_cases hrun : x.runs = true
          · have eN : goN gs N x = (runT gs N (x.sd x.turn)).1 := by unfold goN; rw [if_pos hrun]
            have eS : goS gs N x = goX gs N x := by unfold goS; rw [if_pos hrun]
            have kk : ∀ H' k', Wd H' wa d sl e ps gs (goX gs N x) k' → K3 wa e H H' → Q (.int (runT gs N (x.sd x.turn)).1) H' := fun H' k' w' z => by
              have := kk H' k' (by show Wd H' wa d sl e ps gs (goS gs N x) k'; rw [eS]; exact w') z
              rw [eN] at this; exact this
            refine ⟨fun m σ H1 => ∃ (j : Nat) (kj : Bool → Int), m = N - j ∧ j ≤ N ∧ σ = [some (.ref wa), some (.str (Dd.go N).word), some (.int (Dd.go N).num), some (.int j), none] ∧ Wd H1 wa d sl e ps gs (goX gs j x) kj ∧ K3 wa e H H1 ∧ (runT gs j (x.sd x.turn)).1 = j,
              ⟨N, 0, k, rfl, Nat.zero_le _, rfl, by rw [goX_zero (hlv hf x.turn)]; exact W, K3.refl, rfl⟩, ?_⟩
            rintro m σ H1 ⟨j, kj, rfl, hjN, rfl, Wj, zj, hrj⟩
            have hgr := goX_runs (gs := gs) (n := j) hrun hf
            have hwj := goX_wf heo (n := j) hwf
            have hlj := goX_live heo (n := j) hlv hwf
            walk_at "rd"
            refine rd_ite (fun hlt => ?_) (fun hlt => ?_)
            · have hlt' : j < N := by have : (j : Int) < (N : Int) := hlt; omega
              walk_at "rd"
              refine ⟨wa, _, rfl, wVg_fallen _ _ _ Wj.w, ?_⟩
              walk_at "rd"
              cases hfj : (goX gs j x).fallen with
              | none =>
                have hnz := hgr.1.mp hfj
                refine rd_ite (fun _ => ?_) (fun z => absurd rfl z)
                walk_at "rd"
                refine ⟨wa, _, rfl, wVg_runs _ _ _ Wj.w, ?_⟩
                rw [hgr.2 hfj]
                walk_at "rd"
                refine ⟨_, fun σ' H' hN => hN, ?_⟩
                walk_at "rd"
                refine ⟨wa, d, sl, e, ps, gs, goX gs j x, kj, rfl, Wj, hnat, heo, hwj _, hlj hfj _, fun H2 k2 W2 z2 => ?_⟩
                walk_at "rd"
                have ea : goX gs 1 (goX gs j x) = goX gs (j + 1) x := goX_add hnz
                rw [ea] at W2
                have hsj := goX_sd (gs := gs) (n := j) (x := x)
                have h1 : (runT gs 1 (runT gs j (x.sd x.turn)).2).1 = 1 := run_one hnz (by rw [← hsj]; exact (hwj x.turn).num)
                refine ⟨N - (j + 1), by omega, j + 1, k2, rfl, by omega, rfl, W2, zj.trans z2.k3, ?_⟩
                rw [run_add, h1, hrj]
              | some b =>
                refine rd_ite (fun z => by cases z) (fun _ => ?_)
                walk_at "rd"
                refine ⟨wa, _, rfl, wVg_fallen _ _ _ Wj.w, ?_⟩
                rw [hfj]
                walk_at "rd"
                refine rd_iteN (fun _ => ?_) (fun z => by cases z)
                walk_at "rd"
                have hz : (runT gs j (x.sd x.turn)).2.left = 0 := by
                  cases q : decide ((runT gs j (x.sd x.turn)).2.left = 0) with
                  | true => exact of_decide_eq_true q
                  | false => rw [hgr.1.mpr (of_decide_eq_false q)] at hfj; cases hfj
                have e2 : runT gs N (x.sd x.turn) = ((runT gs j (x.sd x.turn)).1, (runT gs j (x.sd x.turn)).2) := by
                  rw [show N = j + (N - j) by omega, run_add, run_left0 _ _ _ hz]; simp
                have e3 : goX gs N x = goX gs j x := by unfold goX; rw [e2]
                have := kk H1 kj (by rw [e3]; exact Wj) zj
                rw [e2] at this
                rw [show (runT gs j (x.sd x.turn)).1 = j from hrj] at this
                exact this
            · have hjN' : j = N := by have : ¬ (j : Int) < (N : Int) := hlt; omega
              subst hjN'
              walk_at "rd"
              refine ⟨wa, _, rfl, wVg_fallen _ _ _ Wj.w, ?_⟩
              walk_at "rd"
              have := kk H1 kj Wj zj
              rw [hrj] at this
              refine rd_iteB (fun _ => ?_) (fun _ => ?_)
              · walk_at "rd"; exact this
              · walk_at "rd"; exact this
          · have hr2 : x.runs = false := by cases q : x.runs with | true => exact absurd q hrun | false => rfl
            have eN : goN gs N x = (N : Int) := by unfold goN; rw [if_neg hrun]
            have eS : goS gs N x = x := by unfold goS; rw [if_neg hrun]
            have := kk H k (by show Wd H wa d sl e ps gs (goS gs N x) k; rw [eS]; exact W) K3.refl
            rw [eN] at this
            refine ⟨fun m σ H1 => σ = [some (.ref wa), some (.str (Dd.go N).word), some (.int (Dd.go N).num), some (.int 0), none] ∧ H1 = H, ⟨0, rfl, rfl⟩, ?_⟩
            rintro m σ H1 ⟨rfl, rfl⟩
            walk_at "rd"
            refine rd_ite (fun _ => ?_) (fun _ => ?_)
            · walk_at "rd"
              refine ⟨wa, _, rfl, wVg_fallen _ _ _ W.w, ?_⟩
              rw [hf]
              walk_at "rd"
              refine rd_ite (fun _ => ?_) (fun z => absurd rfl z)
              walk_at "rd"
              refine ⟨wa, _, rfl, wVg_runs _ _ _ W.w, ?_⟩
              rw [hr2]
              walk_at "rd"
              refine ⟨wa, _, rfl, wVg_fallen _ _ _ W.w, ?_⟩
              rw [hf]
              walk_at "rd"
              refine rd_iteN (fun z => absurd rfl z) (fun _ => ?_)
              walk_at "rd"
              exact this
            · walk_at "rd"
              refine ⟨wa, _, rfl, wVg_fallen _ _ _ W.w, ?_⟩
              rw [hf]
              walk_at "rd"
              refine rd_iteN (fun z => absurd rfl z) (fun _ => ?_)
              walk_at "rd"
              exact this
    | press b =>
      walk_at "rd"
      refine rd_ite (fun z => absurd z (show ¬ V.str "press" = V.str "go" by decide +kernel)) (fun _ => ?_)
      walk_at "rd"
      refine ⟨wa, _, rfl, wVg_fallen _ _ _ W.w, ?_⟩
      walk_at "rd"
      cases hf : x.fallen with
      | some c =>
        have hd : doD gs (.press b) x = .error .over := by show doPress b gs x = _; unfold doPress; rw [hf]; rfl
        rw [hd] at kk
        refine rd_iteN (fun _ => ?_) (fun z => by cases z)
        walk_at "rd"
        exact kk H k W K3.refl
      | none =>
        refine rd_iteN (fun z => absurd rfl z) (fun _ => ?_)
        walk_at "rd"
        refine rd_ite (fun z => absurd z (show ¬ V.str "press" = V.str "go" by decide +kernel)) (fun _ => ?_)
        walk_at "rd"
        refine rd_ite (fun _ => ?_) (fun z => absurd rfl z)
        walk_at "rd"
        refine ⟨wa, _, rfl, wVg_runs _ _ _ W.w, ?_⟩
        walk_at "rd"
        cases hrun : x.runs with
        | false =>
          have hd : doD gs (.press b) x = .error .now := by show doPress b gs x = _; unfold doPress; rw [hf, hrun]; rfl
          rw [hd] at kk
          walk_at "rd"
          exact kk H k W K3.refl
        | true =>
          walk_at "rd"
          refine ⟨wa, _, rfl, wVg_turn _ _ _ W.w, ?_⟩
          walk_at "rd"
          refine rd_iteN (fun hb => ?_) (fun hb => ?_)
          · have hb' : ¬ b = x.turn := fun z => hb (by show V.int (tI b) = V.int (tI x.turn); rw [z])
            have hd : doD gs (.press b) x = .error .now := by show doPress b gs x = _; unfold doPress; rw [hf, hrun]; simp [hb']
            rw [hd] at kk
            walk_at "rd"
            exact kk H k W K3.refl
          · have hb' : b = x.turn := by
              have : tI b = tI x.turn := V.int.inj hb
              cases b <;> cases q : x.turn <;> rw [q] at this <;> first | rfl | cases this
            subst hb'
            have hd : doD gs (.press x.turn) x = .ok (.non, prX gs x) := by show doPress x.turn gs x = _; unfold doPress; rw [if_neg (by rw [hf]; intro z; cases z), if_pos hrun, if_pos rfl]; rfl
            rw [hd] at kk
            walk_at "rd"
            refine ⟨wa, d, sl, e, ps, gs, x, k, rfl, W, hnat, heo, hoo, hwf _, fun H2 k2 W2 z2 => ?_⟩
            walk_at "rd"
            exact kk H2 k2 W2 z2.k3
    | start =>
      walk_at "rd"
      refine rd_ite (fun z => absurd z (show ¬ V.str "start" = V.str "go" by decide +kernel)) (fun _ => ?_)
      walk_at "rd"
      refine ⟨wa, _, rfl, wVg_fallen _ _ _ W.w, ?_⟩
      walk_at "rd"
      cases hf : x.fallen with
      | some c =>
        have hd : doD gs .start x = .error .over := by show doStart x = _; unfold doStart; rw [hf]; rfl
        rw [hd] at kk
        refine rd_iteN (fun _ => ?_) (fun z => by cases z)
        walk_at "rd"
        exact kk H k W K3.refl
      | none =>
        refine rd_iteN (fun z => absurd rfl z) (fun _ => ?_)
        walk_at "rd"
        refine rd_ite (fun z => absurd z (show ¬ V.str "start" = V.str "go" by decide +kernel)) (fun _ => ?_)
        walk_at "rd"
        refine rd_ite (fun z => absurd z (show ¬ V.str "start" = V.str "press" by decide +kernel)) (fun _ => ?_)
        walk_at "rd"
        refine ⟨by show 2 ≤ sizeLine; decide, fun t ht => ?_⟩
        have W1 := W.same (same_upd (o := .tup [V.str "start", V.str "stop"]) ht)
        have s1 := same_upd (o := .tup [V.str "start", V.str "stop"]) ht
        have ht1 := upd_same (H := H) (a := t) (o := .tup [V.str "start", V.str "stop"])
        generalize upd H t (.tup [V.str "start", V.str "stop"]) = H1 at W1 s1 ht1
        refine ⟨t, [V.str "start", V.str "stop"], rfl, .inr (SqT.of ht1), rfl, rfl, ?_⟩
        rw [show (if false = true then !inV (V.str (Dd.word .start)) [V.str "start", V.str "stop"] else inV (V.str (Dd.word .start)) [V.str "start", V.str "stop"]) = true by show inV (V.str "start") [V.str "start", V.str "stop"] = true; decide +kernel]
        walk_at "rd"
        refine ⟨wa, _, rfl, wVg_runs _ _ _ W1.w, ?_⟩
        walk_at "rd"
        rw [show decide (V.str (Dd.word .start) = V.str "start") = true from decide_eq_true rfl]
        cases hrun : x.runs with
        | true =>
          have hd : doD gs .start x = .error .now := by show doStart x = _; unfold doStart; rw [hf, hrun]; rfl
          rw [hd] at kk
          refine rd_ite (fun _ => ?_) (fun z => absurd rfl z)
          walk_at "rd"
          exact kk H1 k W1 (K3.of s1)
        | false =>
          have hd : doD gs .start x = .ok (.non, { x with runs := true }) := by show doStart x = _; unfold doStart; rw [hf, hrun]; rfl
          rw [hd] at kk
          refine rd_ite (fun z => by cases z) (fun _ => ?_)
          walk_at "rd"
          rw [show decide (V.str (Dd.word .start) = V.str "start") = true from decide_eq_true rfl]
          refine ⟨wa, _, rfl, wVp_runs _ _ _ true W1.w, ?_⟩
          walk_at "rd"
          have z : K2 wa (e true) H (upd H1 wa (.dK (wV d sl { x with runs := true }))) := fun b o h n m => by rw [upd_ne n]; exact s1 b o h
          refine kk _ _ (W.put (x' := { x with runs := true }) (b := true) (s := x.sd true) (c := k true) z upd_same (by rw [upd_ne (W.nw true)]; exact W1.di true) setS_self.symm (W.mm true)) z.k3
    | stop =>
      walk_at "rd"
      refine rd_ite (fun z => absurd z (show ¬ V.str "stop" = V.str "go" by decide +kernel)) (fun _ => ?_)
      walk_at "rd"
      refine ⟨wa, _, rfl, wVg_fallen _ _ _ W.w, ?_⟩
      walk_at "rd"
      cases hf : x.fallen with
      | some c =>
        have hd : doD gs .stop x = .error .over := by show doStop x = _; unfold doStop; rw [hf]; rfl
        rw [hd] at kk
        refine rd_iteN (fun _ => ?_) (fun z => by cases z)
        walk_at "rd"
        exact kk H k W K3.refl
      | none =>
        refine rd_iteN (fun z => absurd rfl z) (fun _ => ?_)
        walk_at "rd"
        refine rd_ite (fun z => absurd z (show ¬ V.str "stop" = V.str "go" by decide +kernel)) (fun _ => ?_)
        walk_at "rd"
        refine rd_ite (fun z => absurd z (show ¬ V.str "stop" = V.str "press" by decide +kernel)) (fun _ => ?_)
        walk_at "rd"
        refine ⟨by show 2 ≤ sizeLine; decide, fun t ht => ?_⟩
        have W1 := W.same (same_upd (o := .tup [V.str "start", V.str "stop"]) ht)
        have s1 := same_upd (o := .tup [V.str "start", V.str "stop"]) ht
        have ht1 := upd_same (H := H) (a := t) (o := .tup [V.str "start", V.str "stop"])
        generalize upd H t (.tup [V.str "start", V.str "stop"]) = H1 at W1 s1 ht1
        refine ⟨t, [V.str "start", V.str "stop"], rfl, .inr (SqT.of ht1), rfl, rfl, ?_⟩
        rw [show (if false = true then !inV (V.str (Dd.word .stop)) [V.str "start", V.str "stop"] else inV (V.str (Dd.word .stop)) [V.str "start", V.str "stop"]) = true by show inV (V.str "stop") [V.str "start", V.str "stop"] = true; decide +kernel]
        walk_at "rd"
        refine ⟨wa, _, rfl, wVg_runs _ _ _ W1.w, ?_⟩
        walk_at "rd"
        rw [show decide (V.str (Dd.word .stop) = V.str "start") = false by show decide (V.str "stop" = V.str "start") = false; decide +kernel]
        cases hrun : x.runs with
        | false =>
          have hd : doD gs .stop x = .error .now := by show doStop x = _; unfold doStop; rw [hf, hrun]; rfl
          rw [hd] at kk
          refine rd_ite (fun _ => ?_) (fun z => absurd rfl z)
          walk_at "rd"
          exact kk H1 k W1 (K3.of s1)
        | true =>
          have hd : doD gs .stop x = .ok (.non, { x with runs := false }) := by show doStop x = _; unfold doStop; rw [hf, hrun]; rfl
          rw [hd] at kk
          refine rd_ite (fun z => by cases z) (fun _ => ?_)
          walk_at "rd"
          rw [show decide (V.str (Dd.word .stop) = V.str "start") = false by show decide (V.str "stop" = V.str "start") = false; decide +kernel]
          refine ⟨wa, _, rfl, wVp_runs _ _ _ false W1.w, ?_⟩
          walk_at "rd"
          have z : K2 wa (e true) H (upd H1 wa (.dK (wV d sl { x with runs := false }))) := fun b o h n m => by rw [upd_ne n]; exact s1 b o h
          refine kk _ _ (W.put (x' := { x with runs := false }) (b := true) (s := x.sd true) (c := k true) z upd_same (by rw [upd_ne (W.nw true)]; exact W1.di true) setS_self.symm (W.mm true)) z.k3
    | give b n =>
      have hz : 1000 ≤ sizeLine := by decide
      have hl5 := give_len b n
      walk_at "rd"
      refine rd_ite (fun z => absurd z (give_ne (by decide +kernel) (by decide +kernel))) (fun _ => ?_)
      walk_at "rd"
      refine ⟨wa, _, rfl, wVg_fallen _ _ _ W.w, ?_⟩
      walk_at "rd"
      cases hf : x.fallen with
      | some c =>
        have hd : doD gs (.give b n) x = .error .over := by show doGive b n x = _; unfold doGive; rw [hf]; rfl
        rw [hd] at kk
        refine rd_iteN (fun _ => ?_) (fun z => by cases z)
        walk_at "rd"
        exact kk H k W K3.refl
      | none =>
        refine rd_iteN (fun z => absurd rfl z) (fun _ => ?_)
        walk_at "rd"
        refine rd_ite (fun z => absurd z (give_ne (by decide +kernel) (by decide +kernel))) (fun _ => ?_)
        walk_at "rd"
        refine rd_ite (fun z => absurd z (give_ne (by decide +kernel) (by decide +kernel))) (fun _ => ?_)
        walk_at "rd"
        refine ⟨by show 2 ≤ sizeLine; decide, fun t ht => ?_⟩
        have W1 := W.same (same_upd (o := .tup [V.str "start", V.str "stop"]) ht)
        have s1 := same_upd (o := .tup [V.str "start", V.str "stop"]) ht
        have ht1 := upd_same (H := H) (a := t) (o := .tup [V.str "start", V.str "stop"])
        generalize upd H t (.tup [V.str "start", V.str "stop"]) = H1 at W1 s1 ht1
        refine ⟨t, [V.str "start", V.str "stop"], rfl, .inr (SqT.of ht1), rfl, rfl, ?_⟩
        rw [show (if false = true then !inV (V.str (Dd.word (.give b n))) [V.str "start", V.str "stop"] else inV (V.str (Dd.word (.give b n))) [V.str "start", V.str "stop"]) = false by
          cases b
          · show inV (V.str "give0") [V.str "start", V.str "stop"] = false; decide +kernel
          · show inV (V.str "give1") [V.str "start", V.str "stop"] = false; decide +kernel]
        walk_at "rd"
        refine ⟨wa, _, rfl, wVg_sides _ _ _ W1.w, ?_⟩
        walk_at "rd"
        refine ⟨_, _, _, rfl, rfl, by omega, give_at b n, ?_⟩
        walk_at "rd"
        refine ⟨_, _, rfl, give_int b, by show 1 ≤ 640; decide, ?_⟩
        refine rd_ixL (SqL.of W1.sl) (W1.at b) ?_
        walk_at "rd"
        refine ⟨wa, _, rfl, wVg_runs _ _ _ W1.w, ?_⟩
        walk_at "rd"
        cases hrun : x.runs with
        | true =>
          have hd : doD gs (.give b n) x = .error .now := by show doGive b n x = _; unfold doGive; rw [hf, hrun]; rfl
          rw [hd] at kk
          walk_at "rd"
          exact kk H1 k W1 (K3.of s1)
        | false =>
          walk_at "rd"
          refine ⟨e b, _, rfl, sVg_ticks _ _ (W1.di b), ?_⟩
          walk_at "rd"
          refine rd_ite (fun h1 => ?_) (fun h1 => ?_)
          · walk_at "rd"
            by_cases h2 : (x.sd b).left + n ≤ 10000000
            · have hd : doD gs (.give b n) x = .ok (.non, { x with sd := setS x.sd b { x.sd b with left := (x.sd b).left + n } }) := by
                show doGive b n x = _
                unfold doGive
                rw [hf, hrun, if_neg (by intro z; cases z), if_neg (by intro z; cases z), if_pos ⟨h1, h2⟩]
              rw [hd] at kk
              refine rd_iteN (fun z => absurd h2 z) (fun _ => ?_)
              walk_at "rd"
              refine ⟨e b, _, rfl, sVg_ticks _ _ (W1.di b), ?_⟩
              walk_at "rd"
              refine ⟨e b, _, rfl, sVp_ticks _ _ _ (W1.di b), ?_⟩
              walk_at "rd"
              have z : K2 wa (e b) H (upd H1 (e b) (.dK (sV { x.sd b with left := (x.sd b).left + n } (k b)))) := fun c o h n m => by rw [upd_ne m]; exact s1 c o h
              exact kk _ _ (W.put z (by rw [upd_ne (W.nw b).symm]; exact W1.w) upd_same rfl (fun z m t w y h => W.mm b z m t w y h)) z.k3
            · have hd : doD gs (.give b n) x = .error .ticks := by
                show doGive b n x = _
                unfold doGive
                rw [hf, hrun, if_neg (by intro z; cases z), if_neg (by intro z; cases z), if_neg (fun z => h2 z.2)]
              rw [hd] at kk
              refine rd_iteN (fun _ => ?_) (fun z => absurd z h2)
              walk_at "rd"
              exact kk H1 k W1 (K3.of s1)
          · have hd : doD gs (.give b n) x = .error .ticks := by
              show doGive b n x = _
              unfold doGive
              rw [hf, hrun, if_neg (by intro z; cases z), if_neg (by intro z; cases z), if_neg (fun z => h1 z.1)]
            rw [hd] at kk
            walk_at "rd"
            exact kk H1 k W1 (K3.of s1)
theorem emod_nat {i : Int} {n : Nat} (h : 0 < n) : ∃ j : Nat, i % (n : Int) = (j : Int) ∧ j < n := by
  have h1 := Int.emod_nonneg i (show (n : Int) ≠ 0 by omega)
  have h2 := Int.emod_lt_of_pos i (show (0 : Int) < (n : Int) by omega)
  exact ⟨(i % (n : Int)).toNat, by omega, by omega⟩
def own (c : Ck) (b : Addr) : Prop := b = c.p ∨ b = c.s0 ∨ b = c.s1
theorem Kp.at' {c : Ck} {H H' : Hp} (k : Kp c H H') {b : Addr} {o : HO} (h : H b = some o) (n : ¬ own c b) : H' b = some o := k b o h (fun e => n (.inl e)) (fun e => n (.inr (.inl e))) (fun e => n (.inr (.inr e)))
theorem own_ins {H : Hp} {c : Ck} {x : Cs} (h : CkAt a H c x) {b : Addr} (o : own c b) : ∃ C dx fs, H b = some (.ins C dx fs) := by
  rcases o with rfl | rfl | rfl
  · exact ⟨_, _, _, h.ck⟩
  · exact ⟨_, _, _, h.sd false⟩
  · exact ⟨_, _, _, h.sd true⟩
theorem Kp.tup {H H' : Hp} {c : Ck} {x : Cs} (h : CkAt a H c x) (k : Kp c H H') {b : Addr} {xs : List V} (e : H b = some (.tup xs)) : H' b = some (.tup xs) :=
  k.at' e fun z => by obtain ⟨_, _, _, y⟩ := own_ins h z; rw [e] at y; cases y
theorem Kp.lst {H H' : Hp} {c : Ck} {x : Cs} (h : CkAt a H c x) (k : Kp c H H') {b : Addr} {xs : List V} (e : H b = some (.lst xs)) : H' b = some (.lst xs) :=
  k.at' e fun z => by obtain ⟨_, _, _, y⟩ := own_ins h z; rw [e] at y; cases y
theorem Kp.dd {H H' : Hp} {c : Ck} {x : Cs} (h : CkAt a H c x) (k : Kp c H H') {qs : List Addr} {ds : List Dd} (e : DdAt H qs ds) : DdAt H' qs ds := ⟨e.len, fun i q d h1 h2 => k.tup h (e.at_ i q d h1 h2)⟩
def cs0 (g : Sg) : Cs := ⟨false, false, none, 0, fun _ => beginS g 0 sd0⟩
theorem ck0 {H : Hp} {p dx t tp s0 s1 d0 d1 : Addr} {ps : List Addr} {gs : List Sg} {g : Sg} (hok : progOk gs) (hg : gs[0]? = some g) (hp : H p = some (.ins a.cClock dx (clockF tp 0 false .non 0))) (htp : H tp = some (.tup [.ref s0, .ref s1])) (ht : H t = some (.tup (refs ps)))
    (h0 : H s0 = some (.ins a.cSide d0 (sideF t (beginS g 0 sd0)))) (h1 : H s1 = some (.ins a.cSide d1 (sideF t (beginS g 0 sd0)))) (ne : s0 ≠ s1) (n0 : s0 ≠ p) (n1 : s1 ≠ p) (st : StAt H ps gs) : CkAt a H ⟨p, dx, tp, s0, d0, s1, d1, t, ps, gs⟩ (cs0 g) where
  ck := hp
  tp := htp
  sd := fun b => match b with | false => h0 | true => h1
  tt := ht
  st := st
  ne := ne
  np := fun b => match b with | false => n0 | true => n1
  ok := hok
  wf := fun _ => (begin_wf hok.2.2.1 hg (Int.le_refl 0) (Int.le_refl 0)).1
theorem mkClock {H : Hp} {h1 : Addr} {ps : List Addr} {gs : List Sg} {g : Sg} (hh : H h1 = some (.lst (refs ps))) (hst : StAt H ps gs) (ok : progOk gs) (hg : gs[0]? = some g) {x dx : Addr} (nx : H x = none) (nd : H dx = none) {Q : VK} {E : XK}
    (q : ∀ (c : Ck) H', Same H H' → CkAt a H' c (cs0 g) → c.gs = gs → (∀ b, own c b → H b = none) → c.p = x → Q .non H') : spClockInit a [.ref x, .ref h1] (upd (upd H dx (.own x)) x (.ins a.cClock dx [])) Q E := by
  have smA : Same H (upd (upd H dx (.own x)) x (.ins a.cClock dx [])) := fun b o e => by rw [upd_ne (ne_of_none e nx), upd_ne (ne_of_none e nd)]; exact e
  have hx := upd_same (H := upd H dx (.own x)) (a := x) (o := .ins a.cClock dx [])
  generalize upd (upd H dx (.own x)) x (.ins a.cClock dx []) = HA at smA hx
  have back : ∀ {b}, HA b = none → H b = none := fun {b} e => by
    cases z : H b with
    | none => rfl
    | some o => rw [smA _ _ z] at e; cases e
  refine ⟨x, dx, h1, ps, gs, rfl, hx, smA _ _ hh, hst.same smA, fun _ H' t tp s0 s1 d0 d1 g' hg' _ kp hp' htp ht h0 h1' ne n0 n1 _ _ => ?_, fun z => absurd ok z⟩
  have eg : g = g' := Option.some.inj (hg.symm.trans hg')
  subst eg
  have sm : Same H H' := fun b o e => kp b o (smA _ _ e) (ne_of_none e nx)
  refine q ⟨x, dx, tp, s0, d0, s1, d1, t, ps, gs⟩ H' sm (ck0 ok hg hp' htp ht h0 h1' ne (ne_of_none hx n0).symm (ne_of_none hx n1).symm (hst.same sm)) rfl (fun b o => ?_) rfl
  rcases o with rfl | rfl | rfl
  · exact nx
  · exact back n0
  · exact back n1
theorem res_kind {gs : List Sg} {d : Dd} {x : Cs} : (∃ i, resV (doD gs d x) = .int i) ∨ resV (doD gs d x) = .non ∨ ∃ z, resV (doD gs d x) = .str z := by
  cases d with
  | go n =>
    show (∃ i, resV (doGo n gs x) = .int i) ∨ resV (doGo n gs x) = .non ∨ ∃ z, resV (doGo n gs x) = .str z
    unfold doGo
    repeat' split
    all_goals first | exact .inl ⟨_, rfl⟩ | exact .inr (.inr ⟨_, rfl⟩)
  | press b =>
    show (∃ i, resV (doPress b gs x) = .int i) ∨ resV (doPress b gs x) = .non ∨ ∃ z, resV (doPress b gs x) = .str z
    unfold doPress
    repeat' split
    all_goals first | exact .inr (.inl rfl) | exact .inr (.inr ⟨_, rfl⟩)
  | start =>
    show (∃ i, resV (doStart x) = .int i) ∨ resV (doStart x) = .non ∨ ∃ z, resV (doStart x) = .str z
    unfold doStart
    repeat' split
    all_goals first | exact .inr (.inl rfl) | exact .inr (.inr ⟨_, rfl⟩)
  | stop =>
    show (∃ i, resV (doStop x) = .int i) ∨ resV (doStop x) = .non ∨ ∃ z, resV (doStop x) = .str z
    unfold doStop
    repeat' split
    all_goals first | exact .inr (.inl rfl) | exact .inr (.inr ⟨_, rfl⟩)
  | give b n =>
    show (∃ i, resV (doGive b n x) = .int i) ∨ resV (doGive b n x) = .non ∨ ∃ z, resV (doGive b n x) = .str z
    unfold doGive
    repeat' split
    all_goals first | exact .inr (.inl rfl) | exact .inr (.inr ⟨_, rfl⟩)
def spLaw (K : PySem.W.Frag) : Sp := fun vs H Q _ => ∃ (a : Addr) (ns : List Int), vs = [.ref a] ∧ SqL K H a (ns.map V.int) ∧ ns.length ≤ 63 ∧ ∀ H', Q (.bl true) H'
theorem sV_nd (s : Sd) (k : Int) : mergeK [] (sV s k) = sV s k := merge_app _ [] (inr_nd (l := ["at", "ticks", "periods", "moved", "made", "used"]) (by decide +kernel))
def w5 (d : Addr) : List (Key × V) := [(.inr "stages", .ref d), (.inr "turn", .int 0), (.inr "runs", .bl false), (.inr "fallen", .non), (.inr "total", .int 0)]
theorem w5_nd (d : Addr) : mergeK [] (w5 d) = w5 d := merge_app _ [] (inr_nd (l := ["stages", "turn", "runs", "fallen", "total"]) (by decide +kernel))
theorem w5_put {H : Hp} {p d sl : Addr} {g : Sg} (h : H p = some (.dK (w5 d))) : DPut H p (.str "sides") (.ref sl) (upd H p (.dK (wV d sl (cs0 g)))) := by
  have z : putK (w5 d) (.inr "sides") (.ref sl) = wV d sl (cs0 g) := by
    rw [putK_new _ (valV_none (inr_nm (l := ["stages", "turn", "runs", "fallen", "total"]) (by decide +kernel)))]; rfl
  rw [← z]; exact DPut.k (k := .inr "sides") h (by show 5 < sizeLine; decide)
def spNew : Sp := fun vs H Q _ => ∃ d ps gs g, vs = [.ref d] ∧ H d = some (.lst (refs ps)) ∧ StAt H ps gs ∧ gs[0]? = some g ∧ natG g ∧
  ∀ H' wa sl e, Same H H' → H wa = none → (∀ b, H (e b) = none) → Wd H' wa d sl e ps gs (cs0 g) (fun _ => 0) → Q (.ref wa) H'
theorem mk0 {gs : List Sg} {g : Sg} : Mk gs (beginS g 0 sd0) 0 := fun z m t w y h => by cases g <;> rfl
theorem ok_law_new (T : Txt K mg a) : Has P w K mg base CX0 1 "_law_new" ["_law_stages_here"] spNew := by
  refine T.f_law_new.has fun f fd F => F.ok sc_law_new (fun vs H Q E h => ?_) (fun cdv A outer s H vs Q E hr h => ?_)
  · obtain ⟨d, ps, gs, g, rfl, _⟩ := h; rfl
  · obtain ⟨d, ps, gs, g, rfl, hd, hst, hg, hn, kk⟩ := h
    have hu := hu_of hr
    obtain ⟨q, hq1, hq⟩ := st_at hst hg
    refine ⟨_, (pss_cons (ps_set (i := 1) sc_law_new.nd rfl (Or.inl rfl) (pe_ix ix_list (pv 0) pe_int (fun _ _ => rfl))) (pss_cons (ps_set (i := 2) sc_law_new.nd rfl (Or.inl rfl) (pe_disp (pps_cons pe_str pe_int (pps_cons pe_str (pe_ix ix_tup (pv 1) pe_int (fun _ _ => rfl)) (pps_cons pe_str pe_int (pps_cons pe_str pe_int (pps_cons pe_str pe_int (pps_cons pe_str pe_int pps_nil)))))) rfl rfl (List.cons_ne_nil _ _) (Nat.le_of_ble_eq_true rfl))) (pss_cons (ps_if (pt_cmpR op_eq (pe_ix ix_tup (pv 1) pe_int (fun _ _ => rfl)) pe_str (nomark _)) (pss_one (ps_dput hu (pv 2) pe_str (pe_ix ix_tup (pv 1) pe_int (fun _ _ => rfl)) rfl)) pss_nil) (pss_cons (ps_set (i := 3) sc_law_new.nd rfl (Or.inl rfl) (pe_disp (pps_cons pe_str (pv 0) (pps_cons pe_str pe_int (pps_cons pe_str pe_bl (pps_cons pe_str pe_non (pps_cons pe_str pe_int pps_nil))))) rfl rfl (List.cons_ne_nil _ _) (Nat.le_of_ble_eq_true rfl))) (pss_cons (ps_dput hu (pv 3) pe_str (pe_lst (pa_c (pv 2) (pa_c (pe_dcopy (pv 2)) pa_nil ns_call) ns_name)) rfl) (pss_one (ps_ret (pv 3)))))))), ?_⟩
    walk_at "rd"
    refine rd_ixL (SqL.of hd) hq1 ?_
    walk_at "rd"
    intro p1 hp1
    have sA := same_upd (o := .dK []) hp1
    have hnA := upd_same (H := H) (a := p1) (o := .dK [])
    generalize upd H p1 (.dK []) = HA at sA hnA
    walk_at "rd"
    refine rd_ixT (SqT.of (sA _ _ hq)) (vs_t g) ?_
    walk_at "rd"
    refine ⟨hnA, sV { sd0 with left := g.t } 0, rfl, by show 6 ≤ 15; decide, ?_⟩
    rw [sV_nd]
    have s1 : Same H (upd HA p1 (.dK (sV { sd0 with left := g.t } 0))) := fun b o h => by rw [upd_ne (ne_of_none h hp1)]; exact sA b o h
    have h1 := upd_same (H := HA) (a := p1) (o := .dK (sV { sd0 with left := g.t } 0))
    generalize upd HA p1 (.dK (sV { sd0 with left := g.t } 0)) = H1 at s1 h1
    walk_at "rs"
    refine rd_joinIf (fun σ' H' => σ' = [some (.ref d), some (.ref q), some (.ref p1), none] ∧ Same H H' ∧ H' p1 = some (.dK (sV (beginS g 0 sd0) 0))) ?_ ?_
    · rintro σ' H2 ⟨rfl, s2, h2⟩
      walk_at "rd"
      intro p2 hp2
      have sB := same_upd (o := .dK []) hp2
      have hnB := upd_same (H := H2) (a := p2) (o := .dK [])
      generalize upd H2 p2 (.dK []) = HB at sB hnB
      walk_at "rd"
      refine ⟨hnB, w5 d, rfl, by show 5 ≤ 15; decide, ?_⟩
      rw [w5_nd]
      have s3 : Same H2 (upd HB p2 (.dK (w5 d))) := fun b o h => by rw [upd_ne (ne_of_none h hp2)]; exact sB b o h
      have h3 := upd_same (H := HB) (a := p2) (o := .dK (w5 d))
      generalize upd HB p2 (.dK (w5 d)) = H3 at s3 h3
      walk_at "rd"
      refine ⟨p1, _, rfl, s3 _ _ h2, fun p3 hp3 => ?_⟩
      have s4 := same_upd (o := .dK (sV (beginS g 0 sd0) 0)) hp3
      have h4 := upd_same (H := H3) (a := p3) (o := .dK (sV (beginS g 0 sd0) 0))
      generalize upd H3 p3 (.dK (sV (beginS g 0 sd0) 0)) = H4 at s4 h4
      walk_at "rd"
      refine ⟨by show 2 ≤ sizeLine; decide, fun p4 hp4 => ?_⟩
      have s5 := same_upd (o := .lst [V.ref p1, V.ref p3]) hp4
      have h5 := upd_same (H := H4) (a := p4) (o := .lst [V.ref p1, V.ref p3])
      generalize upd H4 p4 (.lst [V.ref p1, V.ref p3]) = H5 at s5 h5
      walk_at "rd"
      have h35 := s5 _ _ (s4 _ _ h3)
      refine ⟨p2, _, rfl, w5_put (g := g) h35, ?_⟩
      walk_at "rd"
      have n12 : p1 ≠ p2 := ne_of_none h2 hp2
      have n13 : p1 ≠ p3 := ne_of_none (s3 _ _ h2) hp3
      have n32 : p3 ≠ p2 := (ne_of_none h3 hp3).symm
      have back : ∀ {H' : Hp} {b : Addr}, Same H H' → H' b = none → H b = none := fun {H' b} s z => by
        cases y : H b with
        | none => rfl
        | some o => rw [s _ _ y] at z; cases z
      have s23 := s2.trans s3
      have s25 := (s3.trans s4).trans s5
      have sf : Same H (upd H5 p2 (.dK (wV d p4 (cs0 g)))) := fun b o h => by rw [upd_ne (ne_of_none (s2 _ _ h) hp2)]; exact s25 b o (s2 b o h)
      refine kk _ p2 p4 (fun b : Bool => if b = true then p3 else p1) sf (back s2 hp2) (fun b => ?_) ?_
      · cases b
        · exact hp1
        · exact back s23 hp3
      · refine ⟨upd_same, sf _ _ hd, hst.same sf, ?_, fun b => ?_, n13, fun b => ?_, fun b => mk0⟩
        · rw [upd_ne (ne_of h5 h35 (by intro z; cases z))]; exact h5
        · cases b
          · show (upd H5 p2 _) p1 = _
            rw [upd_ne n12]; exact s25 _ _ h2
          · show (upd H5 p2 _) p3 = _
            rw [upd_ne n32]; exact s5 _ _ h4
        · cases b
          · exact n12
          · exact n32
    · intro nx hnx
      walk_at "rd"
      cases g with
      | five z m t ww y =>
        obtain rfl : z = "main" := hn
        refine rd_ixT (v := .str "main") (SqT.of (s1 _ _ hq)) rfl ?_
        walk_at "rd"
        refine rd_ite (fun z => absurd z (show ¬ V.str "main" = V.str "over" by decide +kernel)) (fun _ => ?_)
        walk_at "rd"
        refine hnx _ _ ⟨rfl, s1, ?_⟩
        rw [h1, show beginS (Sg.five "main" m t ww y) 0 sd0 = { sd0 with num := 0, made := 0, left := 0 + t } from rfl, Int.zero_add]; rfl
      | three z p t =>
        obtain rfl : z = "over" := hn
        refine rd_ixT (v := .str "over") (SqT.of (s1 _ _ hq)) rfl ?_
        walk_at "rd"
        refine rd_ite (fun _ => ?_) (fun z => absurd rfl z)
        walk_at "rd"
        refine rd_ixT (v := .int p) (SqT.of (s1 _ _ hq)) rfl ?_
        walk_at "rd"
        refine ⟨p1, _, rfl, sVp_per _ _ _ h1, ?_⟩
        exact hnx _ _ ⟨rfl, same_out s1 hp1, upd_same⟩
def spStateL : Sp := fun vs H Q _ => ∃ wa d sl e ps gs x k, vs = [.ref wa] ∧ Wd H wa d sl e ps gs x k ∧ ∀ H' l q0 q1 q2, Same H H' → H' l = some (.lst [.ref q0, .ref q1, .ref q2]) → H' q0 = some (.tup (toldS (x.sd false))) → H' q1 = some (.tup (toldS (x.sd true))) → H' q2 = some (.tup (toldG x)) → Q (.ref l) H'
theorem ok_law_state (T : Txt K mg a) : Has P w K mg base CX0 1 "_law_state" ["_law_world"] spStateL := by
  refine T.f_law_state.has fun f fd F => F.ok sc_law_state (fun vs H Q E h => ?_) (fun cdv A outer s H vs Q E hr h => ?_)
  · obtain ⟨wa, d, sl, e, ps, gs, x, k, rfl, _⟩ := h; rfl
  · obtain ⟨wa, d, sl, e, ps, gs, x, k, rfl, W, kk⟩ := h
    have hu := hu_of hr
    refine ⟨_, (pss_cons (ps_set (i := 1) sc_law_state.nd rfl (Or.inl rfl) (pe_lst pa_nil)) (pss_cons (ps_for PassesOwn.never rfl (pi_list (pe_dget hu (pv 0) pe_str (fun _ _ => rfl))) (pg_name (i := 2) sc_law_state.nd rfl (Or.inl rfl)) (pss_one (ps_expr (pe_bm1 PySem.F.plainAttrs_list PySem.F.slot_list_append PySem.F.type_list_append mt_append (pv 1) (pa_c (pe_tup (pa_c (pe_dget hu (pv 2) pe_str (fun _ _ => rfl)) (pa_c (pe_dget hu (pv 2) pe_str (fun _ _ => rfl)) (pa_c (pe_dget hu (pv 2) pe_str (fun _ _ => rfl)) (pa_c (pe_dget hu (pv 2) pe_str (fun _ _ => rfl)) (pa_c (pe_dget hu (pv 2) pe_str (fun _ _ => rfl)) pa_nil ns_sub) ns_sub) ns_sub) ns_sub) ns_sub)) pa_nil ns_tup) ns_tup)))) (pss_one (ps_ret (pe_op op_cat (pv 1) (pe_lst (pa_c (pe_tup (pa_c (pe_dget hu (pv 0) pe_str (fun _ _ => rfl)) (pa_c (pe_dget hu (pv 0) pe_str (fun _ _ => rfl)) (pa_c (pe_dget hu (pv 0) pe_str (fun _ _ => rfl)) (pa_c (pe_dget hu (pv 0) pe_str (fun _ _ => rfl)) pa_nil ns_sub) ns_sub) ns_sub) ns_sub)) pa_nil ns_tup))))))), ?_⟩
    walk_at "rd"
    refine ⟨by show 0 ≤ sizeLine; decide, fun p hp => ?_⟩
    have s1 := same_upd (o := .lst (refs [])) hp
    have h1 := upd_same (H := H) (a := p) (o := .lst (refs []))
    rw [show (HO.lst [] : HO) = .lst (refs []) from rfl]
    generalize upd H p (.lst (refs [])) = H1 at s1 h1
    walk_at "rd"
    refine ⟨wa, _, rfl, wVg_sides _ _ _ (s1 _ _ W.w), ?_⟩
    refine ⟨sl, rfl, ⟨_, SqL.of (s1 _ _ W.sl)⟩, for_list (K := K) (a := sl) (xs := [.ref (e false), .ref (e true)]) (fun i σ H' => ∃ v2 qs, σ = [some (.ref wa), some (.ref p), v2] ∧ Same H H' ∧ H' p = some (.lst (refs qs)) ∧ qs.length = i ∧ ∀ (j : Nat) q, qs[j]? = some q → H' q = some (.tup (toldS (x.sd (decide (j = 1))))))
      ⟨_, [], rfl, s1, h1, rfl, fun j q h => by simp at h⟩ (fun i σ H' _ hpv => ?_) ?_ ?_⟩
    · obtain ⟨v2, qs, _, sm, _⟩ := hpv
      exact SqL.of (sm _ _ W.sl)
    · rintro i v σ H2 hv ⟨v2, qs, rfl, s2, h2, hl, hq⟩
      have hi : i < 2 := by have := (List.getElem?_eq_some_iff.mp hv).1; simpa using this
      obtain ⟨b, hb, rfl⟩ : ∃ b, b = decide (i = 1) ∧ v = .ref (e b) := by
        match i, hi, hv with
        | 0, _, hv => exact ⟨false, rfl, by simpa using hv.symm⟩
        | 1, _, hv => exact ⟨true, rfl, by simpa using hv.symm⟩
      have hd := s2 _ _ (W.di b)
      walk_at "rd"
      refine ⟨.inl ⟨rfl, _, SqL.of h2⟩, ?_⟩
      walk_at "rd"
      refine ⟨e b, _, rfl, sVg_ticks _ _ hd, ?_⟩
      walk_at "rd"
      refine ⟨e b, _, rfl, sVg_per _ _ hd, ?_⟩
      walk_at "rd"
      refine ⟨e b, _, rfl, sVg_moved _ _ hd, ?_⟩
      walk_at "rd"
      refine ⟨e b, _, rfl, sVg_at _ _ hd, ?_⟩
      walk_at "rd"
      refine ⟨e b, _, rfl, sVg_used _ _ hd, ?_⟩
      walk_at "rd"
      refine ⟨by show 5 ≤ sizeLine; decide, fun t ht => ?_⟩
      walk_at "rd"
      have hqs : qs.length ≤ 2 := by omega
      refine ⟨p, refs qs, _, rfl, rfl, by rw [upd_ne (ne_of_none h2 ht)]; exact h2, by rw [refs_len]; exact small1000 (by omega), ?_⟩
      rw [refs_snoc]
      refine ⟨_, qs ++ [t], rfl, same_out (s2.trans (same_upd ht)) hp, upd_same, by rw [List.length_append, hl]; rfl, fun j q' hj => ?_⟩
      have nt : t ≠ p := (ne_of_none h2 ht).symm
      by_cases hjl : j < qs.length
      · rw [List.getElem?_append_left hjl] at hj
        have hz := hq j q' hj
        rw [upd_ne (ne_of hz h2 (by intro z; cases z)), upd_ne (ne_of_none hz ht)]; exact hz
      · rw [List.getElem?_append_right (by omega)] at hj
        have hj1 : j - qs.length < 1 := by simpa using (List.getElem?_eq_some_iff.mp hj).1
        rw [show j - qs.length = 0 by omega] at hj
        simp at hj
        subst hj
        rw [upd_ne nt, show j = i by omega, ← hb]
        exact upd_same
    · rintro σ H2 ⟨v2, qs, rfl, s2, h2, hl, hq⟩
      obtain ⟨q0, q1, rfl⟩ : ∃ q0 q1, qs = [q0, q1] := by
        match qs, hl with
        | [q0, q1], _ => exact ⟨q0, q1, rfl⟩
      have hw := s2 _ _ W.w
      walk_at "rd"
      refine ⟨wa, _, rfl, wVg_turn _ _ _ hw, ?_⟩
      walk_at "rd"
      refine ⟨wa, _, rfl, wVg_runs _ _ _ hw, ?_⟩
      walk_at "rd"
      refine ⟨wa, _, rfl, wVg_fallen _ _ _ hw, ?_⟩
      walk_at "rd"
      refine ⟨wa, _, rfl, wVg_total _ _ _ hw, ?_⟩
      walk_at "rd"
      refine ⟨by show 4 ≤ sizeLine; decide, fun t ht => ?_⟩
      have s3 := same_upd (o := .tup (toldG x)) ht
      have h3 := upd_same (H := H2) (a := t) (o := .tup (toldG x))
      show tNil _ (upd H2 t (.tup (toldG x))) _
      generalize upd H2 t (.tup (toldG x)) = H3 at s3 h3
      walk_at "rd"
      refine ⟨by show 1 ≤ sizeLine; decide, fun r hr' => ?_⟩
      have s4 := same_upd (o := .lst [V.ref t]) hr'
      have h4 := upd_same (H := H3) (a := r) (o := .lst [V.ref t])
      generalize upd H3 r (.lst [V.ref t]) = H4 at s4 h4
      walk_at "rd"
      refine ⟨p, r, _, _, rfl, rfl, s4 _ _ (s3 _ _ h2), h4, by show 2 + 1 ≤ sizeLine; decide, fun l hl' => ?_⟩
      have s5 := same_upd (o := .lst [V.ref q0, V.ref q1, V.ref t]) hl'
      have s25 := (s3.trans s4).trans s5
      exact kk _ l q0 q1 t (s2.trans s25) upd_same (s25 _ _ (hq 0 q0 rfl)) (s25 _ _ (hq 1 q1 rfl)) (s5 _ _ (s4 _ _ h3))
theorem ns_lc {e : Expr} {g : List Comprehension} {sc : Scope} {p : Pos} : notStar (.ListComp e g sc p) = true := rfl
theorem rd_compR {j1 j2 : Nat} {wi : TI} {te : TE} {σ : L2.St} {H : Hp} {Q : VK} (h : wi σ H fun J H1 => ∃ (n : Nat) (v1 v2 : V), σ[j1]? = some (some v1) ∧ σ[j2]? = some (some v2) ∧ n ≤ 1000 ∧ (∀ i, i < n → J.go i H1) ∧ J.stop n H1 ∧
  (∀ i v H2, i < n → J.yld i H1 v H2 → H2 = H1 ∧ te [some v, some v1, some v2] H1 fun u H3 => H3 = H1 ∧ u = .bl true) ∧ ∀ d, H1 d = none → Q (.ref d) (upd H1 d (.lst ((List.replicate n true).map V.bl)))) : tCompR j1 j2 wi te σ H Q := h
def plainV (v : V) : Prop := (∃ i, v = .int i) ∨ (∃ b, v = .bl b) ∨ v = .non
theorem isb (T : Txt K mg a) {H : Hp} {v : V} (h : plainV v) : ∃ t b, TyOf K H v t ∧ PySem.W.kitOne K t (.type "bool") = some b ∧ scal v v = true := by
  rcases h with ⟨i, rfl⟩ | ⟨b, rfl⟩ | rfl
  · exact ⟨_, false, TyOf.int i, T.k0, rfl⟩
  · exact ⟨_, true, TyOf.bl b, kit_self, rfl⟩
  · exact ⟨_, false, TyOf.non, T.k18, rfl⟩
theorem plain_S (s : Sd) : ∀ v ∈ toldS s, plainV v := fun v hv => by
  simp only [toldS, List.mem_cons, List.not_mem_nil, or_false] at hv
  rcases hv with rfl | rfl | rfl | rfl | rfl
  all_goals exact .inl ⟨_, rfl⟩
theorem plain_G (x : Cs) : ∀ v ∈ toldG x, plainV v := fun v hv => by
  simp only [toldG, List.mem_cons, List.not_mem_nil, or_false] at hv
  rcases hv with rfl | rfl | rfl | rfl
  · exact .inl ⟨_, rfl⟩
  · exact .inr (.inl ⟨_, rfl⟩)
  · cases x.fallen with
    | none => exact .inr (.inr rfl)
    | some b => exact .inl ⟨_, rfl⟩
  · exact .inl ⟨_, rfl⟩
def spSame : Sp := fun vs H Q _ => ∃ p q xs, vs = [.ref p, .ref q] ∧ H p = some (.tup xs) ∧ H q = some (.tup xs) ∧ (∀ v ∈ xs, plainV v) ∧ xs.length ≤ 10 ∧ Q (.bl true) H
theorem ok_law_same (T : Txt K mg a) : Has P w K mg base CX0 1 "_law_same" ["_law_one", "_law_other"] spSame := by
  refine T.f_law_same.has fun f fd F => F.ok sc_law_same (fun vs H Q E h => ?_) (fun cdv A outer s H vs Q E hr h => ?_)
  · obtain ⟨p, q, xs, rfl, _⟩ := h; rfl
  · obtain ⟨p, q, xs, rfl, hp, hq, hpl, hl, kk⟩ := h
    have hu := hu_of hr
    refine ⟨_, (pss_cons (ps_if (pt_cmpR op_ne (pe_callB call_len_seq (by rfl) T.n_len PySem.boot_len (pa_c (pv 0) pa_nil ns_name) (he := star_cons ns_name) (hpl := star_any ns_nil)) (pe_callB call_len_seq (by rfl) T.n_len PySem.boot_len (pa_c (pv 1) pa_nil ns_name) (he := star_cons ns_name) (hpl := star_any ns_nil)) (nomark _)) (pss_one (ps_ret pe_bl)) pss_nil) (pss_cons (ps_for PassesOwn.never rfl (pi_range1 rfl T.n_range (pa_c (pe_callB call_len_seq (by rfl) T.n_len PySem.boot_len (pa_c (pv 0) pa_nil ns_name) (he := star_cons ns_name) (hpl := star_any ns_nil)) pa_nil ns_call)) (pg_name (i := 2) sc_law_same.nd rfl (Or.inl rfl)) (pss_one (ps_if (PW.pt (pw_or (pt_cmpR op_ne (pe_callB call_isinst (by rfl) T.n_isinstance boot_isinstance (pa_c (pe_ix ix_tup (pv 0) (pv 2) (fun _ _ => rfl)) (pa_c (pe_bT rfl T.n_bool boot_bool) pa_nil ns_name) ns_sub) (he := star_cons ns_sub) (hpl := star_any (ns_cons ns_name ns_nil))) (pe_callB call_isinst (by rfl) T.n_isinstance boot_isinstance (pa_c (pe_ix ix_tup (pv 1) (pv 2) (fun _ _ => rfl)) (pa_c (pe_bT rfl T.n_bool boot_bool) pa_nil ns_name) ns_sub) (he := star_cons ns_sub) (hpl := star_any (ns_cons ns_name ns_nil))) (nomark _)) (pw_or1 (pt_cmpR op_ne (pe_ix ix_tup (pv 0) (pv 2) (fun _ _ => rfl)) (pe_ix ix_tup (pv 1) (pv 2) (fun _ _ => rfl)) (nomark _))))) (pss_one (ps_ret pe_bl)) pss_nil))) (pss_one (ps_ret pe_bl)))), ?_⟩
    walk_at "rd"
    refine ⟨p, _, rfl, .inr (SqT.of hp), ?_⟩
    walk_at "rd"
    refine ⟨q, _, rfl, .inr (SqT.of hq), ?_⟩
    walk_at "rd"
    refine rd_iteN (fun z => absurd rfl z) (fun _ => ?_)
    walk_at "rd"
    refine ⟨p, _, rfl, .inr (SqT.of hp), ?_⟩
    walk_at "rd"
    refine ⟨_, rfl, by omega, by omega, for_range (lo := 0) (fun i σ H1 => (∃ v2, σ = [some (.ref p), some (.ref q), v2]) ∧ H1 = H) ⟨⟨none, rfl⟩, rfl⟩ ?_ ?_⟩
    · rintro i σ H1 hi ⟨⟨v2, rfl⟩, rfl⟩
      have hi' : i < xs.length := by rw [Int.toNat_natCast] at hi; exact hi
      have hat : atI xs (0 + (i : Int)) = some xs[i] := by rw [Int.zero_add]; exact atI_nat (List.getElem?_eq_getElem hi')
      obtain ⟨t, b, ty, kt, hs⟩ := isb T (H := H1) (hpl _ (List.getElem_mem hi'))
      generalize xs[i] = v at hat ty hs
      walk_at "rd"
      refine rd_ixT (SqT.of hp) hat ?_
      walk_at "rd"
      refine ⟨_, _, _, _, b, rfl, rfl, ty, kt, ?_⟩
      walk_at "rd"
      refine rd_ixT (SqT.of hq) hat ?_
      walk_at "rd"
      refine ⟨_, _, _, _, b, rfl, rfl, ty, kt, ?_⟩
      walk_at "rd"
      refine rd_iteN (fun z => absurd rfl z) (fun _ => ?_)
      walk_at "rd"
      refine rd_ixT (SqT.of hp) hat ?_
      walk_at "rd"
      refine rd_ixT (SqT.of hq) hat ?_
      refine rd_ne hs ?_
      walk_at "rd"
      refine rd_iteN (fun z => absurd rfl z) (fun _ => ?_)
      walk_at "rd"
      exact ⟨⟨_, rfl⟩, rfl⟩
    · rintro σ H1 ⟨⟨v2, rfl⟩, rfl⟩
      walk_at "rd"
      exact kk
local macro_rules | `(tactic| walk_at "rd1") => `(tactic| first
  | with_reducible refine rd_compR ?_)
theorem scal_res {gs : List Sg} {d : Dd} {x : Cs} : scal (resV (doD gs d x)) (resV (doD gs d x)) = true := by
  rcases res_kind (gs := gs) (d := d) (x := x) with ⟨i, h⟩ | h | ⟨z, h⟩ <;> rw [h] <;> rfl
theorem ty_res (T : Txt K mg a) {H : Hp} {gs : List Sg} {d : Dd} {x : Cs} : ∃ t, TyOf K H (resV (doD gs d x)) t ∧ PySem.W.kitOne K t (.type "bool") = some false := by
  rcases res_kind (gs := gs) (d := d) (x := x) with ⟨i, h⟩ | h | ⟨z, h⟩ <;> rw [h]
  · exact ⟨_, TyOf.int i, T.k0⟩
  · exact ⟨_, TyOf.non, T.k18⟩
  · exact ⟨_, TyOf.str z, T.k17⟩
theorem live0 {gs : List Sg} (he : eachOk gs) {g : Sg} (hg : gs[0]? = some g) : Live (cs0 g) := fun _ _ => (begin_wf he hg (Int.le_refl 0) (Int.le_refl 0)).2
theorem live_do {gs : List Sg} (hp : progOk gs) {d : Dd} {x : Cs} (hl : Live x) (hw : ∀ b, WF gs (x.sd b)) : Live (resX x (doD gs d x)) := by
  have he : eachOk gs := hp.2.2.1
  have ho : orderOk gs := hp.2.2.2
  cases d with
  | go n =>
    show Live (resX x (doGo n gs x))
    unfold doGo
    repeat' split
    · exact hl
    · exact hl
    · exact goX_live he hl hw
    · exact hl
  | press b =>
    show Live (resX x (doPress b gs x))
    unfold doPress
    repeat' split
    · exact hl
    · intro hf b'
      have hf' : x.fallen = none := hf
      show 0 < (setS x.sd b (moveS gs (x.sd b)) b').left
      by_cases e : b' = b
      · subst e; rw [setS_same]; exact (move_wf he ho (hw b')).2 (hl hf' b')
      · rw [setS_ne e]; exact hl hf' b'
    · exact hl
    · exact hl
  | start =>
    show Live (resX x (doStart x))
    unfold doStart
    repeat' split
    · exact hl
    · exact hl
    · exact hl
  | stop =>
    show Live (resX x (doStop x))
    unfold doStop
    repeat' split
    · exact hl
    · exact hl
    · exact hl
  | give b n =>
    show Live (resX x (doGive b n x))
    unfold doGive
    repeat' split
    · exact hl
    · exact hl
    · rename_i hz
      intro hf b'
      have hf' : x.fallen = none := hf
      show 0 < (setS x.sd b { x.sd b with left := (x.sd b).left + n } b').left
      by_cases e : b' = b
      · subst e; rw [setS_same]; show 0 < (x.sd b').left + n; omega
      · rw [setS_ne e]; exact hl hf' b'
    · exact hl
section
variable {H H' : Hp} {c : Ck} {wa d sl : Addr} {e : Bool → Addr} {ps : List Addr} {gs : List Sg} {x y : Cs} {k : Bool → Int}
theorem Wd.kp (h : Wd H wa d sl e ps gs x k) (hc : CkAt a H c y) (z : Kp c H H') : Wd H' wa d sl e ps gs x k := by
  have dk : ∀ {b kv}, H b = some (.dK kv) → H' b = some (.dK kv) := fun {b kv} h1 => z.at' h1 fun o => by obtain ⟨_, _, _, w⟩ := own_ins hc o; rw [h1] at w; cases w
  exact ⟨dk h.w, z.lst hc h.st, ⟨h.sa.len, fun i p g h1 h2 => z.tup hc (h.sa.at_ i p g h1 h2)⟩, z.lst hc h.sl, fun b => dk (h.di b), h.ne, h.nw, h.mm⟩
theorem K3.ck (h : Wd H wa d sl e ps gs x k) (hc : CkAt a H c y) (z : K3 wa e H H') : CkAt a H' c y := by
  have t : ∀ {b o}, H b = some o → (∀ kv, o ≠ .dK kv) → H' b = some o := fun {b o} h1 hn => z b o h1 (fun q => hn _ (by rw [q, h.w] at h1; exact (Option.some.inj h1).symm)) (fun f q => hn _ (by rw [q, h.di f] at h1; exact (Option.some.inj h1).symm))
  have ti : ∀ {b C dx fs}, H b = some (.ins C dx fs) → H' b = some (.ins C dx fs) := fun h1 => t h1 (fun _ q => by cases q)
  have tt : ∀ {b xs}, H b = some (.tup xs) → H' b = some (.tup xs) := fun h1 => t h1 (fun _ q => by cases q)
  exact ⟨ti hc.ck, tt hc.tp, fun b => ti (hc.sd b), tt hc.tt, ⟨hc.st.len, fun i p g h1 h2 => tt (hc.st.at_ i p g h1 h2)⟩, hc.ne, hc.np, hc.ok, hc.wf⟩
theorem K3.lst (h : Wd H wa d sl e ps gs x k) {b : Addr} {xs : List V} (z : K3 wa e H H') (h1 : H b = some (.lst xs)) : H' b = some (.lst xs) := z b _ h1 (ne_of h1 h.w (by intro q; cases q)) fun f => ne_of h1 (h.di f) (by intro q; cases q)
theorem K3.dd (h : Wd H wa d sl e ps gs x k) {qs : List Addr} {ds : List Dd} (z : K3 wa e H H') (h1 : DdAt H qs ds) : DdAt H' qs ds :=
  ⟨h1.len, fun i q dd h2 h3 => z q _ (h1.at_ i q dd h2 h3) (ne_of (h1.at_ i q dd h2 h3) h.w (by intro q; cases q)) fun f => ne_of (h1.at_ i q dd h2 h3) (h.di f) (by intro q; cases q)⟩
end
def teSame (K : PySem.W.Frag) : TE := tAndV (tCB (fun xs H Q => ∃ x c cv t b, xs = [x, c] ∧ clsV c = some cv ∧ TyOf K H x t ∧ PySem.W.kitOne K t cv = some b ∧ Q (.bl b) H) (tCons (tOp (rIxL K) (tVar 1) (tVar 0)) (tCons (tC (.ty "tuple")) tNil)))
  (tCall spSame [] E0 (tCons (tOp (rIxL K) (tVar 1) (tVar 0)) (tCons (tOp (rIxL K) (tVar 2) (tVar 0)) tNil)))
theorem te_same {H : Hp} {l1 l2 p q : Addr} {i : Int} {xs ys zs : List V} (h1 : SqL K H l1 xs) (h2 : SqL K H l2 ys) (a1 : atI xs i = some (.ref p)) (a2 : atI ys i = some (.ref q)) (hp : H p = some (.tup zs)) (hq : H q = some (.tup zs)) (hz : ∀ v ∈ zs, plainV v) (hl : zs.length ≤ 10) :
    teSame K [some (.int i), some (.ref l1), some (.ref l2)] H fun u H3 => H3 = H ∧ u = .bl true := by
  unfold teSame
  walk_at "rd"
  refine rd_ixL h1 a1 ?_
  walk_at "rd"
  refine ⟨_, _, _, _, true, rfl, rfl, TyOf.tup hp, kit_self, ?_⟩
  walk_at "rd"
  refine rd_ixL h1 a1 ?_
  walk_at "rd"
  refine rd_ixL h2 a2 ?_
  walk_at "rd"
  exact ⟨p, q, zs, rfl, hp, hq, hz, hl, rfl, rfl⟩
theorem cells_of {sc : Scope} (h : sc.names.all (fun u => !(u.2 == .free) || (List.lookup u.1 (defScope s_law).names == some .cell)) = true) : ∀ u ∈ sc.names, u.2 = .free → List.lookup u.1 (defScope s_law).names = some .cell := fun u hu hf => by
  have := List.all_eq_true.mp h u hu
  rw [hf] at this
  cases e : List.lookup u.1 (defScope s_law).names with
  | none => rw [e] at this; cases this
  | some k => rw [e] at this; cases k <;> first | rfl | cases this
theorem okE_of {d : Dd} (h : okD d) : okE d := by
  cases d with
  | go n => exact h.2
  | _ => trivial
theorem ok_law {f : Addr} {fd : FuncData} (T : Txt K mg a) (F : Fun K "law" "law" s_law f fd) : FnOk P w K mg base CX0 14 f fd ["_law_script"] (spLaw K) := by
  have G_law_stages := ok_law_stages (P := P) (w := w) (base := base) T
  have G_law_mix := ok_law_mix (P := P) (w := w) (base := base) T
  have G_law_deeds := ok_law_deeds (P := P) (w := w) (base := base) T
  have G_law_told := ok_law_told (P := P) (w := w) (base := base) T
  have G_law_new := ok_law_new (P := P) (w := w) (base := base) T
  have G_law_due := ok_law_due (P := P) (w := w) (base := base) T
  have G_law_state := ok_law_state (P := P) (w := w) (base := base) T
  have G_law_shown := ok_law_shown (P := P) (w := w) (base := base) T
  have G_law_same := ok_law_same (P := P) (w := w) (base := base) T
  have G_Clock_init := ok_Clock_init (P := P) (w := w) (base := base) T
  refine F.ok sc_law (fun vs H Q E h => ?_) (fun cdv A outer s H vs Q E hr h => ?_)
  · obtain ⟨l, ns, rfl, _⟩ := h; rfl
  · obtain ⟨l, ns, rfl, hl, h63, k⟩ := h
    have hu := hu_of hr
    refine ⟨_, (pss_cons (ps_set (i := 1) sc_law.nd rfl (Or.inl rfl) (pe_callH G_law_stages hr (pa_c (pv 0) (pa_c pe_int pa_nil ns_con) ns_name) (he := star_cons ns_name) (hpl := star_any (ns_cons ns_con ns_nil)))) (pss_cons (ps_set (i := 2) sc_law.nd rfl (Or.inl rfl) (pe_callTy call_list_of (by rfl) T.n_list boot_list (pa_c (pv 1) pa_nil ns_name) (he := star_cons ns_name) (hpl := star_any ns_nil))) (pss_cons (ps_set (i := 3) sc_law.nd rfl (Or.inl rfl) (pe_makeH10 G_Clock_init T.g_Clock hr (pa_c (pv 2) pa_nil ns_name) (he := star_cons ns_name) (hpl := star_any ns_nil))) (pss_cons (ps_expr (pe_bm0 PySem.F.plainAttrs_list PySem.F.slot_list_clear PySem.F.type_list_clear mt_clear (pv 2))) (pss_cons (ps_set (i := 4) sc_law.nd rfl (Or.inl rfl) (pe_callH G_law_new hr (pa_c (pv 1) pa_nil ns_name) (he := star_cons ns_name) (hpl := star_any ns_nil))) (pss_cons (ps_set (i := 5) sc_law.nd rfl (Or.inl rfl) (pe_callH G_law_deeds hr (pa_c (pv 0) (pa_c pe_int (pa_c (pe_op op_mod (pe_callH G_law_mix hr (pa_c (pv 0) (pa_c pe_int pa_nil ns_con) ns_name) (he := star_cons ns_name) (hpl := star_any (ns_cons ns_con ns_nil))) pe_int) pa_nil ns_bin) ns_con) ns_name) (he := star_cons ns_name) (hpl := star_any (ns_cons ns_con (ns_cons ns_bin ns_nil))))) (pss_cons (ps_if (pt_cmpR op_gt (pe_op op_mod (pe_callH G_law_mix hr (pa_c (pv 0) (pa_c pe_int pa_nil ns_con) ns_name) (he := star_cons ns_name) (hpl := star_any (ns_cons ns_con ns_nil))) pe_int) pe_int (nomark _)) (pss_one (ps_set (i := 5) sc_law.nd rfl (Or.inl rfl) (pe_op op_cat (pe_lst (pa_c (pe_tup (pa_c pe_str (pa_c pe_int pa_nil ns_con) ns_con)) pa_nil ns_tup)) (pv 5)))) pss_nil) (pss_cons (ps_if (pt_cmpR op_eq (pe_op op_mod (pe_callH G_law_mix hr (pa_c (pv 0) (pa_c pe_int pa_nil ns_con) ns_name) (he := star_cons ns_name) (hpl := star_any (ns_cons ns_con ns_nil))) pe_int) pe_int (nomark _)) (pss_one (ps_expr (pe_bm1 PySem.F.plainAttrs_list PySem.F.slot_list_append PySem.F.type_list_append mt_append (pv 5) (pa_c (pe_tup (pa_c pe_str (pa_c (pe_un un_neg pe_int) pa_nil ns_un) ns_con)) pa_nil ns_tup) ns_tup))) pss_nil) (pss_cons (ps_for PassesOwn.never rfl (pi_list (pv 5)) (pg_tup rfl (pgs_cons (pg_name (i := 6) sc_law.nd rfl (Or.inl rfl)) (pgs_cons (pg_name (i := 7) sc_law.nd rfl (Or.inl rfl)) pgs_nil))) (pss_cons (ps_set (i := 8) sc_law.nd rfl (Or.inl rfl) (pe_callH G_law_told hr (pa_c (pv 3) (pa_c (pv 6) (pa_c (pv 7) pa_nil ns_name) ns_name) ns_name) (he := star_cons ns_name) (hpl := star_any (ns_cons ns_name (ns_cons ns_name ns_nil))))) (pss_cons (ps_set (i := 9) sc_law.nd rfl (Or.inl rfl) (pe_callH G_law_due hr (pa_c (pv 4) (pa_c (pv 6) (pa_c (pv 7) pa_nil ns_name) ns_name) ns_name) (he := star_cons ns_name) (hpl := star_any (ns_cons ns_name (ns_cons ns_name ns_nil))))) (pss_cons (ps_if (PW.pt (pw_or (pt_val (pe_callB call_isinst (by rfl) T.n_isinstance boot_isinstance (pa_c (pv 8) (pa_c (pe_bT rfl T.n_bool boot_bool) pa_nil ns_name) ns_name) (he := star_cons ns_name) (hpl := star_any (ns_cons ns_name ns_nil))) (fun _ => rfl)) (pw_or1 (pt_cmpR op_ne (pv 8) (pv 9) (nomark _))))) (pss_one (ps_ret pe_bl)) pss_nil) (pss_cons (ps_set (i := 10) sc_law.nd rfl (Or.inr rfl) (pe_callH G_law_shown hr (pa_c (pv 3) pa_nil ns_name) (he := star_cons ns_name) (hpl := star_any ns_nil))) (pss_cons (ps_set (i := 11) sc_law.nd rfl (Or.inr rfl) (pe_callH G_law_state hr (pa_c (pv 4) pa_nil ns_name) (he := star_cons ns_name) (hpl := star_any ns_nil))) (pss_one (ps_if (pt_not (pt_val (pe_callB (call_allB rfl) (by rfl) T.n_all PyProof.Rows.boot_all (pa_c (pe_compR (j1 := 10) (j2 := 11) (te := teSame K) rfl (fun _ _ z => z) rfl rfl rfl rfl (by decide +kernel) rfl (by decide +kernel) rfl (cells_of (by decide +kernel)) rfl rfl (by decide +kernel) (pi_range1 rfl T.n_range (pa_c pe_int pa_nil ns_con)) (fun _ _ _ _ _ => (pe_and (pe_callB call_isinst (by rfl) T.n_isinstance boot_isinstance (pa_c (pe_ix ix_list (pv 1) (pv 0) (fun _ _ => rfl)) (pa_c (pe_bT rfl T.n_tuple boot_tuple) pa_nil ns_name) ns_sub) (he := star_cons ns_sub) (hpl := star_any (ns_cons ns_name ns_nil))) (pe_one (pe_callH G_law_same hr (pa_c (pe_ix ix_list (pv 1) (pv 0) (fun _ _ => rfl)) (pa_c (pe_ix ix_list (pv 2) (pv 0) (fun _ _ => rfl)) pa_nil ns_sub) ns_sub) (he := star_cons ns_sub) (hpl := star_any (ns_cons ns_sub ns_nil))))))) pa_nil ns_lc) (he := star_cons ns_lc) (hpl := star_any ns_nil)) (fun _ => rfl))) (pss_one (ps_ret pe_bl)) pss_nil)))))))) (pss_one (ps_ret pe_bl))))))))))), ?_⟩
    walk_at "rd"
    refine ⟨l, ns, 0, rfl, hl, fun H1 p ps gs sm1 hpn hp hst hdr => ?_⟩
    walk_at "rd"
    refine ⟨p, _, rfl, .inl (SqL.of hp), fun h1 hh1 => ?_⟩
    have sm2 : Same H1 (upd H1 h1 (.lst (refs ps))) := same_upd hh1
    have hh1' := upd_same (H := H1) (a := h1) (o := .lst (refs ps))
    generalize upd H1 h1 (.lst (refs ps)) = H2 at sm2 hh1'
    walk_at "rd"
    obtain ⟨g, hg0⟩ : ∃ g, gs[0]? = some g := ⟨gs[0]'(by have := hdr.ok.1; omega), List.getElem?_eq_getElem _⟩
    intro x dx nx nd _
    refine mkClock hh1' (hst.same sm2) hdr.ok hg0 nx nd fun c H3 sm3 hc gs3 own3 cp3 => ⟨rfl, ?_⟩
    subst cp3
    have hh3 := sm3 _ _ hh1'
    walk_at "rd"
    refine ⟨.inl ⟨rfl, _, SqL.of hh3⟩, ?_⟩
    refine ⟨h1, _, rfl, rfl, hh3, ?_⟩
    have sm4 : Same H1 (upd H3 h1 (.lst [])) := same_out (sm2.trans sm3) hh1
    have hc4 : CkAt a (upd H3 h1 (.lst [])) c (cs0 g) := hc.ke (e := h1) Ke.refl.put (fun _ _ _ z => by rw [hh3] at z; cases z) (fun _ z => by rw [hh3] at z; cases z)
    generalize upd H3 h1 (.lst []) = H4 at sm4 hc4
    have hl4 := (sm1.trans sm4).seq hl
    have hp4 := sm4 _ _ hp
    have hst4 := hst.same sm4
    clear sm2 sm3 hh1 hh1' hh3 own3 nx nd hc sm1 sm4 hpn hp hst hl
    walk_at "rd"
    refine ⟨p, ps, gs, g, rfl, hp4, hst4, hg0, hdr.nat _ (List.mem_of_getElem? hg0), fun H5 wa sl e sm5 hwaN heN W5 => ?_⟩
    have hl5 := sm5.seq hl4
    have hc5 := hc4.same sm5
    clear hl4 hc4 hp4 hst4 hwaN heN sm5
    walk_at "rd"
    refine ⟨l, ns, 11, rfl, hl5, fun n => ?_⟩
    walk_at "rd"
    obtain ⟨m, hm, hm31⟩ := emod_nat (i := n) (show 0 < 31 by decide)
    rw [show n % 31 = (m : Int) from hm]
    walk_at "rd"
    refine ⟨l, ns, 12, m, rfl, hl5, by omega, fun H6 r2 qs0 ds0 sm6 hr2N hr2 hdd hdl hok0 => ?_⟩
    have hlen0 : qs0.length ≤ 31 := by have := hdd.len; omega
    have back : ∀ {H' : Hp} {b : Addr}, Same H5 H' → H' b = none → H5 b = none := fun {H' b} s z => by
      cases y : H5 b with
      | none => rfl
      | some o => rw [s _ _ y] at z; cases z
    walk_at "rs"
    refine rd_joinIf (fun σ' H' => ∃ r qs ds, σ' = [some (.ref l), some (.ref p), some (.ref h1), some (.ref c.p), some (.ref wa), some (.ref r), none, none, none, none, none, none] ∧ Same H5 H' ∧ H5 r = none ∧ H' r = some (.lst (refs qs)) ∧ DdAt H' qs ds ∧ qs.length ≤ 32 ∧ ∀ d ∈ ds, okE d) ?_ ?_
    · rintro σ' H7 ⟨r, qs1, ds1, rfl, sm7, hrN, hr7, hdd7, hql, hok7⟩
      walk_at "rs"
      refine rd_joinIf (fun σ' H' => ∃ qs ds, σ' = [some (.ref l), some (.ref p), some (.ref h1), some (.ref c.p), some (.ref wa), some (.ref r), none, none, none, none, none, none] ∧ Same H5 H' ∧ H' r = some (.lst (refs qs)) ∧ DdAt H' qs ds ∧ ∀ d ∈ ds, okE d) ?_ ?_
      · rintro σ' H8 ⟨qs, ds, rfl, sm8, hr8, hdd8, hok8⟩
        have W8 := W5.same sm8
        have hc8 := hc5.same sm8
        clear hdd7 hr7 sm7 hok7 W5 hc5 hl5 sm6 hr2 hdd hok0 sm8 back hrN hr2N
        walk_at "rd"
        refine ⟨r, rfl, ⟨_, SqL.of hr8⟩, for_list (K := K) (a := r) (xs := refs qs) (fun i σ H' => ∃ x k v6 v7 v8 v9 v10 v11, σ = [some (.ref l), some (.ref p), some (.ref h1), some (.ref c.p), some (.ref wa), some (.ref r), v6, v7, v8, v9, v10, v11] ∧ H' r = some (.lst (refs qs)) ∧ DdAt H' qs ds ∧ CkAt a H' c x ∧ Wd H' wa p sl e ps gs x k ∧ Live x)
          ⟨_, _, _, _, _, _, _, _, rfl, hr8, hdd8, hc8, W8, live0 hdr.ok.2.2.1 hg0⟩ (fun i σ H' _ hpv => ?_) ?_ ?_⟩
        · obtain ⟨x, k, v6, v7, v8, v9, v10, v11, _, h, _⟩ := hpv
          exact SqL.of h
        · rintro i v σ H1 hv ⟨x, kx, v6, v7, v8, v9, v10, v11, rfl, hr1, hd1, hx1, W1, hlv⟩
          have hil : i < qs.length := by have := (List.getElem?_eq_some_iff.mp hv).1; rwa [refs_len] at this
          have hild : i < ds.length := by have := hd1.len; omega
          have hvi : v = .ref qs[i] := by
            have := (List.getElem?_eq_some_iff.mp hv).2
            unfold refs at this
            simp at this
            exact this.symm
          subst hvi
          have hq := hd1.at_ i _ _ (List.getElem?_eq_getElem hil) (List.getElem?_eq_getElem hild)
          have hod := hok8 _ (List.getElem_mem hild)
          generalize ds[i] = dd at hq hod
          generalize qs[i] = qi at hq
          have hwf : ∀ b, WF gs (x.sd b) := by have := hx1.wf; rwa [gs3] at this
          walk_at "rd"
          refine ⟨qi, _, rfl, SqT.of hq, rfl, _, _, rfl, ?_⟩
          refine ⟨_, _, rfl, rfl, ?_⟩
          walk_at "rd"
          refine ⟨c, x, dd, rfl, hx1, fun H2 hy1 kp1 => ?_⟩
          rw [gs3] at hy1 ⊢
          have W2 := W1.kp hx1 kp1
          have hr2 := kp1.lst hx1 hr1
          have hd2 := kp1.dd hx1 hd1
          walk_at "rd"
          refine ⟨wa, p, sl, e, ps, gs, x, kx, dd, rfl, W2, hdr.nat, hdr.ok.2.2.1, hdr.ok.2.2.2, hwf, hlv, hod, fun H3 k3 W3 z3 => ?_⟩
          have hy3 := z3.ck W2 hy1
          have hr3 := z3.lst W2 hr2
          have hd3 := z3.dd W2 hd2
          obtain ⟨t, ty, kt⟩ := ty_res T (H := H3) (gs := gs) (d := dd) (x := x)
          walk_at "rd"
          refine ⟨_, _, _, _, false, rfl, rfl, ty, kt, ?_⟩
          walk_at "rd"
          refine rd_ne scal_res ?_
          walk_at "rd"
          refine rd_iteN (fun z => absurd rfl z) (fun _ => ?_)
          walk_at "rd"
          refine ⟨c, _, rfl, hy3, fun H4 l1 p0 p1 p2 sm4 e1 e10 e11 e12 => ?_⟩
          walk_at "rd"
          refine ⟨wa, p, sl, e, ps, gs, _, k3, rfl, W3.same sm4, fun H6 l2 r0 r1 r2 sm6 e2 e20 e21 e22 => ?_⟩
          have sm46 := sm4.trans sm6
          walk_at "rd"
          refine ⟨3, rfl, by decide, by decide, 3, .ref l1, .ref l2, rfl, rfl, by decide, fun i hi => hi, Nat.le_refl 3, fun i v H7 hi hyv => ?_, fun dd' hdd' => ?_⟩
          · obtain ⟨rfl, rfl⟩ := hyv
            refine ⟨rfl, ?_⟩
            have hL1 : SqL K H7 l1 [.ref p0, .ref p1, .ref p2] := SqL.of (sm6 _ _ e1)
            have hL2 : SqL K H7 l2 [.ref r0, .ref r1, .ref r2] := SqL.of e2
            match i, hi with
            | 0, _ => exact te_same hL1 hL2 (p := p0) (q := r0) rfl rfl (sm6 _ _ e10) e20 (plain_S _) (by show 5 ≤ 10; decide)
            | 1, _ => exact te_same hL1 hL2 (p := p1) (q := r1) rfl rfl (sm6 _ _ e11) e21 (plain_S _) (by show 5 ≤ 10; decide)
            | 2, _ => exact te_same hL1 hL2 (p := p2) (q := r2) rfl rfl (sm6 _ _ e12) e22 (plain_G _) (by show 4 ≤ 10; decide)
          · walk_at "rd"
            refine ⟨dd', List.replicate 3 true, rfl, upd_same, ?_⟩
            rw [show (List.replicate 3 true).all id = true from rfl]
            have smf := sm46.trans (same_upd (o := .lst ((List.replicate 3 true).map V.bl)) hdd')
            walk_at "rd"
            exact ⟨_, k3, _, _, _, _, _, _, rfl, smf _ _ hr3, hd3.same smf, hy3.same smf, W3.same smf, live_do hdr.ok hlv hwf⟩
        · rintro σ H1 ⟨x, kx, v6, v7, v8, v9, v10, v11, rfl, _⟩
          walk_at "rd"
          exact k _
      · intro nx hnx
        walk_at "rd"
        refine ⟨l, ns, 9, rfl, sm7.seq hl5, fun n9 => ?_⟩
        walk_at "rd"
        refine rd_ite (fun _ => ?_) (fun _ => ?_)
        · walk_at "rd"
          refine ⟨.inl ⟨rfl, _, SqL.of hr7⟩, ?_⟩
          walk_at "rd"
          refine ⟨by show 2 ≤ sizeLine; decide, fun t ht => ?_⟩
          walk_at "rd"
          refine ⟨r, refs qs1, _, rfl, rfl, by rw [upd_ne (ne_of_none hr7 ht)]; exact hr7, by rw [refs_len]; exact small1000 (by omega), ?_⟩
          rw [refs_snoc]
          obtain ⟨m1, m2⟩ := hdd7.more (d := Dd.go (-1)) hr7 ht
          refine hnx _ _ ⟨qs1 ++ [t], ds1 ++ [Dd.go (-1)], rfl, same_out (sm7.trans (same_upd ht)) hrN, m2, m1, fun d hd => ?_⟩
          rcases List.mem_append.mp hd with z | z
          · exact hok7 d z
          · rw [List.mem_singleton.mp z]; show (-1 : Int) ≤ 100; decide
        · walk_at "rd"
          exact hnx _ _ ⟨qs1, ds1, rfl, sm7, hr7, hdd7, hok7⟩
    · intro nx hnx
      walk_at "rd"
      refine ⟨l, ns, 10, rfl, sm6.seq hl5, fun n10 => ?_⟩
      walk_at "rd"
      refine rd_ite (fun _ => ?_) (fun _ => ?_)
      · walk_at "rd"
        refine ⟨by show 2 ≤ sizeLine; decide, fun q0 hq0 => ?_⟩
        have sm7 := same_upd (o := .tup [V.str (Dd.word .start), V.int (Dd.num .start)]) hq0
        have hq0' := upd_same (H := H6) (a := q0) (o := .tup [V.str (Dd.word .start), V.int (Dd.num .start)])
        show tNil _ (upd H6 q0 (.tup [V.str (Dd.word .start), V.int (Dd.num .start)])) _
        generalize upd H6 q0 (.tup [V.str (Dd.word .start), V.int (Dd.num .start)]) = H7 at sm7 hq0'
        walk_at "rd"
        refine ⟨by show 1 ≤ sizeLine; decide, fun r1 hr1 => ?_⟩
        have sm8 := same_upd (o := .lst [V.ref q0]) hr1
        have hr1' := upd_same (H := H7) (a := r1) (o := .lst [V.ref q0])
        generalize upd H7 r1 (.lst [V.ref q0]) = H8 at sm8 hr1'
        have sm68 := sm7.trans sm8
        walk_at "rd"
        refine ⟨r1, r2, _, _, rfl, rfl, hr1', sm68 _ _ hr2, by rw [refs_len]; show 1 + qs0.length ≤ sizeLine; have : 1000 ≤ sizeLine := (by decide); omega, fun pl hpl => ?_⟩
        have sm9 := same_upd (o := .lst (refs (q0 :: qs0))) hpl
        walk_at "rd"
        refine hnx _ _ ⟨pl, q0 :: qs0, .start :: ds0, rfl, (sm6.trans sm68).trans sm9, back (sm6.trans sm68) hpl, upd_same, ?_, by rw [List.length_cons]; omega, fun d hd => ?_⟩
        · refine ⟨by simp [hdd.len], fun i q d h1 h2 => ?_⟩
          cases i with
          | zero => simp at h1 h2; subst h1 h2; exact sm9 _ _ (sm8 _ _ hq0')
          | succ i => exact sm9 _ _ (sm68 _ _ (hdd.at_ i q d (by simpa using h1) (by simpa using h2)))
        · rcases List.mem_cons.mp hd with rfl | z
          · trivial
          · exact okE_of (hok0 d z)
      · walk_at "rd"
        exact hnx _ _ ⟨r2, qs0, ds0, rfl, sm6, hr2N, hr2, hdd, by omega, fun d hd => okE_of (hok0 d hd)⟩
end
theorem all_mk {l : PySem.W.OpenLaw} {w : World} {K : PySem.W.Frag} {h : Heap} {mg : Str → Option Value} {fa : Addr} (X : K.In h) (G : h.Ns mainGlobals mg) (hfa : mg "law" = some (.ref fa))
    {f0 : Addr} {od0 an0 : Option Addr} {sl0 : Array (Option Value)} {oc0 kV0 dc0 pm0 cd0 ct0 : Value}
    {f4 : Addr} {od4 an4 : Option Addr} {sl4 : Array (Option Value)} {oc4 kV4 dc4 pm4 cd4 ct4 : Value}
    {f8 : Addr} {od8 an8 : Option Addr} {sl8 : Array (Option Value)} {oc8 kV8 dc8 pm8 cd8 ct8 : Value}
    {f12 : Addr} {od12 an12 : Option Addr} {sl12 : Array (Option Value)} {oc12 kV12 dc12 pm12 cd12 ct12 : Value}
    {f16 : Addr} {od16 an16 : Option Addr} {sl16 : Array (Option Value)} {oc16 kV16 dc16 pm16 cd16 ct16 : Value}
    {f20 : Addr} {od20 an20 : Option Addr} {sl20 : Array (Option Value)} {oc20 kV20 dc20 pm20 cd20 ct20 : Value}
    {f24 : Addr} {od24 an24 : Option Addr} {sl24 : Array (Option Value)} {oc24 kV24 dc24 pm24 cd24 ct24 : Value}
    {f28 : Addr} {od28 an28 : Option Addr} {sl28 : Array (Option Value)} {oc28 kV28 dc28 pm28 cd28 ct28 : Value}
    {f32 : Addr} {od32 an32 : Option Addr} {sl32 : Array (Option Value)} {oc32 kV32 dc32 pm32 cd32 ct32 : Value}
    {f36 : Addr} {od36 an36 : Option Addr} {sl36 : Array (Option Value)} {oc36 kV36 dc36 pm36 cd36 ct36 : Value}
    {f40 : Addr} {od40 an40 : Option Addr} {sl40 : Array (Option Value)} {oc40 kV40 dc40 pm40 cd40 ct40 : Value}
    {f44 : Addr} {od44 an44 : Option Addr} {sl44 : Array (Option Value)} {oc44 kV44 dc44 pm44 cd44 ct44 : Value}
    {f48 : Addr} {od48 an48 : Option Addr} {sl48 : Array (Option Value)} {oc48 kV48 dc48 pm48 cd48 ct48 : Value}
    {f52 : Addr} {od52 an52 : Option Addr} {sl52 : Array (Option Value)} {oc52 kV52 dc52 pm52 cd52 ct52 : Value}
    {f56 : Addr} {od56 an56 : Option Addr} {sl56 : Array (Option Value)} {oc56 kV56 dc56 pm56 cd56 ct56 : Value}
    {f60 : Addr} {od60 an60 : Option Addr} {sl60 : Array (Option Value)} {oc60 kV60 dc60 pm60 cd60 ct60 : Value}
    {f64 : Addr} {od64 an64 : Option Addr} {sl64 : Array (Option Value)} {oc64 kV64 dc64 pm64 cd64 ct64 : Value}
    {f68 : Addr} {od68 an68 : Option Addr} {sl68 : Array (Option Value)} {oc68 kV68 dc68 pm68 cd68 ct68 : Value}
    {f72 : Addr} {od72 an72 : Option Addr} {sl72 : Array (Option Value)} {oc72 kV72 dc72 pm72 cd72 ct72 : Value}
    {f76 : Addr} {od76 an76 : Option Addr} {sl76 : Array (Option Value)} {oc76 kV76 dc76 pm76 cd76 ct76 : Value}
    {f80 : Addr} {od80 an80 : Option Addr} {sl80 : Array (Option Value)} {oc80 kV80 dc80 pm80 cd80 ct80 : Value}
    {f84 : Addr} {od84 an84 : Option Addr} {sl84 : Array (Option Value)} {oc84 kV84 dc84 pm84 cd84 ct84 : Value}
    {f88 : Addr} {od88 an88 : Option Addr} {sl88 : Array (Option Value)} {oc88 kV88 dc88 pm88 cd88 ct88 : Value}
    {f92 : Addr} {od92 an92 : Option Addr} {sl92 : Array (Option Value)} {oc92 kV92 dc92 pm92 cd92 ct92 : Value}
    {f96 : Addr} {od96 an96 : Option Addr} {sl96 : Array (Option Value)} {oc96 kV96 dc96 pm96 cd96 ct96 : Value}
    {f100 : Addr} {od100 an100 : Option Addr} {sl100 : Array (Option Value)} {oc100 kV100 dc100 pm100 cd100 ct100 : Value}
    {f104 : Addr} {od104 an104 : Option Addr} {sl104 : Array (Option Value)} {oc104 kV104 dc104 pm104 cd104 ct104 : Value}
    {f108 : Addr} {od108 an108 : Option Addr} {sl108 : Array (Option Value)} {oc108 kV108 dc108 pm108 cd108 ct108 : Value}
    {CSide : Addr}
    {CClock : Addr}
    {f114 : Addr} {od114 an114 : Option Addr} {sl114 : Array (Option Value)} {oc114 kV114 dc114 pm114 cd114 ct114 : Value}
    {f119 : Addr} {od119 an119 : Option Addr} {sl119 : Array (Option Value)} {oc119 kV119 dc119 pm119 cd119 ct119 : Value}
    {f124 : Addr} {od124 an124 : Option Addr} {sl124 : Array (Option Value)} {oc124 kV124 dc124 pm124 cd124 ct124 : Value}
    {f129 : Addr} {od129 an129 : Option Addr} {sl129 : Array (Option Value)} {oc129 kV129 dc129 pm129 cd129 ct129 : Value}
    {f134 : Addr} {od134 an134 : Option Addr} {sl134 : Array (Option Value)} {oc134 kV134 dc134 pm134 cd134 ct134 : Value}
    {f139 : Addr} {od139 an139 : Option Addr} {sl139 : Array (Option Value)} {oc139 kV139 dc139 pm139 cd139 ct139 : Value}
    {f144 : Addr} {od144 an144 : Option Addr} {sl144 : Array (Option Value)} {oc144 kV144 dc144 pm144 cd144 ct144 : Value}
    {f149 : Addr} {od149 an149 : Option Addr} {sl149 : Array (Option Value)} {oc149 kV149 dc149 pm149 cd149 ct149 : Value}
    {f154 : Addr} {od154 an154 : Option Addr} {sl154 : Array (Option Value)} {oc154 kV154 dc154 pm154 cd154 ct154 : Value}
    {f159 : Addr} {od159 an159 : Option Addr} {sl159 : Array (Option Value)} {oc159 kV159 dc159 pm159 cd159 ct159 : Value}
    {f164 : Addr} {od164 an164 : Option Addr} {sl164 : Array (Option Value)} {oc164 kV164 dc164 pm164 cd164 ct164 : Value}
    {f169 : Addr} {od169 an169 : Option Addr} {sl169 : Array (Option Value)} {oc169 kV169 dc169 pm169 cd169 ct169 : Value}
    {f174 : Addr} {od174 an174 : Option Addr} {sl174 : Array (Option Value)} {oc174 kV174 dc174 pm174 cd174 ct174 : Value}
    {f179 : Addr} {od179 an179 : Option Addr} {sl179 : Array (Option Value)} {oc179 kV179 dc179 pm179 cd179 ct179 : Value}
    {f184 : Addr} {od184 an184 : Option Addr} {sl184 : Array (Option Value)} {oc184 kV184 dc184 pm184 cd184 ct184 : Value}
    {f189 : Addr} {od189 an189 : Option Addr} {sl189 : Array (Option Value)} {oc189 kV189 dc189 pm189 cd189 ct189 : Value}
    {f194 : Addr} {od194 an194 : Option Addr} {sl194 : Array (Option Value)} {oc194 kV194 dc194 pm194 cd194 ct194 : Value}
    {f199 : Addr} {od199 an199 : Option Addr} {sl199 : Array (Option Value)} {oc199 kV199 dc199 pm199 cd199 ct199 : Value}
    {f204 : Addr} {od204 an204 : Option Addr} {sl204 : Array (Option Value)} {oc204 kV204 dc204 pm204 cd204 ct204 : Value}
    {f209 : Addr} {od209 an209 : Option Addr} {sl209 : Array (Option Value)} {oc209 kV209 dc209 pm209 cd209 ct209 : Value}
    {f216 : Addr} {od216 an216 : Option Addr} {sl216 : Array (Option Value)} {oc216 kV216 dc216 pm216 cd216 ct216 : Value}
    {XClockError : Addr}
    {XBadStages : Addr}
    {XBadTicks : Addr}
    {XNotNow : Addr}
    {XOver : Addr}
    {tMOST_STAGES : Tok}
    {tMOST_MOVES : Tok}
    {tMOST_PERIODS : Tok}
    {tMOST_TICKS : Tok}
    {tMOST_EXTRA : Tok}
    {tLEAST_LEFT : Tok}
    {tMOST_LEFT : Tok}
    {AW : Addr} {odW : Option Addr} {w1 w2 w3 w4 : Tok} {nW : Nat} {slW : Array (Option Value)}
    (a0 : PySem.W.nsIn K mainGlobals "is_whole_within" = some (some (.ref f0)))
    (l0 : K.lookup f0 = some ⟨oc0, od0, .func (PySem.W.fnOf "is_whole_within" "is_whole_within" (defArgs s_is_whole_within) (defBody s_is_whole_within) (defScope s_is_whole_within) .none kV0 dc0 pm0 an0 cd0 ct0), sl0⟩)
    (c0 : PySem.W.codeIn K cd0 "is_whole_within" = true)
    (k0 : PySem.W.keepIn K (.ref f0) = true)
    (a4 : PySem.W.nsIn K mainGlobals "is_good_main" = some (some (.ref f4)))
    (l4 : K.lookup f4 = some ⟨oc4, od4, .func (PySem.W.fnOf "is_good_main" "is_good_main" (defArgs s_is_good_main) (defBody s_is_good_main) (defScope s_is_good_main) .none kV4 dc4 pm4 an4 cd4 ct4), sl4⟩)
    (c4 : PySem.W.codeIn K cd4 "is_good_main" = true)
    (k4 : PySem.W.keepIn K (.ref f4) = true)
    (a8 : PySem.W.nsIn K mainGlobals "is_good_over" = some (some (.ref f8)))
    (l8 : K.lookup f8 = some ⟨oc8, od8, .func (PySem.W.fnOf "is_good_over" "is_good_over" (defArgs s_is_good_over) (defBody s_is_good_over) (defScope s_is_good_over) .none kV8 dc8 pm8 an8 cd8 ct8), sl8⟩)
    (c8 : PySem.W.codeIn K cd8 "is_good_over" = true)
    (k8 : PySem.W.keepIn K (.ref f8) = true)
    (a12 : PySem.W.nsIn K mainGlobals "is_main" = some (some (.ref f12)))
    (l12 : K.lookup f12 = some ⟨oc12, od12, .func (PySem.W.fnOf "is_main" "is_main" (defArgs s_is_main) (defBody s_is_main) (defScope s_is_main) .none kV12 dc12 pm12 an12 cd12 ct12), sl12⟩)
    (c12 : PySem.W.codeIn K cd12 "is_main" = true)
    (k12 : PySem.W.keepIn K (.ref f12) = true)
    (a16 : PySem.W.nsIn K mainGlobals "is_over" = some (some (.ref f16)))
    (l16 : K.lookup f16 = some ⟨oc16, od16, .func (PySem.W.fnOf "is_over" "is_over" (defArgs s_is_over) (defBody s_is_over) (defScope s_is_over) .none kV16 dc16 pm16 an16 cd16 ct16), sl16⟩)
    (c16 : PySem.W.codeIn K cd16 "is_over" = true)
    (k16 : PySem.W.keepIn K (.ref f16) = true)
    (a20 : PySem.W.nsIn K mainGlobals "is_endless" = some (some (.ref f20)))
    (l20 : K.lookup f20 = some ⟨oc20, od20, .func (PySem.W.fnOf "is_endless" "is_endless" (defArgs s_is_endless) (defBody s_is_endless) (defScope s_is_endless) .none kV20 dc20 pm20 an20 cd20 ct20), sl20⟩)
    (c20 : PySem.W.codeIn K cd20 "is_endless" = true)
    (k20 : PySem.W.keepIn K (.ref f20) = true)
    (a24 : PySem.W.nsIn K mainGlobals "ticks_of" = some (some (.ref f24)))
    (l24 : K.lookup f24 = some ⟨oc24, od24, .func (PySem.W.fnOf "ticks_of" "ticks_of" (defArgs s_ticks_of) (defBody s_ticks_of) (defScope s_ticks_of) .none kV24 dc24 pm24 an24 cd24 ct24), sl24⟩)
    (c24 : PySem.W.codeIn K cd24 "ticks_of" = true)
    (k24 : PySem.W.keepIn K (.ref f24) = true)
    (a28 : PySem.W.nsIn K mainGlobals "is_good_stage" = some (some (.ref f28)))
    (l28 : K.lookup f28 = some ⟨oc28, od28, .func (PySem.W.fnOf "is_good_stage" "is_good_stage" (defArgs s_is_good_stage) (defBody s_is_good_stage) (defScope s_is_good_stage) .none kV28 dc28 pm28 an28 cd28 ct28), sl28⟩)
    (c28 : PySem.W.codeIn K cd28 "is_good_stage" = true)
    (k28 : PySem.W.keepIn K (.ref f28) = true)
    (a32 : PySem.W.nsIn K mainGlobals "may_stand_behind" = some (some (.ref f32)))
    (l32 : K.lookup f32 = some ⟨oc32, od32, .func (PySem.W.fnOf "may_stand_behind" "may_stand_behind" (defArgs s_may_stand_behind) (defBody s_may_stand_behind) (defScope s_may_stand_behind) .none kV32 dc32 pm32 an32 cd32 ct32), sl32⟩)
    (c32 : PySem.W.codeIn K cd32 "may_stand_behind" = true)
    (k32 : PySem.W.keepIn K (.ref f32) = true)
    (a36 : PySem.W.nsIn K mainGlobals "check_each" = some (some (.ref f36)))
    (l36 : K.lookup f36 = some ⟨oc36, od36, .func (PySem.W.fnOf "check_each" "check_each" (defArgs s_check_each) (defBody s_check_each) (defScope s_check_each) .none kV36 dc36 pm36 an36 cd36 ct36), sl36⟩)
    (c36 : PySem.W.codeIn K cd36 "check_each" = true)
    (k36 : PySem.W.keepIn K (.ref f36) = true)
    (a40 : PySem.W.nsIn K mainGlobals "check_order" = some (some (.ref f40)))
    (l40 : K.lookup f40 = some ⟨oc40, od40, .func (PySem.W.fnOf "check_order" "check_order" (defArgs s_check_order) (defBody s_check_order) (defScope s_check_order) .none kV40 dc40 pm40 an40 cd40 ct40), sl40⟩)
    (c40 : PySem.W.codeIn K cd40 "check_order" = true)
    (k40 : PySem.W.keepIn K (.ref f40) = true)
    (a44 : PySem.W.nsIn K mainGlobals "read_stages" = some (some (.ref f44)))
    (l44 : K.lookup f44 = some ⟨oc44, od44, .func (PySem.W.fnOf "read_stages" "read_stages" (defArgs s_read_stages) (defBody s_read_stages) (defScope s_read_stages) .none kV44 dc44 pm44 an44 cd44 ct44), sl44⟩)
    (c44 : PySem.W.codeIn K cd44 "read_stages" = true)
    (k44 : PySem.W.keepIn K (.ref f44) = true)
    (a48 : PySem.W.nsIn K mainGlobals "ticks_not_counted" = some (some (.ref f48)))
    (l48 : K.lookup f48 = some ⟨oc48, od48, .func (PySem.W.fnOf "ticks_not_counted" "ticks_not_counted" (defArgs s_ticks_not_counted) (defBody s_ticks_not_counted) (defScope s_ticks_not_counted) .none kV48 dc48 pm48 an48 cd48 ct48), sl48⟩)
    (c48 : PySem.W.codeIn K cd48 "ticks_not_counted" = true)
    (k48 : PySem.W.keepIn K (.ref f48) = true)
    (a52 : PySem.W.nsIn K mainGlobals "ticks_for_move" = some (some (.ref f52)))
    (l52 : K.lookup f52 = some ⟨oc52, od52, .func (PySem.W.fnOf "ticks_for_move" "ticks_for_move" (defArgs s_ticks_for_move) (defBody s_ticks_for_move) (defScope s_ticks_for_move) .none kV52 dc52 pm52 an52 cd52 ct52), sl52⟩)
    (c52 : PySem.W.codeIn K cd52 "ticks_for_move" = true)
    (k52 : PySem.W.keepIn K (.ref f52) = true)
    (a56 : PySem.W.nsIn K mainGlobals "_law_cell" = some (some (.ref f56)))
    (l56 : K.lookup f56 = some ⟨oc56, od56, .func (PySem.W.fnOf "_law_cell" "_law_cell" (defArgs s_law_cell) (defBody s_law_cell) (defScope s_law_cell) .none kV56 dc56 pm56 an56 cd56 ct56), sl56⟩)
    (c56 : PySem.W.codeIn K cd56 "_law_cell" = true)
    (k56 : PySem.W.keepIn K (.ref f56) = true)
    (a60 : PySem.W.nsIn K mainGlobals "_law_mix" = some (some (.ref f60)))
    (l60 : K.lookup f60 = some ⟨oc60, od60, .func (PySem.W.fnOf "_law_mix" "_law_mix" (defArgs s_law_mix) (defBody s_law_mix) (defScope s_law_mix) .none kV60 dc60 pm60 an60 cd60 ct60), sl60⟩)
    (c60 : PySem.W.codeIn K cd60 "_law_mix" = true)
    (k60 : PySem.W.keepIn K (.ref f60) = true)
    (a64 : PySem.W.nsIn K mainGlobals "_law_stages" = some (some (.ref f64)))
    (l64 : K.lookup f64 = some ⟨oc64, od64, .func (PySem.W.fnOf "_law_stages" "_law_stages" (defArgs s_law_stages) (defBody s_law_stages) (defScope s_law_stages) .none kV64 dc64 pm64 an64 cd64 ct64), sl64⟩)
    (c64 : PySem.W.codeIn K cd64 "_law_stages" = true)
    (k64 : PySem.W.keepIn K (.ref f64) = true)
    (a68 : PySem.W.nsIn K mainGlobals "_law_deeds" = some (some (.ref f68)))
    (l68 : K.lookup f68 = some ⟨oc68, od68, .func (PySem.W.fnOf "_law_deeds" "_law_deeds" (defArgs s_law_deeds) (defBody s_law_deeds) (defScope s_law_deeds) .none kV68 dc68 pm68 an68 cd68 ct68), sl68⟩)
    (c68 : PySem.W.codeIn K cd68 "_law_deeds" = true)
    (k68 : PySem.W.keepIn K (.ref f68) = true)
    (a72 : PySem.W.nsIn K mainGlobals "_law_new" = some (some (.ref f72)))
    (l72 : K.lookup f72 = some ⟨oc72, od72, .func (PySem.W.fnOf "_law_new" "_law_new" (defArgs s_law_new) (defBody s_law_new) (defScope s_law_new) .none kV72 dc72 pm72 an72 cd72 ct72), sl72⟩)
    (c72 : PySem.W.codeIn K cd72 "_law_new" = true)
    (k72 : PySem.W.keepIn K (.ref f72) = true)
    (a76 : PySem.W.nsIn K mainGlobals "_law_next" = some (some (.ref f76)))
    (l76 : K.lookup f76 = some ⟨oc76, od76, .func (PySem.W.fnOf "_law_next" "_law_next" (defArgs s_law_next) (defBody s_law_next) (defScope s_law_next) .none kV76 dc76 pm76 an76 cd76 ct76), sl76⟩)
    (c76 : PySem.W.codeIn K cd76 "_law_next" = true)
    (k76 : PySem.W.keepIn K (.ref f76) = true)
    (a80 : PySem.W.nsIn K mainGlobals "_law_tick" = some (some (.ref f80)))
    (l80 : K.lookup f80 = some ⟨oc80, od80, .func (PySem.W.fnOf "_law_tick" "_law_tick" (defArgs s_law_tick) (defBody s_law_tick) (defScope s_law_tick) .none kV80 dc80 pm80 an80 cd80 ct80), sl80⟩)
    (c80 : PySem.W.codeIn K cd80 "_law_tick" = true)
    (k80 : PySem.W.keepIn K (.ref f80) = true)
    (a84 : PySem.W.nsIn K mainGlobals "_law_press" = some (some (.ref f84)))
    (l84 : K.lookup f84 = some ⟨oc84, od84, .func (PySem.W.fnOf "_law_press" "_law_press" (defArgs s_law_press) (defBody s_law_press) (defScope s_law_press) .none kV84 dc84 pm84 an84 cd84 ct84), sl84⟩)
    (c84 : PySem.W.codeIn K cd84 "_law_press" = true)
    (k84 : PySem.W.keepIn K (.ref f84) = true)
    (a88 : PySem.W.nsIn K mainGlobals "_law_due" = some (some (.ref f88)))
    (l88 : K.lookup f88 = some ⟨oc88, od88, .func (PySem.W.fnOf "_law_due" "_law_due" (defArgs s_law_due) (defBody s_law_due) (defScope s_law_due) .none kV88 dc88 pm88 an88 cd88 ct88), sl88⟩)
    (c88 : PySem.W.codeIn K cd88 "_law_due" = true)
    (k88 : PySem.W.keepIn K (.ref f88) = true)
    (a92 : PySem.W.nsIn K mainGlobals "_law_state" = some (some (.ref f92)))
    (l92 : K.lookup f92 = some ⟨oc92, od92, .func (PySem.W.fnOf "_law_state" "_law_state" (defArgs s_law_state) (defBody s_law_state) (defScope s_law_state) .none kV92 dc92 pm92 an92 cd92 ct92), sl92⟩)
    (c92 : PySem.W.codeIn K cd92 "_law_state" = true)
    (k92 : PySem.W.keepIn K (.ref f92) = true)
    (a96 : PySem.W.nsIn K mainGlobals "_law_told" = some (some (.ref f96)))
    (l96 : K.lookup f96 = some ⟨oc96, od96, .func (PySem.W.fnOf "_law_told" "_law_told" (defArgs s_law_told) (defBody s_law_told) (defScope s_law_told) .none kV96 dc96 pm96 an96 cd96 ct96), sl96⟩)
    (c96 : PySem.W.codeIn K cd96 "_law_told" = true)
    (k96 : PySem.W.keepIn K (.ref f96) = true)
    (a100 : PySem.W.nsIn K mainGlobals "_law_shown" = some (some (.ref f100)))
    (l100 : K.lookup f100 = some ⟨oc100, od100, .func (PySem.W.fnOf "_law_shown" "_law_shown" (defArgs s_law_shown) (defBody s_law_shown) (defScope s_law_shown) .none kV100 dc100 pm100 an100 cd100 ct100), sl100⟩)
    (c100 : PySem.W.codeIn K cd100 "_law_shown" = true)
    (k100 : PySem.W.keepIn K (.ref f100) = true)
    (a104 : PySem.W.nsIn K mainGlobals "_law_same" = some (some (.ref f104)))
    (l104 : K.lookup f104 = some ⟨oc104, od104, .func (PySem.W.fnOf "_law_same" "_law_same" (defArgs s_law_same) (defBody s_law_same) (defScope s_law_same) .none kV104 dc104 pm104 an104 cd104 ct104), sl104⟩)
    (c104 : PySem.W.codeIn K cd104 "_law_same" = true)
    (k104 : PySem.W.keepIn K (.ref f104) = true)
    (a108 : PySem.W.nsIn K mainGlobals "law" = some (some (.ref f108)))
    (l108 : K.lookup f108 = some ⟨oc108, od108, .func (PySem.W.fnOf "law" "law" (defArgs s_law) (defBody s_law) (defScope s_law) .none kV108 dc108 pm108 an108 cd108 ct108), sl108⟩)
    (c108 : PySem.W.codeIn K cd108 "law" = true)
    (k108 : PySem.W.keepIn K (.ref f108) = true)
    (gcSide : PySem.W.nsIn K mainGlobals "Side" = some (some (.ref CSide)))
    (gcClock : PySem.W.nsIn K mainGlobals "Clock" = some (some (.ref CClock)))
    (a114 : PySem.W.findIn K (.ref CSide) "begin_stage" = some (some (.ref f114)))
    (i114 : PySem.W.isFn K (.ref f114) = true)
    (l114 : K.lookup f114 = some ⟨oc114, od114, .func (PySem.W.fnOf "begin_stage" "Side.begin_stage" (defArgs s_Side_begin_stage) (defBody s_Side_begin_stage) (defScope s_Side_begin_stage) .none kV114 dc114 pm114 an114 cd114 ct114), sl114⟩)
    (c114 : PySem.W.codeIn K cd114 "Side.begin_stage" = true)
    (k114 : PySem.W.keepIn K (.ref f114) = true)
    (a119 : PySem.W.findIn K (.ref CSide) "has_fallen" = some (some (.ref f119)))
    (i119 : PySem.W.isFn K (.ref f119) = true)
    (l119 : K.lookup f119 = some ⟨oc119, od119, .func (PySem.W.fnOf "has_fallen" "Side.has_fallen" (defArgs s_Side_has_fallen) (defBody s_Side_has_fallen) (defScope s_Side_has_fallen) .none kV119 dc119 pm119 an119 cd119 ct119), sl119⟩)
    (c119 : PySem.W.codeIn K cd119 "Side.has_fallen" = true)
    (k119 : PySem.W.keepIn K (.ref f119) = true)
    (a124 : PySem.W.findIn K (.ref CSide) "pass_ticks" = some (some (.ref f124)))
    (i124 : PySem.W.isFn K (.ref f124) = true)
    (l124 : K.lookup f124 = some ⟨oc124, od124, .func (PySem.W.fnOf "pass_ticks" "Side.pass_ticks" (defArgs s_Side_pass_ticks) (defBody s_Side_pass_ticks) (defScope s_Side_pass_ticks) .none kV124 dc124 pm124 an124 cd124 ct124), sl124⟩)
    (c124 : PySem.W.codeIn K cd124 "Side.pass_ticks" = true)
    (k124 : PySem.W.keepIn K (.ref f124) = true)
    (a129 : PySem.W.findIn K (.ref CSide) "pass_until_empty" = some (some (.ref f129)))
    (i129 : PySem.W.isFn K (.ref f129) = true)
    (l129 : K.lookup f129 = some ⟨oc129, od129, .func (PySem.W.fnOf "pass_until_empty" "Side.pass_until_empty" (defArgs s_Side_pass_until_empty) (defBody s_Side_pass_until_empty) (defScope s_Side_pass_until_empty) .none kV129 dc129 pm129 an129 cd129 ct129), sl129⟩)
    (c129 : PySem.W.codeIn K cd129 "Side.pass_until_empty" = true)
    (k129 : PySem.W.keepIn K (.ref f129) = true)
    (a134 : PySem.W.findIn K (.ref CSide) "go_on_if_possible" = some (some (.ref f134)))
    (i134 : PySem.W.isFn K (.ref f134) = true)
    (l134 : K.lookup f134 = some ⟨oc134, od134, .func (PySem.W.fnOf "go_on_if_possible" "Side.go_on_if_possible" (defArgs s_Side_go_on_if_possible) (defBody s_Side_go_on_if_possible) (defScope s_Side_go_on_if_possible) .none kV134 dc134 pm134 an134 cd134 ct134), sl134⟩)
    (c134 : PySem.W.codeIn K cd134 "Side.go_on_if_possible" = true)
    (k134 : PySem.W.keepIn K (.ref f134) = true)
    (a139 : PySem.W.findIn K (.ref CSide) "make_move" = some (some (.ref f139)))
    (i139 : PySem.W.isFn K (.ref f139) = true)
    (l139 : K.lookup f139 = some ⟨oc139, od139, .func (PySem.W.fnOf "make_move" "Side.make_move" (defArgs s_Side_make_move) (defBody s_Side_make_move) (defScope s_Side_make_move) .none kV139 dc139 pm139 an139 cd139 ct139), sl139⟩)
    (c139 : PySem.W.codeIn K cd139 "Side.make_move" = true)
    (k139 : PySem.W.keepIn K (.ref f139) = true)
    (a144 : PySem.W.findIn K (.ref CSide) "count_move_in_stage" = some (some (.ref f144)))
    (i144 : PySem.W.isFn K (.ref f144) = true)
    (l144 : K.lookup f144 = some ⟨oc144, od144, .func (PySem.W.fnOf "count_move_in_stage" "Side.count_move_in_stage" (defArgs s_Side_count_move_in_stage) (defBody s_Side_count_move_in_stage) (defScope s_Side_count_move_in_stage) .none kV144 dc144 pm144 an144 cd144 ct144), sl144⟩)
    (c144 : PySem.W.codeIn K cd144 "Side.count_move_in_stage" = true)
    (k144 : PySem.W.keepIn K (.ref f144) = true)
    (a149 : PySem.W.findIn K (.ref CSide) "put_right" = some (some (.ref f149)))
    (i149 : PySem.W.isFn K (.ref f149) = true)
    (l149 : K.lookup f149 = some ⟨oc149, od149, .func (PySem.W.fnOf "put_right" "Side.put_right" (defArgs s_Side_put_right) (defBody s_Side_put_right) (defScope s_Side_put_right) .none kV149 dc149 pm149 an149 cd149 ct149), sl149⟩)
    (c149 : PySem.W.codeIn K cd149 "Side.put_right" = true)
    (k149 : PySem.W.keepIn K (.ref f149) = true)
    (a154 : PySem.W.findIn K (.ref CSide) "told" = some (some (.ref f154)))
    (i154 : PySem.W.isFn K (.ref f154) = true)
    (l154 : K.lookup f154 = some ⟨oc154, od154, .func (PySem.W.fnOf "told" "Side.told" (defArgs s_Side_told) (defBody s_Side_told) (defScope s_Side_told) .none kV154 dc154 pm154 an154 cd154 ct154), sl154⟩)
    (c154 : PySem.W.codeIn K cd154 "Side.told" = true)
    (k154 : PySem.W.keepIn K (.ref f154) = true)
    (a159 : PySem.W.findIn K (.ref CClock) "refuse_if_over" = some (some (.ref f159)))
    (i159 : PySem.W.isFn K (.ref f159) = true)
    (l159 : K.lookup f159 = some ⟨oc159, od159, .func (PySem.W.fnOf "refuse_if_over" "Clock.refuse_if_over" (defArgs s_Clock_refuse_if_over) (defBody s_Clock_refuse_if_over) (defScope s_Clock_refuse_if_over) .none kV159 dc159 pm159 an159 cd159 ct159), sl159⟩)
    (c159 : PySem.W.codeIn K cd159 "Clock.refuse_if_over" = true)
    (k159 : PySem.W.keepIn K (.ref f159) = true)
    (a164 : PySem.W.findIn K (.ref CClock) "refuse_if_running" = some (some (.ref f164)))
    (i164 : PySem.W.isFn K (.ref f164) = true)
    (l164 : K.lookup f164 = some ⟨oc164, od164, .func (PySem.W.fnOf "refuse_if_running" "Clock.refuse_if_running" (defArgs s_Clock_refuse_if_running) (defBody s_Clock_refuse_if_running) (defScope s_Clock_refuse_if_running) .none kV164 dc164 pm164 an164 cd164 ct164), sl164⟩)
    (c164 : PySem.W.codeIn K cd164 "Clock.refuse_if_running" = true)
    (k164 : PySem.W.keepIn K (.ref f164) = true)
    (a169 : PySem.W.findIn K (.ref CClock) "refuse_if_still" = some (some (.ref f169)))
    (i169 : PySem.W.isFn K (.ref f169) = true)
    (l169 : K.lookup f169 = some ⟨oc169, od169, .func (PySem.W.fnOf "refuse_if_still" "Clock.refuse_if_still" (defArgs s_Clock_refuse_if_still) (defBody s_Clock_refuse_if_still) (defScope s_Clock_refuse_if_still) .none kV169 dc169 pm169 an169 cd169 ct169), sl169⟩)
    (c169 : PySem.W.codeIn K cd169 "Clock.refuse_if_still" = true)
    (k169 : PySem.W.keepIn K (.ref f169) = true)
    (a174 : PySem.W.findIn K (.ref CClock) "start" = some (some (.ref f174)))
    (i174 : PySem.W.isFn K (.ref f174) = true)
    (l174 : K.lookup f174 = some ⟨oc174, od174, .func (PySem.W.fnOf "start" "Clock.start" (defArgs s_Clock_start) (defBody s_Clock_start) (defScope s_Clock_start) .none kV174 dc174 pm174 an174 cd174 ct174), sl174⟩)
    (c174 : PySem.W.codeIn K cd174 "Clock.start" = true)
    (k174 : PySem.W.keepIn K (.ref f174) = true)
    (a179 : PySem.W.findIn K (.ref CClock) "stop" = some (some (.ref f179)))
    (i179 : PySem.W.isFn K (.ref f179) = true)
    (l179 : K.lookup f179 = some ⟨oc179, od179, .func (PySem.W.fnOf "stop" "Clock.stop" (defArgs s_Clock_stop) (defBody s_Clock_stop) (defScope s_Clock_stop) .none kV179 dc179 pm179 an179 cd179 ct179), sl179⟩)
    (c179 : PySem.W.codeIn K cd179 "Clock.stop" = true)
    (k179 : PySem.W.keepIn K (.ref f179) = true)
    (a184 : PySem.W.findIn K (.ref CClock) "go" = some (some (.ref f184)))
    (i184 : PySem.W.isFn K (.ref f184) = true)
    (l184 : K.lookup f184 = some ⟨oc184, od184, .func (PySem.W.fnOf "go" "Clock.go" (defArgs s_Clock_go) (defBody s_Clock_go) (defScope s_Clock_go) .none kV184 dc184 pm184 an184 cd184 ct184), sl184⟩)
    (c184 : PySem.W.codeIn K cd184 "Clock.go" = true)
    (k184 : PySem.W.keepIn K (.ref f184) = true)
    (a189 : PySem.W.findIn K (.ref CClock) "press" = some (some (.ref f189)))
    (i189 : PySem.W.isFn K (.ref f189) = true)
    (l189 : K.lookup f189 = some ⟨oc189, od189, .func (PySem.W.fnOf "press" "Clock.press" (defArgs s_Clock_press) (defBody s_Clock_press) (defScope s_Clock_press) .none kV189 dc189 pm189 an189 cd189 ct189), sl189⟩)
    (c189 : PySem.W.codeIn K cd189 "Clock.press" = true)
    (k189 : PySem.W.keepIn K (.ref f189) = true)
    (a194 : PySem.W.findIn K (.ref CClock) "give" = some (some (.ref f194)))
    (i194 : PySem.W.isFn K (.ref f194) = true)
    (l194 : K.lookup f194 = some ⟨oc194, od194, .func (PySem.W.fnOf "give" "Clock.give" (defArgs s_Clock_give) (defBody s_Clock_give) (defScope s_Clock_give) .none kV194 dc194 pm194 an194 cd194 ct194), sl194⟩)
    (c194 : PySem.W.codeIn K cd194 "Clock.give" = true)
    (k194 : PySem.W.keepIn K (.ref f194) = true)
    (a199 : PySem.W.findIn K (.ref CClock) "state" = some (some (.ref f199)))
    (i199 : PySem.W.isFn K (.ref f199) = true)
    (l199 : K.lookup f199 = some ⟨oc199, od199, .func (PySem.W.fnOf "state" "Clock.state" (defArgs s_Clock_state) (defBody s_Clock_state) (defScope s_Clock_state) .none kV199 dc199 pm199 an199 cd199 ct199), sl199⟩)
    (c199 : PySem.W.codeIn K cd199 "Clock.state" = true)
    (k199 : PySem.W.keepIn K (.ref f199) = true)
    (a204 : PySem.W.findIn K (.ref CClock) "game" = some (some (.ref f204)))
    (i204 : PySem.W.isFn K (.ref f204) = true)
    (l204 : K.lookup f204 = some ⟨oc204, od204, .func (PySem.W.fnOf "game" "Clock.game" (defArgs s_Clock_game) (defBody s_Clock_game) (defScope s_Clock_game) .none kV204 dc204 pm204 an204 cd204 ct204), sl204⟩)
    (c204 : PySem.W.codeIn K cd204 "Clock.game" = true)
    (k204 : PySem.W.keepIn K (.ref f204) = true)
    (a209 : PySem.W.findIn K (.ref CSide) "__init__" = some (some (.ref f209)))
    (i209 : PySem.W.isFn K (.ref f209) = true)
    (l209 : K.lookup f209 = some ⟨oc209, od209, .func (PySem.W.fnOf "__init__" "Side.__init__" (defArgs s_Side_init) (defBody s_Side_init) (defScope s_Side_init) .none kV209 dc209 pm209 an209 cd209 ct209), sl209⟩)
    (c209 : PySem.W.codeIn K cd209 "Side.__init__" = true)
    (k209 : PySem.W.keepIn K (.ref f209) = true)
    (mk209 : PySem.W.makesIn K CSide = true)
    (kc209 : PySem.W.keepIn K (.ref CSide) = true)
    (a216 : PySem.W.findIn K (.ref CClock) "__init__" = some (some (.ref f216)))
    (i216 : PySem.W.isFn K (.ref f216) = true)
    (l216 : K.lookup f216 = some ⟨oc216, od216, .func (PySem.W.fnOf "__init__" "Clock.__init__" (defArgs s_Clock_init) (defBody s_Clock_init) (defScope s_Clock_init) .none kV216 dc216 pm216 an216 cd216 ct216), sl216⟩)
    (c216 : PySem.W.codeIn K cd216 "Clock.__init__" = true)
    (k216 : PySem.W.keepIn K (.ref f216) = true)
    (mk216 : PySem.W.makesIn K CClock = true)
    (kc216 : PySem.W.keepIn K (.ref CClock) = true)
    (pgSide : PySem.W.plainGet K CSide Str.empty = true)
    (hdSide : PySem.W.hasDictIn K CSide = true)
    (poSide : PySem.W.plainOver K CSide = true)
    (saSide : PySem.W.findIn K (.ref CSide) "__setattr__" = some (some (.builtin "object.__setattr__")))
    (naSidestages : PySem.W.findIn K (.ref CSide) "stages" = some none)
    (naSidenumber : PySem.W.findIn K (.ref CSide) "number" = some none)
    (naSidemoves_in_stage : PySem.W.findIn K (.ref CSide) "moves_in_stage" = some none)
    (naSideleft : PySem.W.findIn K (.ref CSide) "left" = some none)
    (naSideperiods : PySem.W.findIn K (.ref CSide) "periods" = some none)
    (naSidemoves : PySem.W.findIn K (.ref CSide) "moves" = some none)
    (naSidepassed : PySem.W.findIn K (.ref CSide) "passed" = some none)
    (pgClock : PySem.W.plainGet K CClock Str.empty = true)
    (hdClock : PySem.W.hasDictIn K CClock = true)
    (poClock : PySem.W.plainOver K CClock = true)
    (saClock : PySem.W.findIn K (.ref CClock) "__setattr__" = some (some (.builtin "object.__setattr__")))
    (naClocksides : PySem.W.findIn K (.ref CClock) "sides" = some none)
    (naClockturn : PySem.W.findIn K (.ref CClock) "turn" = some none)
    (naClockrunning : PySem.W.findIn K (.ref CClock) "running" = some none)
    (naClockfallen : PySem.W.findIn K (.ref CClock) "fallen" = some none)
    (naClockpassed : PySem.W.findIn K (.ref CClock) "passed" = some none)
    (gxClockError : PySem.W.nsIn K mainGlobals "ClockError" = some (some (.ref XClockError)))
    (exClockError : PySem.W.excIn K XClockError excMro "ValueError.__new__" = true)
    (gaClockError : PySem.W.findIn K (.ref XClockError) "__getattribute__" = some (some (.builtin "BaseException.__getattribute__")))
    (gtClockError : PySem.W.findIn K (.ref XClockError) "__getattr__" = some none)
    (glClockError : PySem.W.findIn K (.ref XClockError) "__class__" = some (some (.builtin "object.__class__")))
    (goClockError : PySem.W.mroIn K XClockError (.type "object") = some true)
    (gbClockError : PySem.W.subIn K (.ref XClockError) (.type "BaseException") = some true)
    (gxBadStages : PySem.W.nsIn K mainGlobals "BadStages" = some (some (.ref XBadStages)))
    (exBadStages : PySem.W.excIn K XBadStages excMro "ValueError.__new__" = true)
    (gaBadStages : PySem.W.findIn K (.ref XBadStages) "__getattribute__" = some (some (.builtin "BaseException.__getattribute__")))
    (gtBadStages : PySem.W.findIn K (.ref XBadStages) "__getattr__" = some none)
    (glBadStages : PySem.W.findIn K (.ref XBadStages) "__class__" = some (some (.builtin "object.__class__")))
    (goBadStages : PySem.W.mroIn K XBadStages (.type "object") = some true)
    (gbBadStages : PySem.W.subIn K (.ref XBadStages) (.type "BaseException") = some true)
    (gxBadTicks : PySem.W.nsIn K mainGlobals "BadTicks" = some (some (.ref XBadTicks)))
    (exBadTicks : PySem.W.excIn K XBadTicks excMro "ValueError.__new__" = true)
    (gaBadTicks : PySem.W.findIn K (.ref XBadTicks) "__getattribute__" = some (some (.builtin "BaseException.__getattribute__")))
    (gtBadTicks : PySem.W.findIn K (.ref XBadTicks) "__getattr__" = some none)
    (glBadTicks : PySem.W.findIn K (.ref XBadTicks) "__class__" = some (some (.builtin "object.__class__")))
    (goBadTicks : PySem.W.mroIn K XBadTicks (.type "object") = some true)
    (gbBadTicks : PySem.W.subIn K (.ref XBadTicks) (.type "BaseException") = some true)
    (gxNotNow : PySem.W.nsIn K mainGlobals "NotNow" = some (some (.ref XNotNow)))
    (exNotNow : PySem.W.excIn K XNotNow excMro "ValueError.__new__" = true)
    (gaNotNow : PySem.W.findIn K (.ref XNotNow) "__getattribute__" = some (some (.builtin "BaseException.__getattribute__")))
    (gtNotNow : PySem.W.findIn K (.ref XNotNow) "__getattr__" = some none)
    (glNotNow : PySem.W.findIn K (.ref XNotNow) "__class__" = some (some (.builtin "object.__class__")))
    (goNotNow : PySem.W.mroIn K XNotNow (.type "object") = some true)
    (gbNotNow : PySem.W.subIn K (.ref XNotNow) (.type "BaseException") = some true)
    (gxOver : PySem.W.nsIn K mainGlobals "Over" = some (some (.ref XOver)))
    (exOver : PySem.W.excIn K XOver excMro "ValueError.__new__" = true)
    (gaOver : PySem.W.findIn K (.ref XOver) "__getattribute__" = some (some (.builtin "BaseException.__getattribute__")))
    (gtOver : PySem.W.findIn K (.ref XOver) "__getattr__" = some none)
    (glOver : PySem.W.findIn K (.ref XOver) "__class__" = some (some (.builtin "object.__class__")))
    (goOver : PySem.W.mroIn K XOver (.type "object") = some true)
    (gbOver : PySem.W.subIn K (.ref XOver) (.type "BaseException") = some true)
    (ccMOST_STAGES : PySem.W.nsIn K mainGlobals "MOST_STAGES" = some (some (.int 5 tMOST_STAGES)))
    (ccMOST_MOVES : PySem.W.nsIn K mainGlobals "MOST_MOVES" = some (some (.int 200 tMOST_MOVES)))
    (ccMOST_PERIODS : PySem.W.nsIn K mainGlobals "MOST_PERIODS" = some (some (.int 200 tMOST_PERIODS)))
    (ccMOST_TICKS : PySem.W.nsIn K mainGlobals "MOST_TICKS" = some (some (.int 1000000 tMOST_TICKS)))
    (ccMOST_EXTRA : PySem.W.nsIn K mainGlobals "MOST_EXTRA" = some (some (.int 1000000 tMOST_EXTRA)))
    (ccLEAST_LEFT : PySem.W.nsIn K mainGlobals "LEAST_LEFT" = some (some (.int 1 tLEAST_LEFT)))
    (ccMOST_LEFT : PySem.W.nsIn K mainGlobals "MOST_LEFT" = some (some (.int 10000000 tMOST_LEFT)))
    (nnlen : PySem.W.nsIn K mainGlobals "len" = some none)
    (nnisinstance : PySem.W.nsIn K mainGlobals "isinstance" = some none)
    (nnrange : PySem.W.nsIn K mainGlobals "range" = some none)
    (nnenumerate : PySem.W.nsIn K mainGlobals "enumerate" = some none)
    (nntuple : PySem.W.nsIn K mainGlobals "tuple" = some none)
    (nnlist : PySem.W.nsIn K mainGlobals "list" = some none)
    (nnint : PySem.W.nsIn K mainGlobals "int" = some none)
    (nnbool : PySem.W.nsIn K mainGlobals "bool" = some none)
    (nnValueError : PySem.W.nsIn K mainGlobals "ValueError" = some none)
    (nnmax : PySem.W.nsIn K mainGlobals "max" = some none)
    (nnmin : PySem.W.nsIn K mainGlobals "min" = some none)
    (nnstr : PySem.W.nsIn K mainGlobals "str" = some none)
    (nnall : PySem.W.nsIn K mainGlobals "all" = some none)
    (gW : PySem.W.nsIn K mainGlobals "WAYS" = some (some (.ref AW)))
    (lW : K.lookup AW = some ⟨.type "tuple", odW, .seq #[.str "plain" w1, .str "add" w2, .str "back" w3, .str "wait" w4] nW, slW⟩)
    (kt0 : PySem.W.kitOne K (.type "int") (.type "bool") = some false)
    (kt1 : PySem.W.kitOne K (.ref XBadTicks) (.ref XBadTicks) = some true)
    (kt2 : PySem.W.kitOne K (.ref XBadTicks) (.ref XNotNow) = some false)
    (kt3 : PySem.W.kitOne K (.ref XBadTicks) (.ref XOver) = some false)
    (kt4 : PySem.W.kitOne K (.ref XBadTicks) (.ref XBadStages) = some false)
    (kt5 : PySem.W.kitOne K (.ref XBadTicks) (.type "ValueError") = some true)
    (kt6 : PySem.W.kitOne K (.ref XNotNow) (.ref XBadTicks) = some false)
    (kt7 : PySem.W.kitOne K (.ref XNotNow) (.ref XNotNow) = some true)
    (kt8 : PySem.W.kitOne K (.ref XNotNow) (.ref XOver) = some false)
    (kt9 : PySem.W.kitOne K (.ref XNotNow) (.ref XBadStages) = some false)
    (kt10 : PySem.W.kitOne K (.ref XNotNow) (.type "ValueError") = some true)
    (kt11 : PySem.W.kitOne K (.ref XOver) (.ref XBadTicks) = some false)
    (kt12 : PySem.W.kitOne K (.ref XOver) (.ref XNotNow) = some false)
    (kt13 : PySem.W.kitOne K (.ref XOver) (.ref XOver) = some true)
    (kt14 : PySem.W.kitOne K (.ref XOver) (.ref XBadStages) = some false)
    (kt15 : PySem.W.kitOne K (.ref XOver) (.type "ValueError") = some true)
    (kt16 : PySem.W.kitOne K (.type "tuple") (.type "bool") = some false)
    (kt17 : PySem.W.kitOne K (.type "str") (.type "bool") = some false)
    (kt18 : PySem.W.kitOne K (.type "NoneType") (.type "bool") = some false)
    (em0 : PySem.W.exmOne K (.ref XBadTicks) (.ref XClockError) = some true)
    (em1 : PySem.W.exmOne K (.ref XNotNow) (.ref XClockError) = some true)
    (em2 : PySem.W.exmOne K (.ref XOver) (.ref XClockError) = some true) :
    ∃ fd : FuncData, (∀ (s : Shared) (v : Value), BindsTo s fd ⟨[v], []⟩ [("_law_script", v)]) ∧ ∀ base : Heap, K.In base → base.Ns mainGlobals mg → FnOk l.prog w K mg base CX0 14 fa fd ["_law_script"] (spLaw K) := by
  have e := hfa.symm.trans (PySem.W.mg_of X G a108)
  cases e
  have T : Txt K mg ⟨CSide, CClock, XClockError, XBadStages, XBadTicks, XNotNow, XOver, AW⟩ := ⟨⟨⟨_, _, PySem.W.mg_of X G a0, fun_mk (st := s_is_whole_within) l0 c0 k0, (fun_mk (st := s_is_whole_within) l0 c0 k0).binds fun _ _ _ _ _ _ us hl => match us, hl with | [_, _, _], _ => rfl⟩⟩,
    ⟨⟨_, _, PySem.W.mg_of X G a4, fun_mk (st := s_is_good_main) l4 c4 k4, (fun_mk (st := s_is_good_main) l4 c4 k4).binds fun _ _ _ _ _ _ us hl => match us, hl with | [_], _ => rfl⟩⟩,
    ⟨⟨_, _, PySem.W.mg_of X G a8, fun_mk (st := s_is_good_over) l8 c8 k8, (fun_mk (st := s_is_good_over) l8 c8 k8).binds fun _ _ _ _ _ _ us hl => match us, hl with | [_], _ => rfl⟩⟩,
    ⟨⟨_, _, PySem.W.mg_of X G a12, fun_mk (st := s_is_main) l12 c12 k12, (fun_mk (st := s_is_main) l12 c12 k12).binds fun _ _ _ _ _ _ us hl => match us, hl with | [_], _ => rfl⟩⟩,
    ⟨⟨_, _, PySem.W.mg_of X G a16, fun_mk (st := s_is_over) l16 c16 k16, (fun_mk (st := s_is_over) l16 c16 k16).binds fun _ _ _ _ _ _ us hl => match us, hl with | [_], _ => rfl⟩⟩,
    ⟨⟨_, _, PySem.W.mg_of X G a20, fun_mk (st := s_is_endless) l20 c20 k20, (fun_mk (st := s_is_endless) l20 c20 k20).binds fun _ _ _ _ _ _ us hl => match us, hl with | [_], _ => rfl⟩⟩,
    ⟨⟨_, _, PySem.W.mg_of X G a24, fun_mk (st := s_ticks_of) l24 c24 k24, (fun_mk (st := s_ticks_of) l24 c24 k24).binds fun _ _ _ _ _ _ us hl => match us, hl with | [_], _ => rfl⟩⟩,
    ⟨⟨_, _, PySem.W.mg_of X G a28, fun_mk (st := s_is_good_stage) l28 c28 k28, (fun_mk (st := s_is_good_stage) l28 c28 k28).binds fun _ _ _ _ _ _ us hl => match us, hl with | [_], _ => rfl⟩⟩,
    ⟨⟨_, _, PySem.W.mg_of X G a32, fun_mk (st := s_may_stand_behind) l32 c32 k32, (fun_mk (st := s_may_stand_behind) l32 c32 k32).binds fun _ _ _ _ _ _ us hl => match us, hl with | [_, _], _ => rfl⟩⟩,
    ⟨⟨_, _, PySem.W.mg_of X G a36, fun_mk (st := s_check_each) l36 c36 k36, (fun_mk (st := s_check_each) l36 c36 k36).binds fun _ _ _ _ _ _ us hl => match us, hl with | [_], _ => rfl⟩⟩,
    ⟨⟨_, _, PySem.W.mg_of X G a40, fun_mk (st := s_check_order) l40 c40 k40, (fun_mk (st := s_check_order) l40 c40 k40).binds fun _ _ _ _ _ _ us hl => match us, hl with | [_], _ => rfl⟩⟩,
    ⟨⟨_, _, PySem.W.mg_of X G a44, fun_mk (st := s_read_stages) l44 c44 k44, (fun_mk (st := s_read_stages) l44 c44 k44).binds fun _ _ _ _ _ _ us hl => match us, hl with | [_], _ => rfl⟩⟩,
    ⟨⟨_, _, PySem.W.mg_of X G a48, fun_mk (st := s_ticks_not_counted) l48 c48 k48, (fun_mk (st := s_ticks_not_counted) l48 c48 k48).binds fun _ _ _ _ _ _ us hl => match us, hl with | [_, _], _ => rfl⟩⟩,
    ⟨⟨_, _, PySem.W.mg_of X G a52, fun_mk (st := s_ticks_for_move) l52 c52 k52, (fun_mk (st := s_ticks_for_move) l52 c52 k52).binds fun _ _ _ _ _ _ us hl => match us, hl with | [_, _], _ => rfl⟩⟩,
    ⟨⟨_, _, PySem.W.mg_of X G a56, fun_mk (st := s_law_cell) l56 c56 k56, (fun_mk (st := s_law_cell) l56 c56 k56).binds fun _ _ _ _ _ _ us hl => match us, hl with | [_, _], _ => rfl⟩⟩,
    ⟨⟨_, _, PySem.W.mg_of X G a60, fun_mk (st := s_law_mix) l60 c60 k60, (fun_mk (st := s_law_mix) l60 c60 k60).binds fun _ _ _ _ _ _ us hl => match us, hl with | [_, _], _ => rfl⟩⟩,
    ⟨⟨_, _, PySem.W.mg_of X G a64, fun_mk (st := s_law_stages) l64 c64 k64, (fun_mk (st := s_law_stages) l64 c64 k64).binds fun _ _ _ _ _ _ us hl => match us, hl with | [_, _], _ => rfl⟩⟩,
    ⟨⟨_, _, PySem.W.mg_of X G a68, fun_mk (st := s_law_deeds) l68 c68 k68, (fun_mk (st := s_law_deeds) l68 c68 k68).binds fun _ _ _ _ _ _ us hl => match us, hl with | [_, _, _], _ => rfl⟩⟩,
    ⟨⟨_, _, PySem.W.mg_of X G a72, fun_mk (st := s_law_new) l72 c72 k72, (fun_mk (st := s_law_new) l72 c72 k72).binds fun _ _ _ _ _ _ us hl => match us, hl with | [_], _ => rfl⟩⟩,
    ⟨⟨_, _, PySem.W.mg_of X G a76, fun_mk (st := s_law_next) l76 c76 k76, (fun_mk (st := s_law_next) l76 c76 k76).binds fun _ _ _ _ _ _ us hl => match us, hl with | [_, _], _ => rfl⟩⟩,
    ⟨⟨_, _, PySem.W.mg_of X G a80, fun_mk (st := s_law_tick) l80 c80 k80, (fun_mk (st := s_law_tick) l80 c80 k80).binds fun _ _ _ _ _ _ us hl => match us, hl with | [_], _ => rfl⟩⟩,
    ⟨⟨_, _, PySem.W.mg_of X G a84, fun_mk (st := s_law_press) l84 c84 k84, (fun_mk (st := s_law_press) l84 c84 k84).binds fun _ _ _ _ _ _ us hl => match us, hl with | [_], _ => rfl⟩⟩,
    ⟨⟨_, _, PySem.W.mg_of X G a88, fun_mk (st := s_law_due) l88 c88 k88, (fun_mk (st := s_law_due) l88 c88 k88).binds fun _ _ _ _ _ _ us hl => match us, hl with | [_, _, _], _ => rfl⟩⟩,
    ⟨⟨_, _, PySem.W.mg_of X G a92, fun_mk (st := s_law_state) l92 c92 k92, (fun_mk (st := s_law_state) l92 c92 k92).binds fun _ _ _ _ _ _ us hl => match us, hl with | [_], _ => rfl⟩⟩,
    ⟨⟨_, _, PySem.W.mg_of X G a96, fun_mk (st := s_law_told) l96 c96 k96, (fun_mk (st := s_law_told) l96 c96 k96).binds fun _ _ _ _ _ _ us hl => match us, hl with | [_, _, _], _ => rfl⟩⟩,
    ⟨⟨_, _, PySem.W.mg_of X G a100, fun_mk (st := s_law_shown) l100 c100 k100, (fun_mk (st := s_law_shown) l100 c100 k100).binds fun _ _ _ _ _ _ us hl => match us, hl with | [_], _ => rfl⟩⟩,
    ⟨⟨_, _, PySem.W.mg_of X G a104, fun_mk (st := s_law_same) l104 c104 k104, (fun_mk (st := s_law_same) l104 c104 k104).binds fun _ _ _ _ _ _ us hl => match us, hl with | [_, _], _ => rfl⟩⟩,
    ⟨⟨_, _, ⟨a114, i114, k114⟩, fun_mk (st := s_Side_begin_stage) l114 c114 k114, (fun_mk (st := s_Side_begin_stage) l114 c114 k114).binds fun _ _ _ _ _ _ us hl => match us, hl with | [_, _], _ => rfl⟩⟩,
    ⟨⟨_, _, ⟨a119, i119, k119⟩, fun_mk (st := s_Side_has_fallen) l119 c119 k119, (fun_mk (st := s_Side_has_fallen) l119 c119 k119).binds fun _ _ _ _ _ _ us hl => match us, hl with | [_], _ => rfl⟩⟩,
    ⟨⟨_, _, ⟨a124, i124, k124⟩, fun_mk (st := s_Side_pass_ticks) l124 c124 k124, (fun_mk (st := s_Side_pass_ticks) l124 c124 k124).binds fun _ _ _ _ _ _ us hl => match us, hl with | [_, _], _ => rfl⟩⟩,
    ⟨⟨_, _, ⟨a129, i129, k129⟩, fun_mk (st := s_Side_pass_until_empty) l129 c129 k129, (fun_mk (st := s_Side_pass_until_empty) l129 c129 k129).binds fun _ _ _ _ _ _ us hl => match us, hl with | [_, _], _ => rfl⟩⟩,
    ⟨⟨_, _, ⟨a134, i134, k134⟩, fun_mk (st := s_Side_go_on_if_possible) l134 c134 k134, (fun_mk (st := s_Side_go_on_if_possible) l134 c134 k134).binds fun _ _ _ _ _ _ us hl => match us, hl with | [_], _ => rfl⟩⟩,
    ⟨⟨_, _, ⟨a139, i139, k139⟩, fun_mk (st := s_Side_make_move) l139 c139 k139, (fun_mk (st := s_Side_make_move) l139 c139 k139).binds fun _ _ _ _ _ _ us hl => match us, hl with | [_], _ => rfl⟩⟩,
    ⟨⟨_, _, ⟨a144, i144, k144⟩, fun_mk (st := s_Side_count_move_in_stage) l144 c144 k144, (fun_mk (st := s_Side_count_move_in_stage) l144 c144 k144).binds fun _ _ _ _ _ _ us hl => match us, hl with | [_, _], _ => rfl⟩⟩,
    ⟨⟨_, _, ⟨a149, i149, k149⟩, fun_mk (st := s_Side_put_right) l149 c149 k149, (fun_mk (st := s_Side_put_right) l149 c149 k149).binds fun _ _ _ _ _ _ us hl => match us, hl with | [_, _], _ => rfl⟩⟩,
    ⟨⟨_, _, ⟨a154, i154, k154⟩, fun_mk (st := s_Side_told) l154 c154 k154, (fun_mk (st := s_Side_told) l154 c154 k154).binds fun _ _ _ _ _ _ us hl => match us, hl with | [_], _ => rfl⟩⟩,
    ⟨⟨_, _, ⟨a159, i159, k159⟩, fun_mk (st := s_Clock_refuse_if_over) l159 c159 k159, (fun_mk (st := s_Clock_refuse_if_over) l159 c159 k159).binds fun _ _ _ _ _ _ us hl => match us, hl with | [_], _ => rfl⟩⟩,
    ⟨⟨_, _, ⟨a164, i164, k164⟩, fun_mk (st := s_Clock_refuse_if_running) l164 c164 k164, (fun_mk (st := s_Clock_refuse_if_running) l164 c164 k164).binds fun _ _ _ _ _ _ us hl => match us, hl with | [_], _ => rfl⟩⟩,
    ⟨⟨_, _, ⟨a169, i169, k169⟩, fun_mk (st := s_Clock_refuse_if_still) l169 c169 k169, (fun_mk (st := s_Clock_refuse_if_still) l169 c169 k169).binds fun _ _ _ _ _ _ us hl => match us, hl with | [_], _ => rfl⟩⟩,
    ⟨⟨_, _, ⟨a174, i174, k174⟩, fun_mk (st := s_Clock_start) l174 c174 k174, (fun_mk (st := s_Clock_start) l174 c174 k174).binds fun _ _ _ _ _ _ us hl => match us, hl with | [_], _ => rfl⟩⟩,
    ⟨⟨_, _, ⟨a179, i179, k179⟩, fun_mk (st := s_Clock_stop) l179 c179 k179, (fun_mk (st := s_Clock_stop) l179 c179 k179).binds fun _ _ _ _ _ _ us hl => match us, hl with | [_], _ => rfl⟩⟩,
    ⟨⟨_, _, ⟨a184, i184, k184⟩, fun_mk (st := s_Clock_go) l184 c184 k184, (fun_mk (st := s_Clock_go) l184 c184 k184).binds fun _ _ _ _ _ _ us hl => match us, hl with | [_, _], _ => rfl⟩⟩,
    ⟨⟨_, _, ⟨a189, i189, k189⟩, fun_mk (st := s_Clock_press) l189 c189 k189, (fun_mk (st := s_Clock_press) l189 c189 k189).binds fun _ _ _ _ _ _ us hl => match us, hl with | [_, _], _ => rfl⟩⟩,
    ⟨⟨_, _, ⟨a194, i194, k194⟩, fun_mk (st := s_Clock_give) l194 c194 k194, (fun_mk (st := s_Clock_give) l194 c194 k194).binds fun _ _ _ _ _ _ us hl => match us, hl with | [_, _, _], _ => rfl⟩⟩,
    ⟨⟨_, _, ⟨a199, i199, k199⟩, fun_mk (st := s_Clock_state) l199 c199 k199, (fun_mk (st := s_Clock_state) l199 c199 k199).binds fun _ _ _ _ _ _ us hl => match us, hl with | [_, _], _ => rfl⟩⟩,
    ⟨⟨_, _, ⟨a204, i204, k204⟩, fun_mk (st := s_Clock_game) l204 c204 k204, (fun_mk (st := s_Clock_game) l204 c204 k204).binds fun _ _ _ _ _ _ us hl => match us, hl with | [_], _ => rfl⟩⟩,
    ⟨⟨_, _, ⟨mk209, a209, i209, kc209⟩, fun_mk (st := s_Side_init) l209 c209 k209, (fun_mk (st := s_Side_init) l209 c209 k209).binds fun _ _ _ _ _ _ us hl => match us, hl with | [_, _], _ => rfl⟩⟩,
    ⟨⟨_, _, ⟨mk216, a216, i216, kc216⟩, fun_mk (st := s_Clock_init) l216 c216 k216, (fun_mk (st := s_Clock_init) l216 c216 k216).binds fun _ _ _ _ _ _ us hl => match us, hl with | [_, _], _ => rfl⟩⟩,
    ⟨pgSide, hdSide, poSide, saSide⟩,
    PySem.W.mg_of X G gcSide,
    naSidestages,
    naSidenumber,
    naSidemoves_in_stage,
    naSideleft,
    naSideperiods,
    naSidemoves,
    naSidepassed,
    ⟨pgClock, hdClock, poClock, saClock⟩,
    PySem.W.mg_of X G gcClock,
    naClocksides,
    naClockturn,
    naClockrunning,
    naClockfallen,
    naClockpassed,
    PySem.W.mg_of X G gxClockError,
    ⟨exClockError, gaClockError, gtClockError, glClockError, goClockError, gbClockError⟩,
    PySem.W.mg_of X G gxBadStages,
    ⟨exBadStages, gaBadStages, gtBadStages, glBadStages, goBadStages, gbBadStages⟩,
    PySem.W.mg_of X G gxBadTicks,
    ⟨exBadTicks, gaBadTicks, gtBadTicks, glBadTicks, goBadTicks, gbBadTicks⟩,
    PySem.W.mg_of X G gxNotNow,
    ⟨exNotNow, gaNotNow, gtNotNow, glNotNow, goNotNow, gbNotNow⟩,
    PySem.W.mg_of X G gxOver,
    ⟨exOver, gaOver, gtOver, glOver, goOver, gbOver⟩,
    ⟨_, PySem.W.mg_of X G ccMOST_STAGES⟩,
    ⟨_, PySem.W.mg_of X G ccMOST_MOVES⟩,
    ⟨_, PySem.W.mg_of X G ccMOST_PERIODS⟩,
    ⟨_, PySem.W.mg_of X G ccMOST_TICKS⟩,
    ⟨_, PySem.W.mg_of X G ccMOST_EXTRA⟩,
    ⟨_, PySem.W.mg_of X G ccLEAST_LEFT⟩,
    ⟨_, PySem.W.mg_of X G ccMOST_LEFT⟩,
    PySem.W.mg_none_of X G nnlen,
    PySem.W.mg_none_of X G nnisinstance,
    PySem.W.mg_none_of X G nnrange,
    PySem.W.mg_none_of X G nnenumerate,
    PySem.W.mg_none_of X G nntuple,
    PySem.W.mg_none_of X G nnlist,
    PySem.W.mg_none_of X G nnint,
    PySem.W.mg_none_of X G nnbool,
    PySem.W.mg_none_of X G nnValueError,
    PySem.W.mg_none_of X G nnmax,
    PySem.W.mg_none_of X G nnmin,
    PySem.W.mg_none_of X G nnstr,
    PySem.W.mg_none_of X G nnall,
    PySem.W.mg_of X G gW,
    fun H => ways_of lW,
    kt0,
    kt1,
    kt2,
    kt3,
    kt4,
    kt5,
    kt6,
    kt7,
    kt8,
    kt9,
    kt10,
    kt11,
    kt12,
    kt13,
    kt14,
    kt15,
    kt16,
    kt17,
    kt18,
    em0,
    em1,
    em2⟩
  exact ⟨PySem.W.fnOf "law" "law" (defArgs s_law) (defBody s_law) (defScope s_law) .none kV108 dc108 pm108 an108 cd108 ct108, fun s v => .of_eq rfl, fun base _ _ => ok_law T (fun_mk (st := s_law) l108 c108 k108)⟩
theorem walk {l : PySem.W.OpenLaw} {q : Program} {loose : List Str} {XP : (Str → Option Value) → Heap → Prop} {YP : World → Heap → Prop} {d : DefRec} {K : Params → PySem.W.Frag} (hn : l.most = some 63) (hdf : d.params.defaults = [])
    (hY : ∀ (w : World) (h : Heap), YP w h → (K w.params).In h)
    (F : ∀ (w : World) (mg : Str → Option Value) (fa : Addr) (h : Heap), (K w.params).In h → h.Ns mainGlobals mg → mg d.name = some (.ref fa) →
      ∃ fd : FuncData, (∀ (s : Shared) (u : Value), BindsTo s fd ⟨[u], []⟩ [("_law_script", u)]) ∧ ∀ base : Heap, (K w.params).In base → base.Ns mainGlobals mg → FnOk l.prog w (K w.params) mg base CX0 14 fa fd ["_law_script"] (spLaw (K w.params))) :
    PySem.W.WalkO q loose XP YP l.row.toRowW d [] (fun f vs => PySem.call f vs) :=
  L2.walk_of (n := 63) (k := 14) (x := "_law_script") (CX := fun _ => CX0) (sp := fun w => spLaw (K w.params)) hn (by decide) hdf ⟨rfl, by decide, by decide⟩ hY F (fun _ _ a ns hl _ hS => ⟨a, ns, rfl, hS, hl, fun _ => rfl⟩) fun _ _ _ _ _ z => z
theorem walkX {q : Program} {loose : List Str} {XP : (Str → Option Value) → Heap → Prop} {K : Params → PySem.W.Frag} {as : List Addr} {n t : Nat} {r : PySem.W.RowW} {d : DefRec} {kwd : List (Str × Expr)} {run : Value → List Value → Sem Value} (e : ∀ P, as = (K P).map (·.1))
    (h : PySem.W.WalkO q loose XP (fun w h => (K w.params).In h) r d kwd run) : PySem.W.WalkX q loose XP (PySem.W.X.obsZ as) (PySem.W.X.valZ K n t) r d kwd run :=
  fun w s0 s1 mg mb G y a o pm cd doc dV kV ho hd hcd hD hmg hg args vals as' L hpre hlay hrd hwl hlo => h w s0 s1 mg mb G (PySem.W.InK.keeps w _ _ (PySem.W.X.z_facts e y).2.1 L.keeps) a o pm cd doc dV kV ho hd hcd hD hmg hg args vals as' hpre hlay hrd hwl hlo
end My
open PySem PySem.W PyProof.Rows
namespace My
open PySem.W.Fast
noncomputable section
open PyData (keyHash)
abbrev f0 (n q : Str) (s : Stmt) : Obj := { cls := .none, data := .func { name := n, qualname := q, params := L2.defArgs s, body := .stmts (L2.defBody s), scope := L2.defScope s, globals := 0, closure := [], defaults := .none, kwdefaults := .none } }
abbrev f1 (n q : Str) (s : Stmt) (m : Str) (t c : Nat) : Obj := { cls := .type "function", data := .func { name := n, qualname := q, params := L2.defArgs s, body := .stmts (L2.defBody s), scope := L2.defScope s, globals := 3, closure := [], defaults := .none, kwdefaults := .none, pyModule := .str m t, code := .ref c } }
abbrev co (n q : Str) (t : Nat) (l a v : Int) (r : Nat) (x : Int) (u : Nat) : Obj := { cls := .type "code", data := .fields #[.str n t, .str q (t + 1), .str "/claim/cut.py" (t + 2), .int l 0, .int a 0, .int 0 0, .int 0 0, .int v 0, .ref r, .bool true, .int x 0, .ref (r + 1), .none, .ref (r + 2), .ref (r + 3), .ref (r + 4), .int u 0, .int l 0, .str "/claim/cut.py" (u + 1)] }
abbrev tu (a : Array Value) : Obj := { cls := .type "tuple", data := .seq a }
abbrev nf (a : Array Value) : Obj := { cls := .none, data := .fields a }
abbrev de (P : Params) (x : Str) (t : Nat) (v : Value) : DictEntry := ⟨keyHash P x, .str x t, v⟩
abbrev di (a : Array DictEntry) : Obj := { cls := .type "dict", data := .dict a }
abbrev o0 (P : Params) : Obj := { cls := .type "dict", data := .dict #[de P "__name__" 165 (.str "chessclock.sides" 378), de P "__doc__" 166 .none, de P "__package__" 167 .none, de P "__loader__" 168 (.builtin "__main__.__loader__#opaque"), de P "__spec__" 169 .none, de P "__annotations__" 170 (.ref 6), de P "__builtins__" 171 (.ref 4), de P "__file__" 173 (.str "/claim/cut.py" 172), de P "__cached__" 174 .none, de P "ClockError" 206 (.ref 24), de P "BadStages" 222 (.ref 37), de P "BadTicks" 238 (.ref 49), de P "NotNow" 254 (.ref 61), de P "Over" 270 (.ref 73), de P "MOST_STAGES" 274 (.int 5 273), de P "MOST_MOVES" 276 (.int 200 275), de P "MOST_PERIODS" 278 (.int 200 277), de P "MOST_TICKS" 280 (.int 1000000 279), de P "MOST_EXTRA" 282 (.int 1000000 281), de P "WAYS" 287 (.ref 76), de P "is_whole_within" 296 (.ref 83), de P "is_good_main" 303 (.ref 90), de P "is_good_over" 310 (.ref 97), de P "is_main" 317 (.ref 104), de P "is_over" 324 (.ref 111), de P "is_endless" 331 (.ref 118), de P "ticks_of" 338 (.ref 125), de P "is_good_stage" 345 (.ref 132), de P "may_stand_behind" 353 (.ref 139), de P "check_each" 362 (.ref 146), de P "check_order" 370 (.ref 153), de P "read_stages" 377 (.ref 160), de P "LEAST_LEFT" 381 (.int 1 380), de P "MOST_LEFT" 383 (.int 10000000 382), de P "ticks_not_counted" 391 (.ref 167), de P "ticks_for_move" 399 (.ref 174), de P "Side" 508 (.ref 254)] 37 }
abbrev o1 (_ : Params) : Obj := tu #[.type "ValueError"]
abbrev o2 (_ : Params) : Obj := tu #[]
abbrev o3 (_ : Params) : Obj := { cls := .type "builtin_function_or_method", data := .fields #[.builtin "object.__init_subclass__", .ref 61] }
abbrev o4 (_ : Params) : Obj := nf #[]
abbrev o5 (_ : Params) : Obj := { cls := .type "getset_descriptor", data := .fields #[.str "__dict__" 502, .ref 254, .builtin "function.__dict__", .builtin "function.__dict__#set"] }
abbrev o6 (_ : Params) : Obj := tu #[.str "self" 423, .str "number" 424, .str "stage" 425]
abbrev o7 (_ : Params) : Obj := f0 "is_good_over" "is_good_over" s_is_good_over
abbrev o8 (_ : Params) : Obj := co "read_stages" "read_stages" 371 63 1 3 154 181 375
abbrev o9 (_ : Params) : Obj := f1 "go_on_if_possible" "Side.go_on_if_possible" s_Side_go_on_if_possible "chessclock.sides" 378 222
abbrev o10 (_ : Params) : Obj := tu #[.str "value" 291, .str "least" 292, .str "most" 293]
abbrev o11 (_ : Params) : Obj := f0 "pass_ticks" "Side.pass_ticks" s_Side_pass_ticks
abbrev o12 (_ : Params) : Obj := f1 "is_over" "is_over" s_is_over "chessclock.stages" 271 110
abbrev o13 (P : Params) : Obj := { cls := .type "dict", data := .dict #[de P "__module__" 196 (.str "chessclock.errors" 187), de P "__firstlineno__" 200 (.int 2 199), de P "__static_attributes__" 201 (.ref 22), de P "__weakref__" 203 (.ref 25), de P "__doc__" 204 .none] 3 }
abbrev o14 (_ : Params) : Obj := { cls := .type "builtin_function_or_method", data := .fields #[.builtin "object.__init_subclass__", .ref 37] }
abbrev o15 (_ : Params) : Obj := tu #[.str "later" 349, .str "earlier" 350]
abbrev o16 (_ : Params) : Obj := co "is_main" "is_main" 311 35 1 3 98 181 315
abbrev o17 (_ : Params) : Obj := f1 "ticks_not_counted" "ticks_not_counted" s_ticks_not_counted "chessclock.sides" 378 166
abbrev o18 (_ : Params) : Obj := f0 "check_order" "check_order" s_check_order
abbrev o19 (_ : Params) : Obj := co "pass_until_empty" "Side.pass_until_empty" 445 113 2 3 210 181 452
abbrev o20 (_ : Params) : Obj := tu #[.str "self" 490]
abbrev o21 (_ : Params) : Obj := co "is_good_stage" "is_good_stage" 339 43 1 3 126 181 343
abbrev o22 (_ : Params) : Obj := f1 "begin_stage" "Side.begin_stage" s_Side_begin_stage "chessclock.sides" 378 194
abbrev o23 (_ : Params) : Obj := tu #[.str "stage" 387, .str "passed" 388]
abbrev o24 (_ : Params) : Obj := { cls := .type "builtin_function_or_method", data := .fields #[.builtin "object.__init_subclass__", .ref 49] }
abbrev o25 (_ : Params) : Obj := f1 "is_whole_within" "is_whole_within" s_is_whole_within "chessclock.stages" 271 82
abbrev o26 (_ : Params) : Obj := nf #[.int 84 0, .int 4 0, .ref 187, .int 94 0, .int 4 0, .ref 194, .int 104 0, .int 4 0, .ref 201, .int 107 0, .int 4 0, .ref 208, .int 113 0, .int 4 0, .ref 215, .int 122 0, .int 4 0, .ref 222, .int 131 0, .int 4 0, .ref 229, .int 141 0, .int 4 0, .ref 236, .int 146 0, .int 4 0, .ref 243, .int 151 0, .int 4 0, .ref 250]
abbrev o27 (_ : Params) : Obj := co "put_right" "Side.put_right" 479 146 2 3 238 181 484
abbrev o28 (_ : Params) : Obj := { cls := .type "builtin_function_or_method", data := .fields #[.builtin "object.__init_subclass__", .ref 24] }
abbrev o29 (_ : Params) : Obj := { cls := .type "builtin_function_or_method", data := .fields #[.builtin "object.__init_subclass__", .ref 73] }
abbrev o30 (_ : Params) : Obj := f1 "may_stand_behind" "may_stand_behind" s_may_stand_behind "chessclock.stages" 271 138
abbrev o31 (_ : Params) : Obj := tu #[.str "stage" 321]
abbrev o32 (_ : Params) : Obj := f0 "count_move_in_stage" "Side.count_move_in_stage" s_Side_count_move_in_stage
abbrev o33 (_ : Params) : Obj := tu #[.str "self" 458, .str "stage" 459]
abbrev o34 (_ : Params) : Obj := f0 "ticks_of" "ticks_of" s_ticks_of
abbrev o35 (_ : Params) : Obj := co "__init__" "Side.__init__" 412 84 2 3 182 181 417
abbrev o36 (_ : Params) : Obj := f1 "told" "Side.told" s_Side_told "chessclock.sides" 378 250
abbrev o37 (P : Params) : Obj := { cls := .type "dict", data := .dict #[de P "__module__" 196 (.str "chessclock.errors" 187), de P "__qualname__" 198 (.str "ClockError" 197), de P "__firstlineno__" 200 (.int 2 199), de P "__static_attributes__" 201 (.ref 22)] 4 }
abbrev o38 (_ : Params) : Obj := { cls := .type "code", data := .fields #[.str "BadStages" 209, .str "BadStages" 210, .str "/claim/cut.py" 211, .int 4 0, .int 0 0, .int 0 0, .int 0 0, .int 0 0, .ref 31, .bool false, .int 181 0, .ref 32, .none, .none, .none, .none, .int 212 0, .int 4 0, .str "/claim/cut.py" 213] }
abbrev o39 (_ : Params) : Obj := { cls := .type "builtin_function_or_method", data := .fields #[.builtin "type.__prepare__", .type "type"] }
abbrev o40 (_ : Params) : Obj := { cls := .type "super", data := .fields #[.ref 254, .ref 254, .ref 254] }
abbrev o41 (_ : Params) : Obj := f0 "begin_stage" "Side.begin_stage" s_Side_begin_stage
abbrev o42 (_ : Params) : Obj := f1 "is_good_over" "is_good_over" s_is_good_over "chessclock.stages" 271 96
abbrev o43 (_ : Params) : Obj := { cls := .type "type", data := .cls { name := "BadTicks", bases := [.ref 24], mro := [.ref 49, .ref 24, .type "ValueError", .type "Exception", .type "BaseException", .type "object"], ns := 48, qualname := "BadTicks" }, slots := #[some (.ref 40), none, some (.str "BadTicks" 223), some (.str "BadTicks" 231), some (.builtin "ValueError.__new__"), some (.bool true)] }
abbrev o44 (_ : Params) : Obj := f0 "is_whole_within" "is_whole_within" s_is_whole_within
abbrev o45 (_ : Params) : Obj := co "check_each" "check_each" 354 53 1 3 140 181 360
abbrev o46 (_ : Params) : Obj := f1 "pass_ticks" "Side.pass_ticks" s_Side_pass_ticks "chessclock.sides" 378 208
abbrev o47 (P : Params) : Obj := { cls := .type "dict", data := .dict #[de P "__module__" 407 (.str "chessclock.sides" 378), de P "__qualname__" 409 (.str "Side" 408), de P "__firstlineno__" 411 (.int 82 410), de P "__init__" 419 (.ref 188), de P "begin_stage" 428 (.ref 195), de P "has_fallen" 435 (.ref 202), de P "pass_ticks" 444 (.ref 209), de P "pass_until_empty" 454 (.ref 216), de P "go_on_if_possible" 462 (.ref 223), de P "make_move" 470 (.ref 230), de P "count_move_in_stage" 478 (.ref 237), de P "put_right" 486 (.ref 244), de P "told" 493 (.ref 251), de P "__static_attributes__" 501 (.ref 252)] 14 }
abbrev o48 (_ : Params) : Obj := { cls := .type "getset_descriptor", data := .fields #[.str "__weakref__" 202, .ref 24, .builtin "ExceptionGroup.__weakref__", .none] }
abbrev o49 (_ : Params) : Obj := { cls := .type "type", data := .cls { name := "Over", bases := [.ref 24], mro := [.ref 73, .ref 24, .type "ValueError", .type "Exception", .type "BaseException", .type "object"], ns := 72, qualname := "Over" }, slots := #[some (.ref 64), none, some (.str "Over" 255), some (.str "Over" 263), some (.builtin "ValueError.__new__"), some (.bool true)] }
abbrev o50 (_ : Params) : Obj := f0 "may_stand_behind" "may_stand_behind" s_may_stand_behind
abbrev o51 (_ : Params) : Obj := co "has_fallen" "Side.has_fallen" 429 104 1 3 196 181 433
abbrev o52 (_ : Params) : Obj := tu #[.str "self" 474, .str "stage" 475]
abbrev o53 (_ : Params) : Obj := { cls := .type "code", data := .fields #[.str "NotNow" 241, .str "NotNow" 242, .str "/claim/cut.py" 243, .int 8 0, .int 0 0, .int 0 0, .int 0 0, .int 0 0, .ref 55, .bool false, .int 181 0, .ref 56, .none, .none, .none, .none, .int 244 0, .int 8 0, .str "/claim/cut.py" 245] }
abbrev o54 (_ : Params) : Obj := co "is_good_main" "is_good_main" 297 23 1 3 84 181 301
abbrev o55 (_ : Params) : Obj := f1 "check_order" "check_order" s_check_order "chessclock.stages" 271 152
abbrev o56 (_ : Params) : Obj := tu #[.str "stage" 335]
abbrev o57 (_ : Params) : Obj := f0 "told" "Side.told" s_Side_told
abbrev o58 (_ : Params) : Obj := { cls := .type "code", data := .fields #[.str "<module>" 182, .str "<module>" 183, .str "/claim/cut.py" 184, .int 1 0, .int 0 0, .int 0 0, .int 0 0, .int 0 0, .ref 11, .bool false, .int 181 0, .ref 12, .none, .none, .none, .none, .int 185 0, .int 1 0, .str "/claim/cut.py" 186] }
abbrev o59 (_ : Params) : Obj := { cls := .type "frame", slots := #[some (.ref 20), some (.ref 3), some (.ref 17), none, some (.str "chessclock.errors" 187), none, some (.ref 0)] }
abbrev o60 (_ : Params) : Obj := { cls := .type "type", data := .cls { name := "BadStages", bases := [.ref 24], mro := [.ref 37, .ref 24, .type "ValueError", .type "Exception", .type "BaseException", .type "object"], ns := 36, qualname := "BadStages" }, slots := #[some (.ref 28), none, some (.str "BadStages" 207), some (.str "BadStages" 215), some (.builtin "ValueError.__new__"), some (.bool true)] }
abbrev o61 (_ : Params) : Obj := { cls := .type "code", data := .fields #[.str "Over" 257, .str "Over" 258, .str "/claim/cut.py" 259, .int 10 0, .int 0 0, .int 0 0, .int 0 0, .int 0 0, .ref 67, .bool false, .int 181 0, .ref 68, .none, .none, .none, .none, .int 260 0, .int 10 0, .str "/claim/cut.py" 261] }
abbrev o62 (_ : Params) : Obj := f0 "ticks_not_counted" "ticks_not_counted" s_ticks_not_counted
abbrev o63 (_ : Params) : Obj := co "make_move" "Side.make_move" 463 131 1 3 224 181 468
abbrev o64 (_ : Params) : Obj := tu #[.str "stages" 366, .str "number" 367]
abbrev o65 (_ : Params) : Obj := co "is_endless" "is_endless" 325 39 1 3 112 181 329
abbrev o66 (_ : Params) : Obj := { cls := .type "frame", slots := #[some (.ref 180), some (.ref 3), some (.ref 177), none, some (.str "chessclock.sides" 378), none, some (.ref 0)] }
abbrev o67 (_ : Params) : Obj := { cls := .type "code", data := .fields #[.str "BadTicks" 225, .str "BadTicks" 226, .str "/claim/cut.py" 227, .int 6 0, .int 0 0, .int 0 0, .int 0 0, .int 0 0, .ref 43, .bool false, .int 181 0, .ref 44, .none, .none, .none, .none, .int 228 0, .int 6 0, .str "/claim/cut.py" 229] }
abbrev o68 (_ : Params) : Obj := tu #[.str "self" 439, .str "ticks" 440, .str "gone" 441]
abbrev o69 (_ : Params) : Obj := f0 "is_over" "is_over" s_is_over
abbrev o70 (_ : Params) : Obj := co "ticks_for_move" "ticks_for_move" 392 76 2 3 168 181 397
abbrev o71 (_ : Params) : Obj := f1 "count_move_in_stage" "Side.count_move_in_stage" s_Side_count_move_in_stage "chessclock.sides" 378 236
abbrev o72 (_ : Params) : Obj := { cls := .type "type", data := .cls { name := "NotNow", bases := [.ref 24], mro := [.ref 61, .ref 24, .type "ValueError", .type "Exception", .type "BaseException", .type "object"], ns := 60, qualname := "NotNow" }, slots := #[some (.ref 52), none, some (.str "NotNow" 239), some (.str "NotNow" 247), some (.builtin "ValueError.__new__"), some (.bool true)] }
abbrev o73 (_ : Params) : Obj := tu #[.str "stage" 307]
abbrev o74 (_ : Params) : Obj := f0 "go_on_if_possible" "Side.go_on_if_possible" s_Side_go_on_if_possible
abbrev o75 (_ : Params) : Obj := f1 "ticks_of" "ticks_of" s_ticks_of "chessclock.stages" 271 124
abbrev o76 (P : Params) : Obj := { cls := .type "dict", data := .dict #[de P "__module__" 407 (.str "chessclock.sides" 378), de P "__firstlineno__" 411 (.int 82 410), de P "__init__" 419 (.ref 188), de P "begin_stage" 428 (.ref 195), de P "has_fallen" 435 (.ref 202), de P "pass_ticks" 444 (.ref 209), de P "pass_until_empty" 454 (.ref 216), de P "go_on_if_possible" 462 (.ref 223), de P "make_move" 470 (.ref 230), de P "count_move_in_stage" 478 (.ref 237), de P "put_right" 486 (.ref 244), de P "told" 493 (.ref 251), de P "__static_attributes__" 501 (.ref 252), de P "__dict__" 503 (.ref 255), de P "__weakref__" 505 (.ref 256), de P "__doc__" 506 .none] 4 }
abbrev o77 (_ : Params) : Obj := tu #[.ref 24]
abbrev o78 (_ : Params) : Obj := tu #[.str "stage" 342]
abbrev o79 (_ : Params) : Obj := { cls := .type "getset_descriptor", data := .fields #[.str "__weakref__" 504, .ref 254, .builtin "ExceptionGroup.__weakref__", .none] }
abbrev o80 (_ : Params) : Obj := co "is_good_over" "is_good_over" 304 31 1 3 91 181 308
abbrev o81 (_ : Params) : Obj := f1 "read_stages" "read_stages" s_read_stages "chessclock.stages" 271 159
abbrev o82 (P : Params) : Obj := { cls := .type "dict", data := .dict #[de P "__module__" 230 (.str "chessclock.errors" 187), de P "__firstlineno__" 234 (.int 6 233), de P "__static_attributes__" 235 (.ref 47), de P "__doc__" 236 .none] 2 }
abbrev o83 (_ : Params) : Obj := f0 "check_each" "check_each" s_check_each
abbrev o84 (_ : Params) : Obj := co "pass_ticks" "Side.pass_ticks" 436 107 2 3 203 181 442
abbrev o85 (_ : Params) : Obj := tu #[.str "self" 482, .str "ticks" 483]
abbrev o86 (_ : Params) : Obj := { cls := .type "type", data := .cls { name := "ClockError", bases := [.type "ValueError"], mro := [.ref 24, .type "ValueError", .type "Exception", .type "BaseException", .type "object"], ns := 23, qualname := "ClockError", subclasses := [.ref 37, .ref 49, .ref 61, .ref 73] }, slots := #[some (.ref 15), none, some (.str "ClockError" 189), some (.str "ClockError" 197), some (.builtin "ValueError.__new__"), some (.bool true)] }
abbrev o87 (P : Params) : Obj := { cls := .type "dict", data := .dict #[de P "__module__" 262 (.str "chessclock.errors" 187), de P "__firstlineno__" 266 (.int 10 265), de P "__static_attributes__" 267 (.ref 71), de P "__doc__" 268 .none] 2 }
abbrev o88 (_ : Params) : Obj := f0 "has_fallen" "Side.has_fallen" s_Side_has_fallen
abbrev o89 (_ : Params) : Obj := f1 "is_main" "is_main" s_is_main "chessclock.stages" 271 103
abbrev o90 (_ : Params) : Obj := f0 "is_good_main" "is_good_main" s_is_good_main
abbrev o91 (_ : Params) : Obj := co "check_order" "check_order" 363 57 1 3 147 181 368
abbrev o92 (_ : Params) : Obj := f1 "pass_until_empty" "Side.pass_until_empty" s_Side_pass_until_empty "chessclock.sides" 378 215
abbrev o93 (_ : Params) : Obj := tu #[.str "self" 415, .str "stages" 416]
abbrev o94 (_ : Params) : Obj := nf #[.int 2 0, .int 0 0, .ref 20, .int 4 0, .int 0 0, .ref 33, .int 6 0, .int 0 0, .ref 45, .int 8 0, .int 0 0, .ref 57, .int 10 0, .int 0 0, .ref 69, .int 19 0, .int 0 0, .ref 82, .int 23 0, .int 0 0, .ref 89, .int 31 0, .int 0 0, .ref 96, .int 35 0, .int 0 0, .ref 103, .int 37 0, .int 0 0, .ref 110, .int 39 0, .int 0 0, .ref 117, .int 41 0, .int 0 0, .ref 124, .int 43 0, .int 0 0, .ref 131, .int 49 0, .int 0 0, .ref 138, .int 53 0, .int 0 0, .ref 145, .int 57 0, .int 0 0, .ref 152, .int 63 0, .int 0 0, .ref 159, .int 72 0, .int 0 0, .ref 166, .int 76 0, .int 0 0, .ref 173, .int 82 0, .int 0 0, .ref 180]
abbrev o95 (_ : Params) : Obj := { cls := .type "code", data := .fields #[.str "ClockError" 191, .str "ClockError" 192, .str "/claim/cut.py" 193, .int 2 0, .int 0 0, .int 0 0, .int 0 0, .int 0 0, .ref 18, .bool false, .int 181 0, .ref 19, .none, .none, .none, .none, .int 194 0, .int 2 0, .str "/claim/cut.py" 195] }
abbrev o96 (P : Params) : Obj := { cls := .type "dict", data := .dict #[de P "__module__" 214 (.str "chessclock.errors" 187), de P "__firstlineno__" 218 (.int 4 217), de P "__static_attributes__" 219 (.ref 35), de P "__doc__" 220 .none] 2 }
abbrev o97 (_ : Params) : Obj := f1 "is_good_stage" "is_good_stage" s_is_good_stage "chessclock.stages" 271 131
abbrev o98 (_ : Params) : Obj := tu #[.str "stage" 314]
abbrev o99 (_ : Params) : Obj := f0 "make_move" "Side.make_move" s_Side_make_move
abbrev o100 (_ : Params) : Obj := tu #[.str "self" 448, .str "ticks" 449, .str "free" 450, .str "gone" 451]
abbrev o101 (_ : Params) : Obj := f0 "is_endless" "is_endless" s_is_endless
abbrev o102 (_ : Params) : Obj := { cls := .type "code", data := .fields #[.str "Side" 402, .str "Side" 403, .str "/claim/cut.py" 404, .int 82 0, .int 0 0, .int 0 0, .int 0 0, .int 0 0, .ref 178, .bool false, .int 181 0, .ref 179, .none, .none, .none, .none, .int 405 0, .int 82 0, .str "/claim/cut.py" 406] }
abbrev o103 (_ : Params) : Obj := f1 "put_right" "Side.put_right" s_Side_put_right "chessclock.sides" 378 243
abbrev o104 (_ : Params) : Obj := tu #[.str "plain" 283, .str "add" 284, .str "back" 285, .str "wait" 286]
abbrev o105 (_ : Params) : Obj := f0 "ticks_for_move" "ticks_for_move" s_ticks_for_move
abbrev o106 (_ : Params) : Obj := co "count_move_in_stage" "Side.count_move_in_stage" 471 141 2 3 231 181 476
abbrev o107 (P : Params) : Obj := { cls := .type "dict", data := .dict #[de P "__module__" 246 (.str "chessclock.errors" 187), de P "__firstlineno__" 250 (.int 8 249), de P "__static_attributes__" 251 (.ref 59), de P "__doc__" 252 .none] 2 }
abbrev o108 (_ : Params) : Obj := tu #[.str "stages" 374]
abbrev o109 (_ : Params) : Obj := co "ticks_of" "ticks_of" 332 41 1 3 119 181 336
abbrev o110 (_ : Params) : Obj := f1 "__init__" "Side.__init__" s_Side_init "chessclock.sides" 378 187
abbrev o111 (_ : Params) : Obj := tu #[.str "left" 494, .str "moves" 495, .str "moves_in_stage" 496, .str "number" 497, .str "passed" 498, .str "periods" 499, .str "stages" 500]
abbrev o112 (_ : Params) : Obj := { cls := .type "frame", slots := #[some (.ref 33), some (.ref 3), some (.ref 30), none, some (.str "chessclock.errors" 187), none, some (.ref 0)] }
abbrev o113 (P : Params) : Obj := { cls := .type "dict", data := .dict #[de P "__module__" 262 (.str "chessclock.errors" 187), de P "__qualname__" 264 (.str "Over" 263), de P "__firstlineno__" 266 (.int 10 265), de P "__static_attributes__" 267 (.ref 71)] 4 }
abbrev o114 (_ : Params) : Obj := f0 "is_good_stage" "is_good_stage" s_is_good_stage
abbrev o115 (_ : Params) : Obj := { cls := .type "builtin_function_or_method", data := .fields #[.builtin "object.__init_subclass__", .ref 254] }
abbrev o116 (_ : Params) : Obj := co "begin_stage" "Side.begin_stage" 420 94 2 3 189 181 426
abbrev o117 (_ : Params) : Obj := tu #[.str "self" 466, .str "stage" 467]
abbrev o118 (_ : Params) : Obj := { cls := .type "super", data := .fields #[.ref 49, .ref 49, .ref 49] }
abbrev o119 (_ : Params) : Obj := co "is_whole_within" "is_whole_within" 288 19 3 3 77 181 294
abbrev o120 (_ : Params) : Obj := f1 "check_each" "check_each" s_check_each "chessclock.stages" 271 145
abbrev o121 (_ : Params) : Obj := tu #[.str "stage" 328]
abbrev o122 (_ : Params) : Obj := f0 "put_right" "Side.put_right" s_Side_put_right
abbrev o123 (_ : Params) : Obj := { cls := .type "super", data := .fields #[.ref 24, .ref 24, .ref 24] }
abbrev o124 (P : Params) : Obj := { cls := .type "dict", data := .dict #[de P "__module__" 230 (.str "chessclock.errors" 187), de P "__qualname__" 232 (.str "BadTicks" 231), de P "__firstlineno__" 234 (.int 6 233), de P "__static_attributes__" 235 (.ref 47)] 4 }
abbrev o125 (_ : Params) : Obj := { cls := .type "super", data := .fields #[.ref 73, .ref 73, .ref 73] }
abbrev o126 (_ : Params) : Obj := co "may_stand_behind" "may_stand_behind" 346 49 2 3 133 181 351
abbrev o127 (_ : Params) : Obj := f1 "has_fallen" "Side.has_fallen" s_Side_has_fallen "chessclock.sides" 378 201
abbrev o128 (_ : Params) : Obj := tu #[.str "stage" 395, .str "passed" 396]
abbrev o129 (_ : Params) : Obj := { cls := .type "frame", slots := #[some (.ref 57), some (.ref 3), some (.ref 54), none, some (.str "chessclock.errors" 187), none, some (.ref 0)] }
abbrev o130 (_ : Params) : Obj := f1 "is_good_main" "is_good_main" s_is_good_main "chessclock.stages" 271 89
abbrev o131 (_ : Params) : Obj := f0 "__init__" "Side.__init__" s_Side_init
abbrev o132 (_ : Params) : Obj := co "told" "Side.told" 487 151 1 3 245 181 491
abbrev o133 (_ : Params) : Obj := { cls := .type "frame", slots := #[some (.ref 13), some (.ref 3), some (.ref 3), none, some (.str "__main__" 164), none, some (.ref 0)] }
abbrev o134 (_ : Params) : Obj := { cls := .type "super", data := .fields #[.ref 37, .ref 37, .ref 37] }
abbrev o135 (_ : Params) : Obj := { cls := .type "frame", slots := #[some (.ref 69), some (.ref 3), some (.ref 66), none, some (.str "chessclock.errors" 187), none, some (.ref 0)] }
abbrev o136 (_ : Params) : Obj := tu #[.str "self" 432]
abbrev o137 (_ : Params) : Obj := f0 "is_main" "is_main" s_is_main
abbrev o138 (_ : Params) : Obj := co "ticks_not_counted" "ticks_not_counted" 384 72 2 3 161 181 389
abbrev o139 (_ : Params) : Obj := f1 "make_move" "Side.make_move" s_Side_make_move "chessclock.sides" 378 229
abbrev o140 (P : Params) : Obj := { cls := .type "dict", data := .dict #[de P "__module__" 246 (.str "chessclock.errors" 187), de P "__qualname__" 248 (.str "NotNow" 247), de P "__firstlineno__" 250 (.int 8 249), de P "__static_attributes__" 251 (.ref 59)] 4 }
abbrev o141 (_ : Params) : Obj := tu #[.str "stage" 300]
abbrev o142 (_ : Params) : Obj := f0 "pass_until_empty" "Side.pass_until_empty" s_Side_pass_until_empty
abbrev o143 (_ : Params) : Obj := f1 "is_endless" "is_endless" s_is_endless "chessclock.stages" 271 117
abbrev o144 (P : Params) : Obj := { cls := .type "dict", data := .dict #[de P "__module__" 214 (.str "chessclock.errors" 187), de P "__qualname__" 216 (.str "BadStages" 215), de P "__firstlineno__" 218 (.int 4 217), de P "__static_attributes__" 219 (.ref 35)] 4 }
abbrev o145 (_ : Params) : Obj := { cls := .type "frame", slots := #[some (.ref 45), some (.ref 3), some (.ref 42), none, some (.str "chessclock.errors" 187), none, some (.ref 0)] }
abbrev o146 (_ : Params) : Obj := tu #[.str "stages" 357, .str "number" 358, .str "stage" 359]
abbrev o147 (_ : Params) : Obj := co "is_over" "is_over" 318 37 1 3 105 181 322
abbrev o148 (_ : Params) : Obj := f1 "ticks_for_move" "ticks_for_move" s_ticks_for_move "chessclock.sides" 378 173
abbrev o149 (_ : Params) : Obj := { cls := .type "super", data := .fields #[.ref 61, .ref 61, .ref 61] }
abbrev o150 (_ : Params) : Obj := f0 "read_stages" "read_stages" s_read_stages
abbrev o151 (_ : Params) : Obj := co "go_on_if_possible" "Side.go_on_if_possible" 455 122 1 3 217 181 460
abbrev o152 (_ : Params) : Obj := { cls := .type "type", data := .cls { name := "Side", bases := [.type "object"], mro := [.ref 254, .type "object"], ns := 253, qualname := "Side" }, slots := #[none, none, some (.str "Side" 400), some (.str "Side" 408), some (.builtin "object.__new__"), some (.bool true)] }
abbrev o153 (P : Params) : Obj := { cls := .type "dict", data := .dict #[de P "__name__" 165 (.str "law_chessclock_k10_whole_clock" 622), de P "__doc__" 166 .none, de P "__package__" 167 .none, de P "__loader__" 168 (.builtin "__main__.__loader__#opaque"), de P "__spec__" 169 .none, de P "__annotations__" 170 (.ref 6), de P "__builtins__" 171 (.ref 4), de P "__file__" 173 (.str "/claim/cut.py" 172), de P "__cached__" 174 .none, de P "ClockError" 206 (.ref 24), de P "BadStages" 222 (.ref 37), de P "BadTicks" 238 (.ref 49), de P "NotNow" 254 (.ref 61), de P "Over" 270 (.ref 73), de P "MOST_STAGES" 274 (.int 5 273), de P "MOST_MOVES" 276 (.int 200 275), de P "MOST_PERIODS" 278 (.int 200 277), de P "MOST_TICKS" 280 (.int 1000000 279), de P "MOST_EXTRA" 282 (.int 1000000 281), de P "WAYS" 287 (.ref 76), de P "is_whole_within" 296 (.ref 83), de P "is_good_main" 303 (.ref 90), de P "is_good_over" 310 (.ref 97), de P "is_main" 317 (.ref 104), de P "is_over" 324 (.ref 111), de P "is_endless" 331 (.ref 118), de P "ticks_of" 338 (.ref 125), de P "is_good_stage" 345 (.ref 132), de P "may_stand_behind" 353 (.ref 139), de P "check_each" 362 (.ref 146), de P "check_order" 370 (.ref 153), de P "read_stages" 377 (.ref 160), de P "LEAST_LEFT" 381 (.int 1 380), de P "MOST_LEFT" 383 (.int 10000000 382), de P "ticks_not_counted" 391 (.ref 167), de P "ticks_for_move" 399 (.ref 174), de P "Side" 508 (.ref 254), de P "Clock" 621 (.ref 345), de P "_law_cell" 631 (.ref 356), de P "_law_mix" 640 (.ref 363), de P "_law_stages" 652 (.ref 370), de P "_law_deeds" 666 (.ref 377), de P "_law_new" 676 (.ref 384), de P "_law_next" 685 (.ref 391), de P "_law_tick" 694 (.ref 398), de P "_law_press" 704 (.ref 405), de P "_law_due" 715 (.ref 412), de P "_law_state" 724 (.ref 419), de P "_law_told" 737 (.ref 426), de P "_law_shown" 744 (.ref 433)] 50 }
abbrev o154 (_ : Params) : Obj := co "_law_new" "_law_new" 667 257 1 3 378 181 674
abbrev o155 (_ : Params) : Obj := f0 "press" "Clock.press" s_Clock_press
abbrev o156 (_ : Params) : Obj := tu #[.str "_law_world" 719, .str "_law_found" 720, .str "_law_side" 721]
abbrev o157 (_ : Params) : Obj := co "__init__" "Clock.__init__" 523 156 2 3 266 181 529
abbrev o158 (_ : Params) : Obj := f1 "state" "Clock.state" s_Clock_state "chessclock.clocks" 509 334
abbrev o159 (_ : Params) : Obj := tu #[.str "self" 563]
abbrev o160 (_ : Params) : Obj := f0 "_law_shown" "_law_shown" s_law_shown
abbrev o161 (_ : Params) : Obj := nf #[.int 156 0, .int 4 0, .ref 271, .int 164 0, .int 4 0, .ref 278, .int 168 0, .int 4 0, .ref 285, .int 172 0, .int 4 0, .ref 292, .int 176 0, .int 4 0, .ref 299, .int 181 0, .int 4 0, .ref 306, .int 186 0, .int 4 0, .ref 313, .int 200 0, .int 4 0, .ref 320, .int 208 0, .int 4 0, .ref 327, .int 213 0, .int 4 0, .ref 334, .int 216 0, .int 4 0, .ref 341]
abbrev o162 (_ : Params) : Obj := f1 "_law_next" "_law_next" s_law_next "law_chessclock_k10_whole_clock" 622 390
abbrev o163 (_ : Params) : Obj := co "give" "Clock.give" 585 208 3 3 322 181 591
abbrev o164 (_ : Params) : Obj := tu #[.str "_law_script" 635, .str "_law_k" 636, .str "_law_number" 637]
abbrev o165 (_ : Params) : Obj := f1 "refuse_if_over" "Clock.refuse_if_over" s_Clock_refuse_if_over "chessclock.clocks" 509 278
abbrev o166 (_ : Params) : Obj := tu #[.str "fallen" 609, .str "passed" 610, .str "running" 611, .str "sides" 612, .str "turn" 613]
abbrev o167 (_ : Params) : Obj := f0 "_law_deeds" "_law_deeds" s_law_deeds
abbrev o168 (_ : Params) : Obj := tu #[.str "_law_world" 680, .str "_law_side" 681, .str "_law_stage" 682]
abbrev o169 (_ : Params) : Obj := f0 "refuse_if_still" "Clock.refuse_if_still" s_Clock_refuse_if_still
abbrev o170 (_ : Params) : Obj := f1 "_law_state" "_law_state" s_law_state "law_chessclock_k10_whole_clock" 622 418
abbrev o171 (_ : Params) : Obj := co "_law_cell" "_law_cell" 624 219 2 3 350 181 629
abbrev o172 (_ : Params) : Obj := tu #[.str "self" 535]
abbrev o173 (_ : Params) : Obj := f0 "_law_press" "_law_press" s_law_press
abbrev o174 (_ : Params) : Obj := f1 "stop" "Clock.stop" s_Clock_stop "chessclock.clocks" 509 306
abbrev o175 (_ : Params) : Obj := tu #[.str "self" 597, .str "who" 598]
abbrev o176 (_ : Params) : Obj := co "start" "Clock.start" 553 176 1 3 294 181 557
abbrev o177 (_ : Params) : Obj := f1 "_law_mix" "_law_mix" s_law_mix "law_chessclock_k10_whole_clock" 622 362
abbrev o178 (_ : Params) : Obj := co "_law_due" "_law_due" 705 307 3 3 406 181 713
abbrev o179 (_ : Params) : Obj := { cls := .type "getset_descriptor", data := .fields #[.str "__weakref__" 617, .ref 345, .builtin "ExceptionGroup.__weakref__", .none] }
abbrev o180 (_ : Params) : Obj := f1 "press" "Clock.press" s_Clock_press "chessclock.clocks" 509 320
abbrev o181 (_ : Params) : Obj := tu #[.str "self" 549]
abbrev o182 (_ : Params) : Obj := f0 "_law_state" "_law_state" s_law_state
abbrev o183 (_ : Params) : Obj := tu #[.str "_law_world" 698, .str "_law_side" 699, .str "_law_stage" 700, .str "_law_more" 701]
abbrev o184 (_ : Params) : Obj := f0 "stop" "Clock.stop" s_Clock_stop
abbrev o185 (_ : Params) : Obj := f1 "_law_shown" "_law_shown" s_law_shown "law_chessclock_k10_whole_clock" 622 432
abbrev o186 (_ : Params) : Obj := co "_law_stages" "_law_stages" 641 227 2 3 364 181 650
abbrev o187 (_ : Params) : Obj := { cls := .type "frame", slots := #[some (.ref 264), some (.ref 3), some (.ref 261), none, some (.str "chessclock.clocks" 509), none, some (.ref 0)] }
abbrev o188 (_ : Params) : Obj := co "_law_told" "_law_told" 725 339 3 3 420 181 735
abbrev o189 (_ : Params) : Obj := f0 "_law_mix" "_law_mix" s_law_mix
abbrev o190 (_ : Params) : Obj := { cls := .type "type", data := .cls { name := "Clock", bases := [.type "object"], mro := [.ref 345, .type "object"], ns := 344, qualname := "Clock" }, slots := #[none, none, some (.str "Clock" 511), some (.str "Clock" 519), some (.builtin "object.__new__"), some (.bool true)] }
abbrev o191 (_ : Params) : Obj := co "go" "Clock.go" 567 186 2 3 308 181 574
abbrev o192 (_ : Params) : Obj := f1 "_law_deeds" "_law_deeds" s_law_deeds "law_chessclock_k10_whole_clock" 622 376
abbrev o193 (P : Params) : Obj := { cls := .type "dict", data := .dict #[de P "__module__" 518 (.str "chessclock.clocks" 509), de P "__qualname__" 520 (.str "Clock" 519), de P "__firstlineno__" 522 (.int 154 521), de P "__init__" 531 (.ref 272), de P "refuse_if_over" 538 (.ref 279), de P "refuse_if_running" 545 (.ref 286), de P "refuse_if_still" 552 (.ref 293), de P "start" 559 (.ref 300), de P "stop" 566 (.ref 307), de P "go" 576 (.ref 314), de P "press" 584 (.ref 321), de P "give" 593 (.ref 328), de P "state" 601 (.ref 335), de P "game" 608 (.ref 342), de P "__static_attributes__" 614 (.ref 343)] 15 }
abbrev o194 (_ : Params) : Obj := f0 "_law_next" "_law_next" s_law_next
abbrev o195 (_ : Params) : Obj := f1 "refuse_if_still" "Clock.refuse_if_still" s_Clock_refuse_if_still "chessclock.clocks" 509 292
abbrev o196 (_ : Params) : Obj := f0 "refuse_if_over" "Clock.refuse_if_over" s_Clock_refuse_if_over
abbrev o197 (_ : Params) : Obj := f1 "_law_press" "_law_press" s_law_press "law_chessclock_k10_whole_clock" 622 404
abbrev o198 (_ : Params) : Obj := co "game" "Clock.game" 602 216 1 3 336 181 606
abbrev o199 (_ : Params) : Obj := tu #[.str "_law_script" 656, .str "_law_k" 657, .str "_law_many" 658, .str "_law_found" 659, .str "_law_turn" 660, .str "_law_j" 661, .str "_law_number" 662, .str "_law_way" 663]
abbrev o200 (_ : Params) : Obj := co "_law_tick" "_law_tick" 686 274 1 3 392 181 692
abbrev o201 (_ : Params) : Obj := f0 "state" "Clock.state" s_Clock_state
abbrev o202 (_ : Params) : Obj := tu #[.str "_law_clock" 741]
abbrev o203 (_ : Params) : Obj := co "refuse_if_running" "Clock.refuse_if_running" 539 168 1 3 280 181 543
abbrev o204 (_ : Params) : Obj := { cls := .type "builtin_function_or_method", data := .fields #[.builtin "object.__init_subclass__", .ref 345] }
abbrev o205 (_ : Params) : Obj := tu #[.str "self" 580, .str "who" 581]
abbrev o206 (_ : Params) : Obj := f1 "_law_new" "_law_new" s_law_new "law_chessclock_k10_whole_clock" 622 383
abbrev o207 (_ : Params) : Obj := co "press" "Clock.press" 577 200 2 3 315 181 582
abbrev o208 (_ : Params) : Obj := tu #[.str "_law_script" 627, .str "_law_k" 628]
abbrev o209 (_ : Params) : Obj := f1 "__init__" "Clock.__init__" s_Clock_init "chessclock.clocks" 509 271
abbrev o210 (_ : Params) : Obj := co "_law_shown" "_law_shown" 738 361 1 3 427 181 742
abbrev o211 (_ : Params) : Obj := f0 "_law_stages" "_law_stages" s_law_stages
abbrev o212 (_ : Params) : Obj := { cls := .type "code", data := .fields #[.str "Clock" 513, .str "Clock" 514, .str "/claim/cut.py" 515, .int 154 0, .int 0 0, .int 0 0, .int 0 0, .int 0 0, .ref 262, .bool false, .int 181 0, .ref 263, .none, .none, .none, .none, .int 516 0, .int 154 0, .str "/claim/cut.py" 517] }
abbrev o213 (_ : Params) : Obj := f1 "give" "Clock.give" s_Clock_give "chessclock.clocks" 509 327
abbrev o214 (_ : Params) : Obj := tu #[.str "self" 556]
abbrev o215 (_ : Params) : Obj := f0 "_law_told" "_law_told" s_law_told
abbrev o216 (_ : Params) : Obj := tu #[.str "_law_world" 708, .str "_law_word" 709, .str "_law_number" 710, .str "_law_many" 711, .str "_law_side" 712]
abbrev o217 (P : Params) : Obj := { cls := .type "dict", data := .dict #[de P "__module__" 518 (.str "chessclock.clocks" 509), de P "__firstlineno__" 522 (.int 154 521), de P "__init__" 531 (.ref 272), de P "refuse_if_over" 538 (.ref 279), de P "refuse_if_running" 545 (.ref 286), de P "refuse_if_still" 552 (.ref 293), de P "start" 559 (.ref 300), de P "stop" 566 (.ref 307), de P "go" 576 (.ref 314), de P "press" 584 (.ref 321), de P "give" 593 (.ref 328), de P "state" 601 (.ref 335), de P "game" 608 (.ref 342), de P "__static_attributes__" 614 (.ref 343), de P "__dict__" 616 (.ref 346), de P "__weakref__" 618 (.ref 347), de P "__doc__" 619 .none] 4 }
abbrev o218 (_ : Params) : Obj := f0 "go" "Clock.go" s_Clock_go
abbrev o219 (_ : Params) : Obj := co "_law_deeds" "_law_deeds" 653 240 3 3 371 181 664
abbrev o220 (_ : Params) : Obj := nf #[.int 2 0, .int 0 0, .ref 20, .int 4 0, .int 0 0, .ref 33, .int 6 0, .int 0 0, .ref 45, .int 8 0, .int 0 0, .ref 57, .int 10 0, .int 0 0, .ref 69, .int 19 0, .int 0 0, .ref 82, .int 23 0, .int 0 0, .ref 89, .int 31 0, .int 0 0, .ref 96, .int 35 0, .int 0 0, .ref 103, .int 37 0, .int 0 0, .ref 110, .int 39 0, .int 0 0, .ref 117, .int 41 0, .int 0 0, .ref 124, .int 43 0, .int 0 0, .ref 131, .int 49 0, .int 0 0, .ref 138, .int 53 0, .int 0 0, .ref 145, .int 57 0, .int 0 0, .ref 152, .int 63 0, .int 0 0, .ref 159, .int 72 0, .int 0 0, .ref 166, .int 76 0, .int 0 0, .ref 173, .int 82 0, .int 0 0, .ref 180, .int 154 0, .int 0 0, .ref 264, .int 219 0, .int 0 0, .ref 355, .int 223 0, .int 0 0, .ref 362, .int 227 0, .int 0 0, .ref 369, .int 240 0, .int 0 0, .ref 376, .int 257 0, .int 0 0, .ref 383, .int 265 0, .int 0 0, .ref 390, .int 274 0, .int 0 0, .ref 397, .int 293 0, .int 0 0, .ref 404, .int 307 0, .int 0 0, .ref 411, .int 334 0, .int 0 0, .ref 418, .int 339 0, .int 0 0, .ref 425, .int 361 0, .int 0 0, .ref 432]
abbrev o221 (_ : Params) : Obj := tu #[.str "self" 588, .str "who" 589, .str "ticks" 590]
abbrev o222 (_ : Params) : Obj := co "refuse_if_still" "Clock.refuse_if_still" 546 172 1 3 287 181 550
abbrev o223 (_ : Params) : Obj := f1 "_law_cell" "_law_cell" s_law_cell "law_chessclock_k10_whole_clock" 622 355
abbrev o224 (_ : Params) : Obj := co "_law_press" "_law_press" 695 293 1 3 399 181 702
abbrev o225 (_ : Params) : Obj := f0 "game" "Clock.game" s_Clock_game
abbrev o226 (_ : Params) : Obj := tu #[.str "self" 526, .str "stages" 527, .str "own_stages" 528]
abbrev o227 (_ : Params) : Obj := f0 "_law_tick" "_law_tick" s_law_tick
abbrev o228 (_ : Params) : Obj := f1 "start" "Clock.start" s_Clock_start "chessclock.clocks" 509 299
abbrev o229 (_ : Params) : Obj := f0 "refuse_if_running" "Clock.refuse_if_running" s_Clock_refuse_if_running
abbrev o230 (_ : Params) : Obj := f1 "_law_due" "_law_due" s_law_due "law_chessclock_k10_whole_clock" 622 411
abbrev o231 (_ : Params) : Obj := { cls := .type "super", data := .fields #[.ref 345, .ref 345, .ref 345] }
abbrev o232 (_ : Params) : Obj := tu #[.str "_law_stages_here" 670, .str "_law_first" 671, .str "_law_side" 672, .str "_law_found" 673]
abbrev o233 (_ : Params) : Obj := co "_law_state" "_law_state" 716 334 1 3 413 181 722
abbrev o234 (_ : Params) : Obj := f0 "_law_cell" "_law_cell" s_law_cell
abbrev o235 (_ : Params) : Obj := tu #[.str "self" 605]
abbrev o236 (_ : Params) : Obj := co "stop" "Clock.stop" 560 181 1 3 301 181 564
abbrev o237 (_ : Params) : Obj := f1 "_law_stages" "_law_stages" s_law_stages "law_chessclock_k10_whole_clock" 622 369
abbrev o238 (_ : Params) : Obj := tu #[.str "_law_world" 689, .str "_law_side" 690, .str "_law_stage" 691]
abbrev o239 (_ : Params) : Obj := f0 "start" "Clock.start" s_Clock_start
abbrev o240 (_ : Params) : Obj := f1 "_law_told" "_law_told" s_law_told "law_chessclock_k10_whole_clock" 622 425
abbrev o241 (_ : Params) : Obj := co "_law_mix" "_law_mix" 632 223 2 3 357 181 638
abbrev o242 (_ : Params) : Obj := tu #[.str "self" 542]
abbrev o243 (_ : Params) : Obj := f0 "_law_due" "_law_due" s_law_due
abbrev o244 (_ : Params) : Obj := { cls := .type "getset_descriptor", data := .fields #[.str "__dict__" 615, .ref 345, .builtin "function.__dict__", .builtin "function.__dict__#set"] }
abbrev o245 (_ : Params) : Obj := f1 "go" "Clock.go" s_Clock_go "chessclock.clocks" 509 313
abbrev o246 (_ : Params) : Obj := co "_law_next" "_law_next" 677 265 2 3 385 181 683
abbrev o247 (_ : Params) : Obj := f0 "give" "Clock.give" s_Clock_give
abbrev o248 (_ : Params) : Obj := tu #[.str "_law_clock" 728, .str "_law_word" 729, .str "_law_number" 730, .str "_law_kept" 731, .str "_law_found" 732, .str "e" 733, .str "_law_kinds" 734]
abbrev o249 (_ : Params) : Obj := co "refuse_if_over" "Clock.refuse_if_over" 532 164 1 3 273 181 536
abbrev o250 (_ : Params) : Obj := f1 "game" "Clock.game" s_Clock_game "chessclock.clocks" 509 341
abbrev o251 (_ : Params) : Obj := tu #[.str "self" 570, .str "ticks" 571, .str "side" 572, .str "gone" 573]
abbrev o252 (_ : Params) : Obj := f0 "__init__" "Clock.__init__" s_Clock_init
abbrev o253 (_ : Params) : Obj := f1 "_law_tick" "_law_tick" s_law_tick "law_chessclock_k10_whole_clock" 622 397
abbrev o254 (_ : Params) : Obj := co "state" "Clock.state" 594 213 2 3 329 181 599
abbrev o255 (_ : Params) : Obj := tu #[.str "_law_script" 644, .str "_law_k" 645, .str "_law_found" 646, .str "_law_j" 647, .str "_law_number" 648, .str "_law_way" 649]
abbrev o256 (_ : Params) : Obj := f1 "refuse_if_running" "Clock.refuse_if_running" s_Clock_refuse_if_running "chessclock.clocks" 509 285
abbrev o257 (_ : Params) : Obj := f0 "_law_new" "_law_new" s_law_new
abbrev o258 (P : Params) : Obj := { cls := .type "dict", data := .dict #[de P "__name__" 165 (.str "chessclock.clocks" 509), de P "__doc__" 166 .none, de P "__package__" 167 .none, de P "__loader__" 168 (.builtin "__main__.__loader__#opaque"), de P "__spec__" 169 .none, de P "__annotations__" 170 (.ref 6), de P "__builtins__" 171 (.ref 4), de P "__file__" 173 (.str "/claim/cut.py" 172), de P "__cached__" 174 .none, de P "ClockError" 206 (.ref 24), de P "BadStages" 222 (.ref 37), de P "BadTicks" 238 (.ref 49), de P "NotNow" 254 (.ref 61), de P "Over" 270 (.ref 73), de P "MOST_STAGES" 274 (.int 5 273), de P "MOST_MOVES" 276 (.int 200 275), de P "MOST_PERIODS" 278 (.int 200 277), de P "MOST_TICKS" 280 (.int 1000000 279), de P "MOST_EXTRA" 282 (.int 1000000 281), de P "WAYS" 287 (.ref 76), de P "is_whole_within" 296 (.ref 83), de P "is_good_main" 303 (.ref 90), de P "is_good_over" 310 (.ref 97), de P "is_main" 317 (.ref 104), de P "is_over" 324 (.ref 111), de P "is_endless" 331 (.ref 118), de P "ticks_of" 338 (.ref 125), de P "is_good_stage" 345 (.ref 132), de P "may_stand_behind" 353 (.ref 139), de P "check_each" 362 (.ref 146), de P "check_order" 370 (.ref 153), de P "read_stages" 377 (.ref 160), de P "LEAST_LEFT" 381 (.int 1 380), de P "MOST_LEFT" 383 (.int 10000000 382), de P "ticks_not_counted" 391 (.ref 167), de P "ticks_for_move" 399 (.ref 174), de P "Side" 508 (.ref 254)] 37 }
abbrev o259 (P : Params) : Obj := { cls := .type "dict", data := .dict #[de P "__name__" 165 (.str "law_chessclock_k10_whole_clock" 622), de P "__doc__" 166 .none, de P "__package__" 167 .none, de P "__loader__" 168 (.builtin "__main__.__loader__#opaque"), de P "__spec__" 169 .none, de P "__annotations__" 170 (.ref 6), de P "__builtins__" 171 (.ref 4), de P "__file__" 173 (.str "/claim/cut.py" 172), de P "__cached__" 174 .none, de P "ClockError" 206 (.ref 24), de P "BadStages" 222 (.ref 37), de P "BadTicks" 238 (.ref 49), de P "NotNow" 254 (.ref 61), de P "Over" 270 (.ref 73), de P "MOST_STAGES" 274 (.int 5 273), de P "MOST_MOVES" 276 (.int 200 275), de P "MOST_PERIODS" 278 (.int 200 277), de P "MOST_TICKS" 280 (.int 1000000 279), de P "MOST_EXTRA" 282 (.int 1000000 281), de P "WAYS" 287 (.ref 76), de P "is_whole_within" 296 (.ref 83), de P "is_good_main" 303 (.ref 90), de P "is_good_over" 310 (.ref 97), de P "is_main" 317 (.ref 104), de P "is_over" 324 (.ref 111), de P "is_endless" 331 (.ref 118), de P "ticks_of" 338 (.ref 125), de P "is_good_stage" 345 (.ref 132), de P "may_stand_behind" 353 (.ref 139), de P "check_each" 362 (.ref 146), de P "check_order" 370 (.ref 153), de P "read_stages" 377 (.ref 160), de P "LEAST_LEFT" 381 (.int 1 380), de P "MOST_LEFT" 383 (.int 10000000 382), de P "ticks_not_counted" 391 (.ref 167), de P "ticks_for_move" 399 (.ref 174), de P "Side" 508 (.ref 254), de P "Clock" 621 (.ref 345), de P "_law_cell" 631 (.ref 356), de P "_law_mix" 640 (.ref 363), de P "_law_stages" 652 (.ref 370), de P "_law_deeds" 666 (.ref 377), de P "_law_new" 676 (.ref 384), de P "_law_next" 685 (.ref 391), de P "_law_tick" 694 (.ref 398), de P "_law_press" 704 (.ref 405), de P "_law_due" 715 (.ref 412), de P "_law_state" 724 (.ref 419), de P "_law_told" 737 (.ref 426), de P "_law_shown" 744 (.ref 433), de P "_law_same" 753 (.ref 440), de P "law" 759 (.ref 445)] 52 }
abbrev o260 (_ : Params) : Obj := nf #[.int 2 0, .int 0 0, .ref 20, .int 4 0, .int 0 0, .ref 33, .int 6 0, .int 0 0, .ref 45, .int 8 0, .int 0 0, .ref 57, .int 10 0, .int 0 0, .ref 69, .int 19 0, .int 0 0, .ref 82, .int 23 0, .int 0 0, .ref 89, .int 31 0, .int 0 0, .ref 96, .int 35 0, .int 0 0, .ref 103, .int 37 0, .int 0 0, .ref 110, .int 39 0, .int 0 0, .ref 117, .int 41 0, .int 0 0, .ref 124, .int 43 0, .int 0 0, .ref 131, .int 49 0, .int 0 0, .ref 138, .int 53 0, .int 0 0, .ref 145, .int 57 0, .int 0 0, .ref 152, .int 63 0, .int 0 0, .ref 159, .int 72 0, .int 0 0, .ref 166, .int 76 0, .int 0 0, .ref 173, .int 82 0, .int 0 0, .ref 180, .int 154 0, .int 0 0, .ref 264, .int 219 0, .int 0 0, .ref 355, .int 223 0, .int 0 0, .ref 362, .int 227 0, .int 0 0, .ref 369, .int 240 0, .int 0 0, .ref 376, .int 257 0, .int 0 0, .ref 383, .int 265 0, .int 0 0, .ref 390, .int 274 0, .int 0 0, .ref 397, .int 293 0, .int 0 0, .ref 404, .int 307 0, .int 0 0, .ref 411, .int 334 0, .int 0 0, .ref 418, .int 339 0, .int 0 0, .ref 425, .int 361 0, .int 0 0, .ref 432, .int 363 0, .int 0 0, .ref 439, .int 370 0, .int 0 0, .ref 444]
abbrev o261 (_ : Params) : Obj := tu #[.str "_law_one" 748, .str "_law_other" 749, .str "_law_k" 750]
abbrev o262 (_ : Params) : Obj := f0 "_law_same" "_law_same" s_law_same
abbrev o263 (_ : Params) : Obj := co "_law_same" "_law_same" 745 363 2 3 434 181 751
abbrev o264 (_ : Params) : Obj := f1 "_law_same" "_law_same" s_law_same "law_chessclock_k10_whole_clock" 622 439
abbrev o265 (_ : Params) : Obj := f0 "law" "law" s_law
abbrev o266 (_ : Params) : Obj := { cls := .type "code", data := .fields #[.str "law" 754, .str "law" 755, .str "/claim/cut.py" 756, .int 370 0, .int 1 0, .int 0 0, .int 0 0, .int 3 0, .ref 441, .bool true, .int 181 0, .ref 442, .none, .none, .none, .ref 443, .int 757 0, .int 370 0, .str "/claim/cut.py" 758] }
abbrev o267 (_ : Params) : Obj := f1 "law" "law" s_law "law_chessclock_k10_whole_clock" 622 444
abbrev o268 (P : Params) : Obj := { cls := .type "dict", data := .dict #[de P "__name__" 165 (.str "chessclock.clocks" 509), de P "__doc__" 166 .none, de P "__package__" 167 .none, de P "__loader__" 168 (.builtin "__main__.__loader__#opaque"), de P "__spec__" 169 .none, de P "__annotations__" 170 (.ref 6), de P "__builtins__" 171 (.ref 4), de P "__file__" 173 (.str "/claim/cut.py" 172), de P "__cached__" 174 .none, de P "ClockError" 206 (.ref 24), de P "BadStages" 222 (.ref 37), de P "BadTicks" 238 (.ref 49), de P "NotNow" 254 (.ref 61), de P "Over" 270 (.ref 73), de P "MOST_STAGES" 274 (.int 5 273), de P "MOST_MOVES" 276 (.int 200 275), de P "MOST_PERIODS" 278 (.int 200 277), de P "MOST_TICKS" 280 (.int 1000000 279), de P "MOST_EXTRA" 282 (.int 1000000 281), de P "WAYS" 287 (.ref 76), de P "is_whole_within" 296 (.ref 83), de P "is_good_main" 303 (.ref 90), de P "is_good_over" 310 (.ref 97), de P "is_main" 317 (.ref 104), de P "is_over" 324 (.ref 111), de P "is_endless" 331 (.ref 118), de P "ticks_of" 338 (.ref 125), de P "is_good_stage" 345 (.ref 132), de P "may_stand_behind" 353 (.ref 139), de P "check_each" 362 (.ref 146), de P "check_order" 370 (.ref 153), de P "read_stages" 377 (.ref 160), de P "LEAST_LEFT" 381 (.int 1 380), de P "MOST_LEFT" 383 (.int 10000000 382), de P "ticks_not_counted" 391 (.ref 167), de P "ticks_for_move" 399 (.ref 174), de P "Side" 508 (.ref 254), de P "Clock" 621 (.ref 345)] 38 }
abbrev o269 (_ : Params) : Obj := nf #[.int 2 0, .int 0 0, .ref 20, .int 4 0, .int 0 0, .ref 33, .int 6 0, .int 0 0, .ref 45, .int 8 0, .int 0 0, .ref 57, .int 10 0, .int 0 0, .ref 69, .int 19 0, .int 0 0, .ref 82, .int 23 0, .int 0 0, .ref 89, .int 31 0, .int 0 0, .ref 96, .int 35 0, .int 0 0, .ref 103, .int 37 0, .int 0 0, .ref 110, .int 39 0, .int 0 0, .ref 117, .int 41 0, .int 0 0, .ref 124, .int 43 0, .int 0 0, .ref 131, .int 49 0, .int 0 0, .ref 138, .int 53 0, .int 0 0, .ref 145, .int 57 0, .int 0 0, .ref 152, .int 63 0, .int 0 0, .ref 159, .int 72 0, .int 0 0, .ref 166, .int 76 0, .int 0 0, .ref 173, .int 82 0, .int 0 0, .ref 180, .int 154 0, .int 0 0, .ref 264]
end
end My
lay_quick My.o0 My.o1 My.o2 My.o3 My.o4 My.o5 My.o6 My.o7 My.o8 My.o9 My.o10 My.o11 My.o12 My.o13 My.o14 My.o15 My.o16 My.o17 My.o18 My.o19 My.o20 My.o21 My.o22 My.o23 My.o24 My.o25 My.o26 My.o27 My.o28 My.o29 My.o30 My.o31 My.o32 My.o33 My.o34 My.o35 My.o36 My.o37 My.o38 My.o39
lay_quick My.o40 My.o41 My.o42 My.o43 My.o44 My.o45 My.o46 My.o47 My.o48 My.o49 My.o50 My.o51 My.o52 My.o53 My.o54 My.o55 My.o56 My.o57 My.o58 My.o59 My.o60 My.o61 My.o62 My.o63 My.o64 My.o65 My.o66 My.o67 My.o68 My.o69 My.o70 My.o71 My.o72 My.o73 My.o74 My.o75 My.o76 My.o77 My.o78 My.o79
lay_quick My.o80 My.o81 My.o82 My.o83 My.o84 My.o85 My.o86 My.o87 My.o88 My.o89 My.o90 My.o91 My.o92 My.o93 My.o94 My.o95 My.o96 My.o97 My.o98 My.o99 My.o100 My.o101 My.o102 My.o103 My.o104 My.o105 My.o106 My.o107 My.o108 My.o109 My.o110 My.o111 My.o112 My.o113 My.o114 My.o115 My.o116 My.o117 My.o118 My.o119
lay_quick My.o120 My.o121 My.o122 My.o123 My.o124 My.o125 My.o126 My.o127 My.o128 My.o129 My.o130 My.o131 My.o132 My.o133 My.o134 My.o135 My.o136 My.o137 My.o138 My.o139 My.o140 My.o141 My.o142 My.o143 My.o144 My.o145 My.o146 My.o147 My.o148 My.o149 My.o150 My.o151 My.o152 My.o153 My.o154 My.o155 My.o156 My.o157 My.o158 My.o159
lay_quick My.o160 My.o161 My.o162 My.o163 My.o164 My.o165 My.o166 My.o167 My.o168 My.o169 My.o170 My.o171 My.o172 My.o173 My.o174 My.o175 My.o176 My.o177 My.o178 My.o179 My.o180 My.o181 My.o182 My.o183 My.o184 My.o185 My.o186 My.o187 My.o188 My.o189 My.o190 My.o191 My.o192 My.o193 My.o194 My.o195 My.o196 My.o197 My.o198 My.o199
lay_quick My.o200 My.o201 My.o202 My.o203 My.o204 My.o205 My.o206 My.o207 My.o208 My.o209 My.o210 My.o211 My.o212 My.o213 My.o214 My.o215 My.o216 My.o217 My.o218 My.o219 My.o220 My.o221 My.o222 My.o223 My.o224 My.o225 My.o226 My.o227 My.o228 My.o229 My.o230 My.o231 My.o232 My.o233 My.o234 My.o235 My.o236 My.o237 My.o238 My.o239
lay_quick My.o240 My.o241 My.o242 My.o243 My.o244 My.o245 My.o246 My.o247 My.o248 My.o249 My.o250 My.o251 My.o252 My.o253 My.o254 My.o255 My.o256 My.o257 My.o258 My.o259 My.o260 My.o261 My.o262 My.o263 My.o264 My.o265 My.o266 My.o267 My.o268 My.o269
namespace My
open PySem.W.Fast
noncomputable section
variable (P : Params)
theorem nc {a b : Obj} {l m r s : BT} (x : a = b) (y : l = m) (z : r = s) : BT.node a l r = BT.node b m s := by rw [x, y, z]
theorem nn : BT.nil = BT.nil := rfl
theorem ln : ([] : List Obj) = [] := rfl
theorem lc {a b : Obj} {l m : List Obj} (x : a = b) (y : l = m) : a :: l = b :: m := by rw [x, y]
theorem hc {l m : List Obj} (y : l = m) : ({ objs := { toList := l } } : Heap) = { objs := { toList := m } } := by rw [y]
abbrev q0 := tw8533097929747773689
theorem e0 : o0 P = q0 P := congrFun te8533097929747773689 P
abbrev q1 := tw5772729331190384419
theorem e1 : o1 P = q1 P := congrFun te5772729331190384419 P
abbrev q2 := tw5629456329008531418
theorem e2 : o2 P = q2 P := congrFun te5629456329008531418 P
abbrev q3 := tw2234296638544255054
theorem e3 : o3 P = q3 P := congrFun te2234296638544255054 P
abbrev q4 := o4
theorem e4 : o4 P = q4 P := rfl
abbrev q5 := tw7581693300292517931
theorem e5 : o5 P = q5 P := congrFun te7581693300292517931 P
abbrev q6 := tw7611213710259580490
theorem e6 : o6 P = q6 P := congrFun te7611213710259580490 P
abbrev q7 := tw5221326247427517072
theorem e7 : o7 P = q7 P := congrFun te5221326247427517072 P
abbrev q8 := tw5410812684768715714
theorem e8 : o8 P = q8 P := congrFun te5410812684768715714 P
abbrev q9 := tw8933703887131732022
theorem e9 : o9 P = q9 P := congrFun te8933703887131732022 P
abbrev q10 := tw6757990780035885199
theorem e10 : o10 P = q10 P := congrFun te6757990780035885199 P
abbrev q11 := tw1265028980539565696
theorem e11 : o11 P = q11 P := congrFun te1265028980539565696 P
abbrev q12 := tw14601582743883388066
theorem e12 : o12 P = q12 P := congrFun te14601582743883388066 P
abbrev q13 := tw2363031897482896746
theorem e13 : o13 P = q13 P := congrFun te2363031897482896746 P
abbrev q14 := tw3758621585966807915
theorem e14 : o14 P = q14 P := congrFun te3758621585966807915 P
abbrev q15 := tw10236212625943409041
theorem e15 : o15 P = q15 P := congrFun te10236212625943409041 P
abbrev q16 := tw7090117153336426893
theorem e16 : o16 P = q16 P := congrFun te7090117153336426893 P
abbrev q17 := tw15373690551850867593
theorem e17 : o17 P = q17 P := congrFun te15373690551850867593 P
abbrev q18 := tw9801227322786989325
theorem e18 : o18 P = q18 P := congrFun te9801227322786989325 P
abbrev q19 := tw1962732271173322335
theorem e19 : o19 P = q19 P := congrFun te1962732271173322335 P
abbrev q20 := tw12301392609441231260
theorem e20 : o20 P = q20 P := congrFun te12301392609441231260 P
abbrev q21 := tw3820001473360076554
theorem e21 : o21 P = q21 P := congrFun te3820001473360076554 P
abbrev q22 := tw6186989993687303789
theorem e22 : o22 P = q22 P := congrFun te6186989993687303789 P
abbrev q23 := tw7681778525842668438
theorem e23 : o23 P = q23 P := congrFun te7681778525842668438 P
abbrev q24 := tw15484212382943979547
theorem e24 : o24 P = q24 P := congrFun te15484212382943979547 P
abbrev q25 := tw10378869062835543280
theorem e25 : o25 P = q25 P := congrFun te10378869062835543280 P
abbrev q26 := o26
theorem e26 : o26 P = q26 P := rfl
abbrev q27 := tw8864964887363490516
theorem e27 : o27 P = q27 P := congrFun te8864964887363490516 P
abbrev q28 := tw8796383337804139576
theorem e28 : o28 P = q28 P := congrFun te8796383337804139576 P
abbrev q29 := tw6199273256264221016
theorem e29 : o29 P = q29 P := congrFun te6199273256264221016 P
abbrev q30 := tw657497405466523841
theorem e30 : o30 P = q30 P := congrFun te657497405466523841 P
abbrev q31 := tw15210211161653401527
theorem e31 : o31 P = q31 P := congrFun te15210211161653401527 P
abbrev q32 := tw12878011552241434259
theorem e32 : o32 P = q32 P := congrFun te12878011552241434259 P
abbrev q33 := tw10277606652245973743
theorem e33 : o33 P = q33 P := congrFun te10277606652245973743 P
abbrev q34 := tw14397260454695697005
theorem e34 : o34 P = q34 P := congrFun te14397260454695697005 P
abbrev q35 := tw4842157229073119438
theorem e35 : o35 P = q35 P := congrFun te4842157229073119438 P
abbrev q36 := tw11663395652513552851
theorem e36 : o36 P = q36 P := congrFun te11663395652513552851 P
abbrev q37 := tw10944618220244831301
theorem e37 : o37 P = q37 P := congrFun te10944618220244831301 P
abbrev q38 := tw2062328448160255627
theorem e38 : o38 P = q38 P := congrFun te2062328448160255627 P
abbrev q39 := tw11453628529941797439
theorem e39 : o39 P = q39 P := congrFun te11453628529941797439 P
abbrev q40 := tw12816066876957202860
theorem e40 : o40 P = q40 P := congrFun te12816066876957202860 P
abbrev q41 := tw14432086480130312194
theorem e41 : o41 P = q41 P := congrFun te14432086480130312194 P
abbrev q42 := tw1313401173592005808
theorem e42 : o42 P = q42 P := congrFun te1313401173592005808 P
abbrev q43 := tw3919540722720035901
theorem e43 : o43 P = q43 P := congrFun te3919540722720035901 P
abbrev q44 := tw9528187956841021830
theorem e44 : o44 P = q44 P := congrFun te9528187956841021830 P
abbrev q45 := tw11957500981744029003
theorem e45 : o45 P = q45 P := congrFun te11957500981744029003 P
abbrev q46 := tw14463048748907718572
theorem e46 : o46 P = q46 P := congrFun te14463048748907718572 P
abbrev q47 := tw12320947509055830452
theorem e47 : o47 P = q47 P := congrFun te12320947509055830452 P
abbrev q48 := tw6168130439584606253
theorem e48 : o48 P = q48 P := congrFun te6168130439584606253 P
abbrev q49 := tw13391112033654623175
theorem e49 : o49 P = q49 P := congrFun te13391112033654623175 P
abbrev q50 := tw6168657415654008443
theorem e50 : o50 P = q50 P := congrFun te6168657415654008443 P
abbrev q51 := tw13888481738431368023
theorem e51 : o51 P = q51 P := congrFun te13888481738431368023 P
abbrev q52 := tw9501667114912904351
theorem e52 : o52 P = q52 P := congrFun te9501667114912904351 P
abbrev q53 := tw14709203085403203008
theorem e53 : o53 P = q53 P := congrFun te14709203085403203008 P
abbrev q54 := tw5565097868127973583
theorem e54 : o54 P = q54 P := congrFun te5565097868127973583 P
abbrev q55 := tw3292731860077747940
theorem e55 : o55 P = q55 P := congrFun te3292731860077747940 P
abbrev q56 := tw5241089871397088347
theorem e56 : o56 P = q56 P := congrFun te5241089871397088347 P
abbrev q57 := tw8629607682061985125
theorem e57 : o57 P = q57 P := congrFun te8629607682061985125 P
abbrev q58 := tw14608598965365088814
theorem e58 : o58 P = q58 P := congrFun te14608598965365088814 P
abbrev q59 := tw8642505186595585561
theorem e59 : o59 P = q59 P := congrFun te8642505186595585561 P
abbrev q60 := tw14966688390567687426
theorem e60 : o60 P = q60 P := congrFun te14966688390567687426 P
abbrev q61 := tw15838493271717624566
theorem e61 : o61 P = q61 P := congrFun te15838493271717624566 P
abbrev q62 := tw310634959373245894
theorem e62 : o62 P = q62 P := congrFun te310634959373245894 P
abbrev q63 := tw11360684829234687833
theorem e63 : o63 P = q63 P := congrFun te11360684829234687833 P
abbrev q64 := tw7638205631104576926
theorem e64 : o64 P = q64 P := congrFun te7638205631104576926 P
abbrev q65 := tw15869872158889059335
theorem e65 : o65 P = q65 P := congrFun te15869872158889059335 P
abbrev q66 := tw12170109842727003320
theorem e66 : o66 P = q66 P := congrFun te12170109842727003320 P
abbrev q67 := tw15590623314113654001
theorem e67 : o67 P = q67 P := congrFun te15590623314113654001 P
abbrev q68 := tw9527803884607448170
theorem e68 : o68 P = q68 P := congrFun te9527803884607448170 P
abbrev q69 := tw3813659600433083201
theorem e69 : o69 P = q69 P := congrFun te3813659600433083201 P
abbrev q70 := tw1301145986959717355
theorem e70 : o70 P = q70 P := congrFun te1301145986959717355 P
abbrev q71 := tw9779355951126726763
theorem e71 : o71 P = q71 P := congrFun te9779355951126726763 P
abbrev q72 := tw6432171311135315542
theorem e72 : o72 P = q72 P := congrFun te6432171311135315542 P
abbrev q73 := tw4470765677315760890
theorem e73 : o73 P = q73 P := congrFun te4470765677315760890 P
abbrev q74 := tw5934439489586704432
theorem e74 : o74 P = q74 P := congrFun te5934439489586704432 P
abbrev q75 := tw12518673732932554504
theorem e75 : o75 P = q75 P := congrFun te12518673732932554504 P
abbrev q76 := tw4404198496616641152
theorem e76 : o76 P = q76 P := congrFun te4404198496616641152 P
abbrev q77 := tw34860005147797521
theorem e77 : o77 P = q77 P := congrFun te34860005147797521 P
abbrev q78 := tw2060308920490655666
theorem e78 : o78 P = q78 P := congrFun te2060308920490655666 P
abbrev q79 := tw4702354516805875115
theorem e79 : o79 P = q79 P := congrFun te4702354516805875115 P
abbrev q80 := tw10724658011921508587
theorem e80 : o80 P = q80 P := congrFun te10724658011921508587 P
abbrev q81 := tw2239800882384454396
theorem e81 : o81 P = q81 P := congrFun te2239800882384454396 P
abbrev q82 := tw12781604036019007871
theorem e82 : o82 P = q82 P := congrFun te12781604036019007871 P
abbrev q83 := tw16547674719710777406
theorem e83 : o83 P = q83 P := congrFun te16547674719710777406 P
abbrev q84 := tw2134377711985098099
theorem e84 : o84 P = q84 P := congrFun te2134377711985098099 P
abbrev q85 := tw8718709627900163265
theorem e85 : o85 P = q85 P := congrFun te8718709627900163265 P
abbrev q86 := tw664236733968323891
theorem e86 : o86 P = q86 P := congrFun te664236733968323891 P
abbrev q87 := tw994897396605717060
theorem e87 : o87 P = q87 P := congrFun te994897396605717060 P
abbrev q88 := tw15683687252577302468
theorem e88 : o88 P = q88 P := congrFun te15683687252577302468 P
abbrev q89 := tw6494268056996043255
theorem e89 : o89 P = q89 P := congrFun te6494268056996043255 P
abbrev q90 := tw16754824406547103460
theorem e90 : o90 P = q90 P := congrFun te16754824406547103460 P
abbrev q91 := tw11737804116370658893
theorem e91 : o91 P = q91 P := congrFun te11737804116370658893 P
abbrev q92 := tw2286445157512210836
theorem e92 : o92 P = q92 P := congrFun te2286445157512210836 P
abbrev q93 := tw2845087862395172221
theorem e93 : o93 P = q93 P := congrFun te2845087862395172221 P
abbrev q94 := o94
theorem e94 : o94 P = q94 P := rfl
abbrev q95 := tw5855402102330953645
theorem e95 : o95 P = q95 P := congrFun te5855402102330953645 P
abbrev q96 := tw4392565697177006943
theorem e96 : o96 P = q96 P := congrFun te4392565697177006943 P
abbrev q97 := tw10596879244163486821
theorem e97 : o97 P = q97 P := congrFun te10596879244163486821 P
abbrev q98 := tw4453064593800127321
theorem e98 : o98 P = q98 P := congrFun te4453064593800127321 P
abbrev q99 := tw8985949369278241622
theorem e99 : o99 P = q99 P := congrFun te8985949369278241622 P
abbrev q100 := tw17863424123056235128
theorem e100 : o100 P = q100 P := congrFun te17863424123056235128 P
abbrev q101 := tw7024806136920764598
theorem e101 : o101 P = q101 P := congrFun te7024806136920764598 P
abbrev q102 := tw12404203788015491281
theorem e102 : o102 P = q102 P := congrFun te12404203788015491281 P
abbrev q103 := tw9942060923361245906
theorem e103 : o103 P = q103 P := congrFun te9942060923361245906 P
abbrev q104 := tw1516026411828414585
theorem e104 : o104 P = q104 P := congrFun te1516026411828414585 P
abbrev q105 := tw8792520156836367497
theorem e105 : o105 P = q105 P := congrFun te8792520156836367497 P
abbrev q106 := tw6436219008050104802
theorem e106 : o106 P = q106 P := congrFun te6436219008050104802 P
abbrev q107 := tw17894205308728203738
theorem e107 : o107 P = q107 P := congrFun te17894205308728203738 P
abbrev q108 := tw2765202469285941102
theorem e108 : o108 P = q108 P := congrFun te2765202469285941102 P
abbrev q109 := tw13091107273969244441
theorem e109 : o109 P = q109 P := congrFun te13091107273969244441 P
abbrev q110 := tw16050117554844099257
theorem e110 : o110 P = q110 P := congrFun te16050117554844099257 P
abbrev q111 := tw7410003819491906061
theorem e111 : o111 P = q111 P := congrFun te7410003819491906061 P
abbrev q112 := tw10229069240375377268
theorem e112 : o112 P = q112 P := congrFun te10229069240375377268 P
abbrev q113 := tw333722041776647040
theorem e113 : o113 P = q113 P := congrFun te333722041776647040 P
abbrev q114 := tw7380563705888895160
theorem e114 : o114 P = q114 P := congrFun te7380563705888895160 P
abbrev q115 := tw16848586959715688586
theorem e115 : o115 P = q115 P := congrFun te16848586959715688586 P
abbrev q116 := tw14263011436865279198
theorem e116 : o116 P = q116 P := congrFun te14263011436865279198 P
abbrev q117 := tw16428383770739004033
theorem e117 : o117 P = q117 P := congrFun te16428383770739004033 P
abbrev q118 := tw133820429618689216
theorem e118 : o118 P = q118 P := congrFun te133820429618689216 P
abbrev q119 := tw2254050650545251561
theorem e119 : o119 P = q119 P := congrFun te2254050650545251561 P
abbrev q120 := tw4148516744594779490
theorem e120 : o120 P = q120 P := congrFun te4148516744594779490 P
abbrev q121 := tw1218861245310617954
theorem e121 : o121 P = q121 P := congrFun te1218861245310617954 P
abbrev q122 := tw16277936383352311686
theorem e122 : o122 P = q122 P := congrFun te16277936383352311686 P
abbrev q123 := tw12556554042217254741
theorem e123 : o123 P = q123 P := congrFun te12556554042217254741 P
abbrev q124 := tw17220063090281182758
theorem e124 : o124 P = q124 P := congrFun te17220063090281182758 P
abbrev q125 := tw2250150331862584962
theorem e125 : o125 P = q125 P := congrFun te2250150331862584962 P
abbrev q126 := tw2516370381094233961
theorem e126 : o126 P = q126 P := congrFun te2516370381094233961 P
abbrev q127 := tw14816786967578267311
theorem e127 : o127 P = q127 P := congrFun te14816786967578267311 P
abbrev q128 := tw8321764965279005655
theorem e128 : o128 P = q128 P := congrFun te8321764965279005655 P
abbrev q129 := tw16985385352039676134
theorem e129 : o129 P = q129 P := congrFun te16985385352039676134 P
abbrev q130 := tw9912531911477583607
theorem e130 : o130 P = q130 P := congrFun te9912531911477583607 P
abbrev q131 := tw7003306799829450086
theorem e131 : o131 P = q131 P := congrFun te7003306799829450086 P
abbrev q132 := tw14543117718349355071
theorem e132 : o132 P = q132 P := congrFun te14543117718349355071 P
abbrev q133 := tw6485490863556948359
theorem e133 : o133 P = q133 P := congrFun te6485490863556948359 P
abbrev q134 := tw13369073078674323860
theorem e134 : o134 P = q134 P := congrFun te13369073078674323860 P
abbrev q135 := tw9898464038177235991
theorem e135 : o135 P = q135 P := congrFun te9898464038177235991 P
abbrev q136 := tw18403687062660703375
theorem e136 : o136 P = q136 P := congrFun te18403687062660703375 P
abbrev q137 := tw7170056911955118404
theorem e137 : o137 P = q137 P := congrFun te7170056911955118404 P
abbrev q138 := tw9483134775425567164
theorem e138 : o138 P = q138 P := congrFun te9483134775425567164 P
abbrev q139 := tw18417278978195480920
theorem e139 : o139 P = q139 P := congrFun te18417278978195480920 P
abbrev q140 := tw10138724066327186983
theorem e140 : o140 P = q140 P := congrFun te10138724066327186983 P
abbrev q141 := tw11363692119684329795
theorem e141 : o141 P = q141 P := congrFun te11363692119684329795 P
abbrev q142 := tw17956428561424841673
theorem e142 : o142 P = q142 P := congrFun te17956428561424841673 P
abbrev q143 := tw2158819406474118863
theorem e143 : o143 P = q143 P := congrFun te2158819406474118863 P
abbrev q144 := tw18328054017572230755
theorem e144 : o144 P = q144 P := congrFun te18328054017572230755 P
abbrev q145 := tw489940063410014646
theorem e145 : o145 P = q145 P := congrFun te489940063410014646 P
abbrev q146 := tw17473408665117288537
theorem e146 : o146 P = q146 P := congrFun te17473408665117288537 P
abbrev q147 := tw9850000701640872903
theorem e147 : o147 P = q147 P := congrFun te9850000701640872903 P
abbrev q148 := tw2737702486083006529
theorem e148 : o148 P = q148 P := congrFun te2737702486083006529 P
abbrev q149 := tw6286132879183222562
theorem e149 : o149 P = q149 P := congrFun te6286132879183222562 P
abbrev q150 := tw2284720595745124537
theorem e150 : o150 P = q150 P := congrFun te2284720595745124537 P
abbrev q151 := tw4126747140724063320
theorem e151 : o151 P = q151 P := congrFun te4126747140724063320 P
abbrev q152 := tw5301575478191425689
theorem e152 : o152 P = q152 P := congrFun te5301575478191425689 P
abbrev q153 := tw8172660097847790329
theorem e153 : o153 P = q153 P := congrFun te8172660097847790329 P
abbrev q154 := tw3292776888583582665
theorem e154 : o154 P = q154 P := congrFun te3292776888583582665 P
abbrev q155 := tw7901959207025009057
theorem e155 : o155 P = q155 P := congrFun te7901959207025009057 P
abbrev q156 := tw7796100562241476045
theorem e156 : o156 P = q156 P := congrFun te7796100562241476045 P
abbrev q157 := tw5237773267323360824
theorem e157 : o157 P = q157 P := congrFun te5237773267323360824 P
abbrev q158 := tw11710268937570728139
theorem e158 : o158 P = q158 P := congrFun te11710268937570728139 P
abbrev q159 := tw4286858153267536431
theorem e159 : o159 P = q159 P := congrFun te4286858153267536431 P
abbrev q160 := tw13451179948078199768
theorem e160 : o160 P = q160 P := congrFun te13451179948078199768 P
abbrev q161 := o161
theorem e161 : o161 P = q161 P := rfl
abbrev q162 := tw12021086207690181529
theorem e162 : o162 P = q162 P := congrFun te12021086207690181529 P
abbrev q163 := tw529305671509775491
theorem e163 : o163 P = q163 P := congrFun te529305671509775491 P
abbrev q164 := tw875273754651040385
theorem e164 : o164 P = q164 P := congrFun te875273754651040385 P
abbrev q165 := tw436804711972671236
theorem e165 : o165 P = q165 P := congrFun te436804711972671236 P
abbrev q166 := tw10174060570185440259
theorem e166 : o166 P = q166 P := congrFun te10174060570185440259 P
abbrev q167 := tw5190244555363864226
theorem e167 : o167 P = q167 P := congrFun te5190244555363864226 P
abbrev q168 := tw9479372226180827317
theorem e168 : o168 P = q168 P := congrFun te9479372226180827317 P
abbrev q169 := tw434400112301813039
theorem e169 : o169 P = q169 P := congrFun te434400112301813039 P
abbrev q170 := tw4060658971496142404
theorem e170 : o170 P = q170 P := congrFun te4060658971496142404 P
abbrev q171 := tw5701872098340286377
theorem e171 : o171 P = q171 P := congrFun te5701872098340286377 P
abbrev q172 := tw6194755648562002059
theorem e172 : o172 P = q172 P := congrFun te6194755648562002059 P
abbrev q173 := tw7662159151464966788
theorem e173 : o173 P = q173 P := congrFun te7662159151464966788 P
abbrev q174 := tw15485254368275606021
theorem e174 : o174 P = q174 P := congrFun te15485254368275606021 P
abbrev q175 := tw4582947134297386685
theorem e175 : o175 P = q175 P := congrFun te4582947134297386685 P
abbrev q176 := tw1776286962336263100
theorem e176 : o176 P = q176 P := congrFun te1776286962336263100 P
abbrev q177 := tw14376615310322320778
theorem e177 : o177 P = q177 P := congrFun te14376615310322320778 P
abbrev q178 := tw8289614001596199533
theorem e178 : o178 P = q178 P := congrFun te8289614001596199533 P
abbrev q179 := tw6274061865616058028
theorem e179 : o179 P = q179 P := congrFun te6274061865616058028 P
abbrev q180 := tw7792675157245652985
theorem e180 : o180 P = q180 P := congrFun te7792675157245652985 P
abbrev q181 := tw1972488141308858391
theorem e181 : o181 P = q181 P := congrFun te1972488141308858391 P
abbrev q182 := tw16328811403993152255
theorem e182 : o182 P = q182 P := congrFun te16328811403993152255 P
abbrev q183 := tw12299614956636651984
theorem e183 : o183 P = q183 P := congrFun te12299614956636651984 P
abbrev q184 := tw6820456572662096540
theorem e184 : o184 P = q184 P := congrFun te6820456572662096540 P
abbrev q185 := tw13914313905055095654
theorem e185 : o185 P = q185 P := congrFun te13914313905055095654 P
abbrev q186 := tw11912755395939683249
theorem e186 : o186 P = q186 P := congrFun te11912755395939683249 P
abbrev q187 := tw17763569781640656540
theorem e187 : o187 P = q187 P := congrFun te17763569781640656540 P
abbrev q188 := tw13842731780529855390
theorem e188 : o188 P = q188 P := congrFun te13842731780529855390 P
abbrev q189 := tw9185121233577882657
theorem e189 : o189 P = q189 P := congrFun te9185121233577882657 P
abbrev q190 := tw6119227972859443254
theorem e190 : o190 P = q190 P := congrFun te6119227972859443254 P
abbrev q191 := tw13983307951368136601
theorem e191 : o191 P = q191 P := congrFun te13983307951368136601 P
abbrev q192 := tw5274334717379719432
theorem e192 : o192 P = q192 P := congrFun te5274334717379719432 P
abbrev q193 := tw14020308367625636858
theorem e193 : o193 P = q193 P := congrFun te14020308367625636858 P
abbrev q194 := tw1207441793618667458
theorem e194 : o194 P = q194 P := congrFun te1207441793618667458 P
abbrev q195 := tw4819418690053628797
theorem e195 : o195 P = q195 P := congrFun te4819418690053628797 P
abbrev q196 := tw10480061251746210054
theorem e196 : o196 P = q196 P := congrFun te10480061251746210054 P
abbrev q197 := tw1310469300349144372
theorem e197 : o197 P = q197 P := congrFun te1310469300349144372 P
abbrev q198 := tw16701997941792278322
theorem e198 : o198 P = q198 P := congrFun te16701997941792278322 P
abbrev q199 := tw10341676492098460015
theorem e199 : o199 P = q199 P := congrFun te10341676492098460015 P
abbrev q200 := tw11677135215909528587
theorem e200 : o200 P = q200 P := congrFun te11677135215909528587 P
abbrev q201 := tw4530665422240164234
theorem e201 : o201 P = q201 P := congrFun te4530665422240164234 P
abbrev q202 := tw17191543705707191888
theorem e202 : o202 P = q202 P := congrFun te17191543705707191888 P
abbrev q203 := tw17265858154516060994
theorem e203 : o203 P = q203 P := congrFun te17265858154516060994 P
abbrev q204 := tw2597494012312069643
theorem e204 : o204 P = q204 P := congrFun te2597494012312069643 P
abbrev q205 := tw16573799674637252778
theorem e205 : o205 P = q205 P := congrFun te16573799674637252778 P
abbrev q206 := tw2867653173953292361
theorem e206 : o206 P = q206 P := congrFun te2867653173953292361 P
abbrev q207 := tw14302204524469538586
theorem e207 : o207 P = q207 P := congrFun te14302204524469538586 P
abbrev q208 := tw3307499276326201113
theorem e208 : o208 P = q208 P := congrFun te3307499276326201113 P
abbrev q209 := tw18358514189006645798
theorem e209 : o209 P = q209 P := congrFun te18358514189006645798 P
abbrev q210 := tw11461830854473101366
theorem e210 : o210 P = q210 P := congrFun te11461830854473101366 P
abbrev q211 := tw14778654916624123806
theorem e211 : o211 P = q211 P := congrFun te14778654916624123806 P
abbrev q212 := tw6441641233613584892
theorem e212 : o212 P = q212 P := congrFun te6441641233613584892 P
abbrev q213 := tw3118786843086780207
theorem e213 : o213 P = q213 P := congrFun te3118786843086780207 P
abbrev q214 := tw16893461605017538802
theorem e214 : o214 P = q214 P := congrFun te16893461605017538802 P
abbrev q215 := tw16799589598726210443
theorem e215 : o215 P = q215 P := congrFun te16799589598726210443 P
abbrev q216 := tw4489029148395005119
theorem e216 : o216 P = q216 P := congrFun te4489029148395005119 P
abbrev q217 := tw5210726037994840403
theorem e217 : o217 P = q217 P := congrFun te5210726037994840403 P
abbrev q218 := tw4049263446557131144
theorem e218 : o218 P = q218 P := congrFun te4049263446557131144 P
abbrev q219 := tw5320914368412776945
theorem e219 : o219 P = q219 P := congrFun te5320914368412776945 P
abbrev q220 := o220
theorem e220 : o220 P = q220 P := rfl
abbrev q221 := tw12746761935591552014
theorem e221 : o221 P = q221 P := congrFun te12746761935591552014 P
abbrev q222 := tw2710736636576967425
theorem e222 : o222 P = q222 P := congrFun te2710736636576967425 P
abbrev q223 := tw8869139552320484850
theorem e223 : o223 P = q223 P := congrFun te8869139552320484850 P
abbrev q224 := tw11828137634128743862
theorem e224 : o224 P = q224 P := congrFun te11828137634128743862 P
abbrev q225 := tw15023427162702564619
theorem e225 : o225 P = q225 P := congrFun te15023427162702564619 P
abbrev q226 := tw1471696420043842346
theorem e226 : o226 P = q226 P := congrFun te1471696420043842346 P
abbrev q227 := tw9463899808251575888
theorem e227 : o227 P = q227 P := congrFun te9463899808251575888 P
abbrev q228 := tw17291009207169768382
theorem e228 : o228 P = q228 P := congrFun te17291009207169768382 P
abbrev q229 := tw9158748842273464457
theorem e229 : o229 P = q229 P := congrFun te9158748842273464457 P
abbrev q230 := tw17744581802959212256
theorem e230 : o230 P = q230 P := congrFun te17744581802959212256 P
abbrev q231 := tw17264747522165083327
theorem e231 : o231 P = q231 P := congrFun te17264747522165083327 P
abbrev q232 := tw286050690393447217
theorem e232 : o232 P = q232 P := congrFun te286050690393447217 P
abbrev q233 := tw7463380166899443379
theorem e233 : o233 P = q233 P := congrFun te7463380166899443379 P
abbrev q234 := tw14980950200760837059
theorem e234 : o234 P = q234 P := congrFun te14980950200760837059 P
abbrev q235 := tw6235057286858445921
theorem e235 : o235 P = q235 P := congrFun te6235057286858445921 P
abbrev q236 := tw1016987299518069302
theorem e236 : o236 P = q236 P := congrFun te1016987299518069302 P
abbrev q237 := tw13308189157015711825
theorem e237 : o237 P = q237 P := congrFun te13308189157015711825 P
abbrev q238 := tw17933225050169660211
theorem e238 : o238 P = q238 P := congrFun te17933225050169660211 P
abbrev q239 := tw73250241325344519
theorem e239 : o239 P = q239 P := congrFun te73250241325344519 P
abbrev q240 := tw10132468162734047982
theorem e240 : o240 P = q240 P := congrFun te10132468162734047982 P
abbrev q241 := tw12489531178824241374
theorem e241 : o241 P = q241 P := congrFun te12489531178824241374 P
abbrev q242 := tw4101118737500933152
theorem e242 : o242 P = q242 P := congrFun te4101118737500933152 P
abbrev q243 := tw3261448353346910475
theorem e243 : o243 P = q243 P := congrFun te3261448353346910475 P
abbrev q244 := tw16552514762246476799
theorem e244 : o244 P = q244 P := congrFun te16552514762246476799 P
abbrev q245 := tw17805307583265076109
theorem e245 : o245 P = q245 P := congrFun te17805307583265076109 P
abbrev q246 := tw18344915857944656836
theorem e246 : o246 P = q246 P := congrFun te18344915857944656836 P
abbrev q247 := tw14851800974051468444
theorem e247 : o247 P = q247 P := congrFun te14851800974051468444 P
abbrev q248 := tw1048638151585452316
theorem e248 : o248 P = q248 P := congrFun te1048638151585452316 P
abbrev q249 := tw9821290421479457265
theorem e249 : o249 P = q249 P := congrFun te9821290421479457265 P
abbrev q250 := tw6843568800245646070
theorem e250 : o250 P = q250 P := congrFun te6843568800245646070 P
abbrev q251 := tw2242309872271088909
theorem e251 : o251 P = q251 P := congrFun te2242309872271088909 P
abbrev q252 := tw6618326184406369690
theorem e252 : o252 P = q252 P := congrFun te6618326184406369690 P
abbrev q253 := tw16268308435021089814
theorem e253 : o253 P = q253 P := congrFun te16268308435021089814 P
abbrev q254 := tw14229846938725419205
theorem e254 : o254 P = q254 P := congrFun te14229846938725419205 P
abbrev q255 := tw3631349378822181456
theorem e255 : o255 P = q255 P := congrFun te3631349378822181456 P
abbrev q256 := tw5546892369999770089
theorem e256 : o256 P = q256 P := congrFun te5546892369999770089 P
abbrev q257 := tw8854470517440393642
theorem e257 : o257 P = q257 P := congrFun te8854470517440393642 P
abbrev q258 := tw13966223164226891289
theorem e258 : o258 P = q258 P := congrFun te13966223164226891289 P
abbrev q259 := tw6546906574086726665
theorem e259 : o259 P = q259 P := congrFun te6546906574086726665 P
abbrev q260 := o260
theorem e260 : o260 P = q260 P := rfl
abbrev q261 := tw1498906919403780373
theorem e261 : o261 P = q261 P := congrFun te1498906919403780373 P
abbrev q262 := tw808698515154593355
theorem e262 : o262 P = q262 P := congrFun te808698515154593355 P
abbrev q263 := tw12164624843757323795
theorem e263 : o263 P = q263 P := congrFun te12164624843757323795 P
abbrev q264 := tw7197768697528384163
theorem e264 : o264 P = q264 P := congrFun te7197768697528384163 P
abbrev q265 := tw7428388912767579980
theorem e265 : o265 P = q265 P := congrFun te7428388912767579980 P
abbrev q266 := tw4952331578935688166
theorem e266 : o266 P = q266 P := congrFun te4952331578935688166 P
abbrev q267 := tw2227754387656111160
theorem e267 : o267 P = q267 P := congrFun te2227754387656111160 P
abbrev q268 := tw16432272369787906050
theorem e268 : o268 P = q268 P := congrFun te16432272369787906050 P
abbrev q269 := o269
theorem e269 : o269 P = q269 P := rfl
abbrev qb0 := boot_o_0
theorem eb0 : boot_o_0 P = qb0 P := rfl
abbrev qb1 := boot_o_1
theorem eb1 : boot_o_1 P = qb1 P := rfl
abbrev qb2 := boot_o_2
theorem eb2 : boot_o_2 P = qb2 P := rfl
abbrev qb4 := boot_o_4
theorem eb4 : boot_o_4 P = qb4 P := rfl
abbrev qb5 := boot_o_5
theorem eb5 : boot_o_5 P = qb5 P := rfl
abbrev qb6 := boot_o_6
theorem eb6 : boot_o_6 P = qb6 P := rfl
abbrev qb7 := boot_o_7
theorem eb7 : boot_o_7 P = qb7 P := rfl
abbrev qb8 := boot_o_8
theorem eb8 : boot_o_8 P = qb8 P := rfl
abbrev qb9 := boot_o_9
theorem eb9 : boot_o_9 P = qb9 P := rfl
abbrev qb10 := boot_o_10
theorem eb10 : boot_o_10 P = qb10 P := rfl
abbrev _root_.PySem.W.Fast.tw15692129040019440225 : Params → BT := fun P => .node (qb0 P) (.node (qb1 P) (.node (q0 P) (.node (qb7 P) (.node (q1 P) (.node (q2 P) (.node (q3 P) (.node (q4 P) (.node (q5 P) .nil .nil) .nil) (.node (q6 P) .nil .nil)) (.node (q7 P) (.node (q8 P) .nil .nil) (.node (q9 P) .nil .nil))) (.node (q2 P) (.node (q10 P) (.node (q2 P) .nil .nil) (.node (q11 P) .nil .nil)) (.node (q12 P) (.node (q2 P) .nil .nil) (.node (q4 P) .nil .nil)))) (.node (q13 P) (.node (q14 P) (.node (q2 P) (.node (q15 P) .nil .nil) (.node (q2 P) .nil .nil)) (.node (q16 P) (.node (q17 P) .nil .nil) (.node (q2 P) .nil .nil))) (.node (q2 P) (.node (q2 P) (.node (q18 P) .nil .nil) (.node (q19 P) .nil .nil)) (.node (q2 P) (.node (q4 P) .nil .nil) (.node (q20 P) .nil .nil))))) (.node (q2 P) (.node (q4 P) (.node (q2 P) (.node (q2 P) (.node (q21 P) .nil .nil) (.node (q22 P) .nil .nil)) (.node (q4 P) (.node (q23 P) .nil .nil) (.node (q2 P) .nil .nil))) (.node (q24 P) (.node (q25 P) (.node (q2 P) .nil .nil) (.node (q4 P) .nil .nil)) (.node (q2 P) (.node (q26 P) .nil .nil) (.node (q27 P) .nil .nil)))) (.node (q28 P) (.node (q2 P) (.node (q29 P) (.node (q30 P) .nil .nil) (.node (q2 P) .nil .nil)) (.node (q31 P) (.node (q2 P) .nil .nil) (.node (q32 P) .nil .nil))) (.node (q2 P) (.node (q2 P) (.node (q4 P) .nil .nil) (.node (q33 P) .nil .nil)) (.node (q34 P) (.node (q35 P) .nil .nil) (.node (q36 P) .nil .nil)))))) (.node (qb5 P) (.node (qb9 P) (.node (q37 P) (.node (q38 P) (.node (q39 P) (.node (q2 P) (.node (q40 P) .nil .nil) .nil) (.node (q41 P) .nil .nil)) (.node (q42 P) (.node (q2 P) .nil .nil) (.node (q4 P) .nil .nil))) (.node (q43 P) (.node (q44 P) (.node (q45 P) .nil .nil) (.node (q46 P) .nil .nil)) (.node (q4 P) (.node (q47 P) .nil .nil) (.node (q2 P) .nil .nil)))) (.node (q48 P) (.node (q39 P) (.node (q49 P) (.node (q50 P) .nil .nil) (.node (q51 P) .nil .nil)) (.node (q2 P) (.node (q4 P) .nil .nil) (.node (q52 P) .nil .nil))) (.node (q53 P) (.node (q54 P) (.node (q55 P) .nil .nil) (.node (q2 P) .nil .nil)) (.node (q56 P) (.node (q2 P) .nil .nil) (.node (q57 P) .nil .nil))))) (.node (q58 P) (.node (q59 P) (.node (q60 P) (.node (q61 P) (.node (q2 P) .nil .nil) (.node (q4 P) .nil .nil)) (.node (q2 P) (.node (q62 P) .nil .nil) (.node (q63 P) .nil .nil))) (.node (q39 P) (.node (q4 P) (.node (q64 P) .nil .nil) (.node (q2 P) .nil .nil)) (.node (q65 P) (.node (q66 P) .nil .nil) (.node (q2 P) .nil .nil)))) (.node (q39 P) (.node (q67 P) (.node (q2 P) (.node (q4 P) .nil .nil) (.node (q68 P) .nil .nil)) (.node (q69 P) (.node (q70 P) .nil .nil) (.node (q71 P) .nil .nil))) (.node (q72 P) (.node (q73 P) (.node (q2 P) .nil .nil) (.node (q74 P) .nil .nil)) (.node (q75 P) (.node (q2 P) .nil .nil) (.node (q76 P) .nil .nil))))))) (.node (qb2 P) (.node (qb4 P) (.node (qb8 P) (.node (q39 P) (.node (q4 P) (.node (q77 P) (.node (q78 P) (.node (q79 P) .nil .nil) .nil) (.node (q2 P) .nil .nil)) (.node (q80 P) (.node (q81 P) .nil .nil) (.node (q2 P) .nil .nil))) (.node (q82 P) (.node (q2 P) (.node (q83 P) .nil .nil) (.node (q84 P) .nil .nil)) (.node (q2 P) (.node (q39 P) .nil .nil) (.node (q85 P) .nil .nil)))) (.node (q86 P) (.node (q77 P) (.node (q87 P) (.node (q2 P) .nil .nil) (.node (q88 P) .nil .nil)) (.node (q89 P) (.node (q2 P) .nil .nil) (.node (q4 P) .nil .nil))) (.node (q4 P) (.node (q90 P) (.node (q91 P) .nil .nil) (.node (q92 P) .nil .nil)) (.node (q4 P) (.node (q93 P) .nil .nil) (.node (q2 P) .nil .nil))))) (.node (q94 P) (.node (q95 P) (.node (q96 P) (.node (q4 P) (.node (q97 P) .nil .nil) (.node (q2 P) .nil .nil)) (.node (q98 P) (.node (q2 P) .nil .nil) (.node (q99 P) .nil .nil))) (.node (q77 P) (.node (q2 P) (.node (q4 P) .nil .nil) (.node (q100 P) .nil .nil)) (.node (q101 P) (.node (q102 P) .nil .nil) (.node (q103 P) .nil .nil)))) (.node (q77 P) (.node (q4 P) (.node (q104 P) (.node (q2 P) .nil .nil) (.node (q4 P) .nil .nil)) (.node (q2 P) (.node (q105 P) .nil .nil) (.node (q106 P) .nil .nil))) (.node (q107 P) (.node (q4 P) (.node (q108 P) .nil .nil) (.node (q2 P) .nil .nil)) (.node (q109 P) (.node (q110 P) .nil .nil) (.node (q111 P) .nil .nil)))))) (.node (qb6 P) (.node (qb10 P) (.node (q2 P) (.node (q112 P) (.node (q113 P) (.node (q114 P) (.node (q115 P) .nil .nil) .nil) (.node (q116 P) .nil .nil)) (.node (q2 P) (.node (q4 P) .nil .nil) (.node (q117 P) .nil .nil))) (.node (q118 P) (.node (q119 P) (.node (q120 P) .nil .nil) (.node (q2 P) .nil .nil)) (.node (q121 P) (.node (q2 P) .nil .nil) (.node (q122 P) .nil .nil)))) (.node (q123 P) (.node (q124 P) (.node (q125 P) (.node (q126 P) .nil .nil) (.node (q127 P) .nil .nil)) (.node (q4 P) (.node (q128 P) .nil .nil) (.node (q2 P) .nil .nil))) (.node (q129 P) (.node (q130 P) (.node (q2 P) .nil .nil) (.node (q4 P) .nil .nil)) (.node (q2 P) (.node (q131 P) .nil .nil) (.node (q132 P) .nil .nil))))) (.node (q133 P) (.node (q2 P) (.node (q134 P) (.node (q135 P) (.node (q4 P) .nil .nil) (.node (q136 P) .nil .nil)) (.node (q137 P) (.node (q138 P) .nil .nil) (.node (q139 P) .nil .nil))) (.node (q140 P) (.node (q141 P) (.node (q2 P) .nil .nil) (.node (q142 P) .nil .nil)) (.node (q143 P) (.node (q2 P) .nil .nil) (.node (q4 P) .nil .nil)))) (.node (q144 P) (.node (q145 P) (.node (q4 P) (.node (q146 P) .nil .nil) (.node (q2 P) .nil .nil)) (.node (q147 P) (.node (q148 P) .nil .nil) (.node (q2 P) .nil .nil))) (.node (q149 P) (.node (q2 P) (.node (q150 P) .nil .nil) (.node (q151 P) .nil .nil)) (.node (q2 P) (.node (q4 P) .nil .nil) (.node (q152 P) .nil .nil)))))))
def _root_.PySem.W.Fast.te15692129040019440225 := funext fun P => nc (eb0 P) (nc (eb1 P) (nc (e0 P) (nc (eb7 P) (nc (e1 P) (nc (e2 P) (nc (e3 P) (nc (e4 P) (nc (e5 P) nn nn) nn) (nc (e6 P) nn nn)) (nc (e7 P) (nc (e8 P) nn nn) (nc (e9 P) nn nn))) (nc (e2 P) (nc (e10 P) (nc (e2 P) nn nn) (nc (e11 P) nn nn)) (nc (e12 P) (nc (e2 P) nn nn) (nc (e4 P) nn nn)))) (nc (e13 P) (nc (e14 P) (nc (e2 P) (nc (e15 P) nn nn) (nc (e2 P) nn nn)) (nc (e16 P) (nc (e17 P) nn nn) (nc (e2 P) nn nn))) (nc (e2 P) (nc (e2 P) (nc (e18 P) nn nn) (nc (e19 P) nn nn)) (nc (e2 P) (nc (e4 P) nn nn) (nc (e20 P) nn nn))))) (nc (e2 P) (nc (e4 P) (nc (e2 P) (nc (e2 P) (nc (e21 P) nn nn) (nc (e22 P) nn nn)) (nc (e4 P) (nc (e23 P) nn nn) (nc (e2 P) nn nn))) (nc (e24 P) (nc (e25 P) (nc (e2 P) nn nn) (nc (e4 P) nn nn)) (nc (e2 P) (nc (e26 P) nn nn) (nc (e27 P) nn nn)))) (nc (e28 P) (nc (e2 P) (nc (e29 P) (nc (e30 P) nn nn) (nc (e2 P) nn nn)) (nc (e31 P) (nc (e2 P) nn nn) (nc (e32 P) nn nn))) (nc (e2 P) (nc (e2 P) (nc (e4 P) nn nn) (nc (e33 P) nn nn)) (nc (e34 P) (nc (e35 P) nn nn) (nc (e36 P) nn nn)))))) (nc (eb5 P) (nc (eb9 P) (nc (e37 P) (nc (e38 P) (nc (e39 P) (nc (e2 P) (nc (e40 P) nn nn) nn) (nc (e41 P) nn nn)) (nc (e42 P) (nc (e2 P) nn nn) (nc (e4 P) nn nn))) (nc (e43 P) (nc (e44 P) (nc (e45 P) nn nn) (nc (e46 P) nn nn)) (nc (e4 P) (nc (e47 P) nn nn) (nc (e2 P) nn nn)))) (nc (e48 P) (nc (e39 P) (nc (e49 P) (nc (e50 P) nn nn) (nc (e51 P) nn nn)) (nc (e2 P) (nc (e4 P) nn nn) (nc (e52 P) nn nn))) (nc (e53 P) (nc (e54 P) (nc (e55 P) nn nn) (nc (e2 P) nn nn)) (nc (e56 P) (nc (e2 P) nn nn) (nc (e57 P) nn nn))))) (nc (e58 P) (nc (e59 P) (nc (e60 P) (nc (e61 P) (nc (e2 P) nn nn) (nc (e4 P) nn nn)) (nc (e2 P) (nc (e62 P) nn nn) (nc (e63 P) nn nn))) (nc (e39 P) (nc (e4 P) (nc (e64 P) nn nn) (nc (e2 P) nn nn)) (nc (e65 P) (nc (e66 P) nn nn) (nc (e2 P) nn nn)))) (nc (e39 P) (nc (e67 P) (nc (e2 P) (nc (e4 P) nn nn) (nc (e68 P) nn nn)) (nc (e69 P) (nc (e70 P) nn nn) (nc (e71 P) nn nn))) (nc (e72 P) (nc (e73 P) (nc (e2 P) nn nn) (nc (e74 P) nn nn)) (nc (e75 P) (nc (e2 P) nn nn) (nc (e76 P) nn nn))))))) (nc (eb2 P) (nc (eb4 P) (nc (eb8 P) (nc (e39 P) (nc (e4 P) (nc (e77 P) (nc (e78 P) (nc (e79 P) nn nn) nn) (nc (e2 P) nn nn)) (nc (e80 P) (nc (e81 P) nn nn) (nc (e2 P) nn nn))) (nc (e82 P) (nc (e2 P) (nc (e83 P) nn nn) (nc (e84 P) nn nn)) (nc (e2 P) (nc (e39 P) nn nn) (nc (e85 P) nn nn)))) (nc (e86 P) (nc (e77 P) (nc (e87 P) (nc (e2 P) nn nn) (nc (e88 P) nn nn)) (nc (e89 P) (nc (e2 P) nn nn) (nc (e4 P) nn nn))) (nc (e4 P) (nc (e90 P) (nc (e91 P) nn nn) (nc (e92 P) nn nn)) (nc (e4 P) (nc (e93 P) nn nn) (nc (e2 P) nn nn))))) (nc (e94 P) (nc (e95 P) (nc (e96 P) (nc (e4 P) (nc (e97 P) nn nn) (nc (e2 P) nn nn)) (nc (e98 P) (nc (e2 P) nn nn) (nc (e99 P) nn nn))) (nc (e77 P) (nc (e2 P) (nc (e4 P) nn nn) (nc (e100 P) nn nn)) (nc (e101 P) (nc (e102 P) nn nn) (nc (e103 P) nn nn)))) (nc (e77 P) (nc (e4 P) (nc (e104 P) (nc (e2 P) nn nn) (nc (e4 P) nn nn)) (nc (e2 P) (nc (e105 P) nn nn) (nc (e106 P) nn nn))) (nc (e107 P) (nc (e4 P) (nc (e108 P) nn nn) (nc (e2 P) nn nn)) (nc (e109 P) (nc (e110 P) nn nn) (nc (e111 P) nn nn)))))) (nc (eb6 P) (nc (eb10 P) (nc (e2 P) (nc (e112 P) (nc (e113 P) (nc (e114 P) (nc (e115 P) nn nn) nn) (nc (e116 P) nn nn)) (nc (e2 P) (nc (e4 P) nn nn) (nc (e117 P) nn nn))) (nc (e118 P) (nc (e119 P) (nc (e120 P) nn nn) (nc (e2 P) nn nn)) (nc (e121 P) (nc (e2 P) nn nn) (nc (e122 P) nn nn)))) (nc (e123 P) (nc (e124 P) (nc (e125 P) (nc (e126 P) nn nn) (nc (e127 P) nn nn)) (nc (e4 P) (nc (e128 P) nn nn) (nc (e2 P) nn nn))) (nc (e129 P) (nc (e130 P) (nc (e2 P) nn nn) (nc (e4 P) nn nn)) (nc (e2 P) (nc (e131 P) nn nn) (nc (e132 P) nn nn))))) (nc (e133 P) (nc (e2 P) (nc (e134 P) (nc (e135 P) (nc (e4 P) nn nn) (nc (e136 P) nn nn)) (nc (e137 P) (nc (e138 P) nn nn) (nc (e139 P) nn nn))) (nc (e140 P) (nc (e141 P) (nc (e2 P) nn nn) (nc (e142 P) nn nn)) (nc (e143 P) (nc (e2 P) nn nn) (nc (e4 P) nn nn)))) (nc (e144 P) (nc (e145 P) (nc (e4 P) (nc (e146 P) nn nn) (nc (e2 P) nn nn)) (nc (e147 P) (nc (e148 P) nn nn) (nc (e2 P) nn nn))) (nc (e149 P) (nc (e2 P) (nc (e150 P) nn nn) (nc (e151 P) nn nn)) (nc (e2 P) (nc (e4 P) nn nn) (nc (e152 P) nn nn)))))))
abbrev _root_.PySem.W.Fast.tw8476426477649757575 : Params → BT := fun P => .node (qb0 P) (.node (qb1 P) (.node (q153 P) (.node (qb7 P) (.node (q1 P) (.node (q2 P) (.node (q3 P) (.node (q4 P) (.node (q5 P) .nil .nil) (.node (q154 P) .nil .nil)) (.node (q6 P) (.node (q155 P) .nil .nil) .nil)) (.node (q7 P) (.node (q8 P) (.node (q2 P) .nil .nil) (.node (q156 P) .nil .nil)) (.node (q9 P) (.node (q4 P) .nil .nil) .nil))) (.node (q2 P) (.node (q10 P) (.node (q2 P) (.node (q157 P) .nil .nil) (.node (q2 P) .nil .nil)) (.node (q11 P) (.node (q158 P) .nil .nil) .nil)) (.node (q12 P) (.node (q2 P) (.node (q159 P) .nil .nil) (.node (q160 P) .nil .nil)) (.node (q4 P) (.node (q2 P) .nil .nil) .nil)))) (.node (q13 P) (.node (q14 P) (.node (q2 P) (.node (q15 P) (.node (q161 P) .nil .nil) (.node (q162 P) .nil .nil)) (.node (q2 P) (.node (q163 P) .nil .nil) .nil)) (.node (q16 P) (.node (q17 P) (.node (q4 P) .nil .nil) (.node (q2 P) .nil .nil)) (.node (q2 P) (.node (q164 P) .nil .nil) .nil))) (.node (q2 P) (.node (q2 P) (.node (q18 P) (.node (q165 P) .nil .nil) (.node (q4 P) .nil .nil)) (.node (q19 P) (.node (q166 P) .nil .nil) .nil)) (.node (q2 P) (.node (q4 P) (.node (q2 P) .nil .nil) .nil) (.node (q20 P) (.node (q167 P) .nil .nil) .nil))))) (.node (q2 P) (.node (q4 P) (.node (q2 P) (.node (q2 P) (.node (q21 P) (.node (q2 P) .nil .nil) (.node (q168 P) .nil .nil)) (.node (q22 P) (.node (q4 P) .nil .nil) .nil)) (.node (q4 P) (.node (q23 P) (.node (q169 P) .nil .nil) (.node (q170 P) .nil .nil)) (.node (q2 P) (.node (q171 P) .nil .nil) .nil))) (.node (q24 P) (.node (q25 P) (.node (q2 P) (.node (q172 P) .nil .nil) (.node (q173 P) .nil .nil)) (.node (q4 P) (.node (q2 P) .nil .nil) .nil)) (.node (q2 P) (.node (q26 P) (.node (q174 P) .nil .nil) .nil) (.node (q27 P) (.node (q2 P) .nil .nil) .nil)))) (.node (q28 P) (.node (q2 P) (.node (q29 P) (.node (q30 P) (.node (q4 P) .nil .nil) (.node (q2 P) .nil .nil)) (.node (q2 P) (.node (q175 P) .nil .nil) .nil)) (.node (q31 P) (.node (q2 P) (.node (q176 P) .nil .nil) (.node (q2 P) .nil .nil)) (.node (q32 P) (.node (q177 P) .nil .nil) .nil))) (.node (q2 P) (.node (q2 P) (.node (q4 P) (.node (q2 P) .nil .nil) (.node (q178 P) .nil .nil)) (.node (q33 P) (.node (q179 P) .nil .nil) .nil)) (.node (q34 P) (.node (q35 P) (.node (q2 P) .nil .nil) .nil) (.node (q36 P) (.node (q4 P) .nil .nil) .nil)))))) (.node (qb5 P) (.node (qb9 P) (.node (q37 P) (.node (q38 P) (.node (q39 P) (.node (q2 P) (.node (q40 P) .nil .nil) (.node (q2 P) .nil .nil)) (.node (q41 P) (.node (q180 P) .nil .nil) .nil)) (.node (q42 P) (.node (q2 P) (.node (q181 P) .nil .nil) (.node (q182 P) .nil .nil)) (.node (q4 P) (.node (q2 P) .nil .nil) .nil))) (.node (q43 P) (.node (q44 P) (.node (q45 P) (.node (q2 P) .nil .nil) (.node (q183 P) .nil .nil)) (.node (q46 P) (.node (q4 P) .nil .nil) .nil)) (.node (q4 P) (.node (q47 P) (.node (q184 P) .nil .nil) (.node (q185 P) .nil .nil)) (.node (q2 P) (.node (q186 P) .nil .nil) .nil)))) (.node (q48 P) (.node (q39 P) (.node (q49 P) (.node (q50 P) (.node (q187 P) .nil .nil) (.node (q4 P) .nil .nil)) (.node (q51 P) (.node (q2 P) .nil .nil) .nil)) (.node (q2 P) (.node (q4 P) (.node (q2 P) .nil .nil) (.node (q188 P) .nil .nil)) (.node (q52 P) (.node (q189 P) .nil .nil) .nil))) (.node (q53 P) (.node (q54 P) (.node (q55 P) (.node (q4 P) .nil .nil) (.node (q2 P) .nil .nil)) (.node (q2 P) (.node (q190 P) .nil .nil) .nil)) (.node (q56 P) (.node (q2 P) (.node (q191 P) .nil .nil) .nil) (.node (q57 P) (.node (q192 P) .nil .nil) .nil))))) (.node (q58 P) (.node (q59 P) (.node (q60 P) (.node (q61 P) (.node (q2 P) (.node (q193 P) .nil .nil) (.node (q194 P) .nil .nil)) (.node (q4 P) (.node (q2 P) .nil .nil) .nil)) (.node (q2 P) (.node (q62 P) (.node (q195 P) .nil .nil) (.node (q4 P) .nil .nil)) (.node (q63 P) (.node (q2 P) .nil .nil) .nil))) (.node (q39 P) (.node (q4 P) (.node (q64 P) (.node (q196 P) .nil .nil) (.node (q197 P) .nil .nil)) (.node (q2 P) (.node (q198 P) .nil .nil) .nil)) (.node (q65 P) (.node (q66 P) (.node (q4 P) .nil .nil) .nil) (.node (q2 P) (.node (q199 P) .nil .nil) .nil)))) (.node (q39 P) (.node (q67 P) (.node (q2 P) (.node (q4 P) (.node (q2 P) .nil .nil) (.node (q200 P) .nil .nil)) (.node (q68 P) (.node (q201 P) .nil .nil) .nil)) (.node (q69 P) (.node (q70 P) (.node (q2 P) .nil .nil) (.node (q202 P) .nil .nil)) (.node (q71 P) (.node (q4 P) .nil .nil) .nil))) (.node (q72 P) (.node (q73 P) (.node (q2 P) (.node (q203 P) .nil .nil) (.node (q2 P) .nil .nil)) (.node (q74 P) (.node (q204 P) .nil .nil) .nil)) (.node (q75 P) (.node (q2 P) (.node (q205 P) .nil .nil) .nil) (.node (q76 P) (.node (q2 P) .nil .nil) .nil))))))) (.node (qb2 P) (.node (qb4 P) (.node (qb8 P) (.node (q39 P) (.node (q4 P) (.node (q77 P) (.node (q78 P) (.node (q79 P) .nil .nil) (.node (q206 P) .nil .nil)) (.node (q2 P) (.node (q207 P) .nil .nil) .nil)) (.node (q80 P) (.node (q81 P) (.node (q4 P) .nil .nil) (.node (q2 P) .nil .nil)) (.node (q2 P) (.node (q208 P) .nil .nil) .nil))) (.node (q82 P) (.node (q2 P) (.node (q83 P) (.node (q209 P) .nil .nil) (.node (q4 P) .nil .nil)) (.node (q84 P) (.node (q2 P) .nil .nil) .nil)) (.node (q2 P) (.node (q39 P) (.node (q2 P) .nil .nil) (.node (q210 P) .nil .nil)) (.node (q85 P) (.node (q211 P) .nil .nil) .nil)))) (.node (q86 P) (.node (q77 P) (.node (q87 P) (.node (q2 P) (.node (q212 P) .nil .nil) (.node (q2 P) .nil .nil)) (.node (q88 P) (.node (q213 P) .nil .nil) .nil)) (.node (q89 P) (.node (q2 P) (.node (q214 P) .nil .nil) (.node (q215 P) .nil .nil)) (.node (q4 P) (.node (q2 P) .nil .nil) .nil))) (.node (q4 P) (.node (q90 P) (.node (q91 P) (.node (q2 P) .nil .nil) (.node (q216 P) .nil .nil)) (.node (q92 P) (.node (q217 P) .nil .nil) .nil)) (.node (q4 P) (.node (q93 P) (.node (q218 P) .nil .nil) .nil) (.node (q2 P) (.node (q219 P) .nil .nil) .nil))))) (.node (q220 P) (.node (q95 P) (.node (q96 P) (.node (q4 P) (.node (q97 P) (.node (q39 P) .nil .nil) (.node (q2 P) .nil .nil)) (.node (q2 P) (.node (q221 P) .nil .nil) .nil)) (.node (q98 P) (.node (q2 P) (.node (q222 P) .nil .nil) (.node (q2 P) .nil .nil)) (.node (q99 P) (.node (q223 P) .nil .nil) .nil))) (.node (q77 P) (.node (q2 P) (.node (q4 P) (.node (q2 P) .nil .nil) (.node (q224 P) .nil .nil)) (.node (q100 P) (.node (q225 P) .nil .nil) .nil)) (.node (q101 P) (.node (q102 P) (.node (q2 P) .nil .nil) .nil) (.node (q103 P) (.node (q4 P) .nil .nil) .nil)))) (.node (q77 P) (.node (q4 P) (.node (q104 P) (.node (q2 P) (.node (q226 P) .nil .nil) (.node (q227 P) .nil .nil)) (.node (q4 P) (.node (q2 P) .nil .nil) .nil)) (.node (q2 P) (.node (q105 P) (.node (q228 P) .nil .nil) (.node (q4 P) .nil .nil)) (.node (q106 P) (.node (q2 P) .nil .nil) .nil))) (.node (q107 P) (.node (q4 P) (.node (q108 P) (.node (q229 P) .nil .nil) (.node (q230 P) .nil .nil)) (.node (q2 P) (.node (q231 P) .nil .nil) .nil)) (.node (q109 P) (.node (q110 P) (.node (q4 P) .nil .nil) .nil) (.node (q111 P) (.node (q232 P) .nil .nil) .nil)))))) (.node (qb6 P) (.node (qb10 P) (.node (q2 P) (.node (q112 P) (.node (q113 P) (.node (q114 P) (.node (q115 P) .nil .nil) (.node (q4 P) .nil .nil)) (.node (q116 P) (.node (q2 P) .nil .nil) .nil)) (.node (q2 P) (.node (q4 P) (.node (q2 P) .nil .nil) (.node (q233 P) .nil .nil)) (.node (q117 P) (.node (q234 P) .nil .nil) .nil))) (.node (q118 P) (.node (q119 P) (.node (q120 P) (.node (q4 P) .nil .nil) (.node (q2 P) .nil .nil)) (.node (q2 P) (.node (q235 P) .nil .nil) .nil)) (.node (q121 P) (.node (q2 P) (.node (q236 P) .nil .nil) .nil) (.node (q122 P) (.node (q237 P) .nil .nil) .nil)))) (.node (q123 P) (.node (q124 P) (.node (q125 P) (.node (q126 P) (.node (q2 P) .nil .nil) (.node (q238 P) .nil .nil)) (.node (q127 P) (.node (q4 P) .nil .nil) .nil)) (.node (q4 P) (.node (q128 P) (.node (q239 P) .nil .nil) (.node (q240 P) .nil .nil)) (.node (q2 P) (.node (q241 P) .nil .nil) .nil))) (.node (q129 P) (.node (q130 P) (.node (q2 P) (.node (q242 P) .nil .nil) (.node (q243 P) .nil .nil)) (.node (q4 P) (.node (q244 P) .nil .nil) .nil)) (.node (q2 P) (.node (q131 P) (.node (q245 P) .nil .nil) .nil) (.node (q132 P) (.node (q2 P) .nil .nil) .nil))))) (.node (q133 P) (.node (q2 P) (.node (q134 P) (.node (q135 P) (.node (q4 P) (.node (q2 P) .nil .nil) (.node (q246 P) .nil .nil)) (.node (q136 P) (.node (q247 P) .nil .nil) .nil)) (.node (q137 P) (.node (q138 P) (.node (q2 P) .nil .nil) (.node (q248 P) .nil .nil)) (.node (q139 P) (.node (q4 P) .nil .nil) .nil))) (.node (q140 P) (.node (q141 P) (.node (q2 P) (.node (q249 P) .nil .nil) (.node (q2 P) .nil .nil)) (.node (q142 P) (.node (q250 P) .nil .nil) .nil)) (.node (q143 P) (.node (q2 P) (.node (q251 P) .nil .nil) .nil) (.node (q4 P) (.node (q2 P) .nil .nil) .nil)))) (.node (q144 P) (.node (q145 P) (.node (q4 P) (.node (q146 P) (.node (q252 P) .nil .nil) (.node (q253 P) .nil .nil)) (.node (q2 P) (.node (q254 P) .nil .nil) .nil)) (.node (q147 P) (.node (q148 P) (.node (q4 P) .nil .nil) (.node (q2 P) .nil .nil)) (.node (q2 P) (.node (q255 P) .nil .nil) .nil))) (.node (q149 P) (.node (q2 P) (.node (q150 P) (.node (q256 P) .nil .nil) (.node (q4 P) .nil .nil)) (.node (q151 P) (.node (q2 P) .nil .nil) .nil)) (.node (q2 P) (.node (q4 P) (.node (q2 P) .nil .nil) .nil) (.node (q152 P) (.node (q257 P) .nil .nil) .nil)))))))
def _root_.PySem.W.Fast.te8476426477649757575 := funext fun P => nc (eb0 P) (nc (eb1 P) (nc (e153 P) (nc (eb7 P) (nc (e1 P) (nc (e2 P) (nc (e3 P) (nc (e4 P) (nc (e5 P) nn nn) (nc (e154 P) nn nn)) (nc (e6 P) (nc (e155 P) nn nn) nn)) (nc (e7 P) (nc (e8 P) (nc (e2 P) nn nn) (nc (e156 P) nn nn)) (nc (e9 P) (nc (e4 P) nn nn) nn))) (nc (e2 P) (nc (e10 P) (nc (e2 P) (nc (e157 P) nn nn) (nc (e2 P) nn nn)) (nc (e11 P) (nc (e158 P) nn nn) nn)) (nc (e12 P) (nc (e2 P) (nc (e159 P) nn nn) (nc (e160 P) nn nn)) (nc (e4 P) (nc (e2 P) nn nn) nn)))) (nc (e13 P) (nc (e14 P) (nc (e2 P) (nc (e15 P) (nc (e161 P) nn nn) (nc (e162 P) nn nn)) (nc (e2 P) (nc (e163 P) nn nn) nn)) (nc (e16 P) (nc (e17 P) (nc (e4 P) nn nn) (nc (e2 P) nn nn)) (nc (e2 P) (nc (e164 P) nn nn) nn))) (nc (e2 P) (nc (e2 P) (nc (e18 P) (nc (e165 P) nn nn) (nc (e4 P) nn nn)) (nc (e19 P) (nc (e166 P) nn nn) nn)) (nc (e2 P) (nc (e4 P) (nc (e2 P) nn nn) nn) (nc (e20 P) (nc (e167 P) nn nn) nn))))) (nc (e2 P) (nc (e4 P) (nc (e2 P) (nc (e2 P) (nc (e21 P) (nc (e2 P) nn nn) (nc (e168 P) nn nn)) (nc (e22 P) (nc (e4 P) nn nn) nn)) (nc (e4 P) (nc (e23 P) (nc (e169 P) nn nn) (nc (e170 P) nn nn)) (nc (e2 P) (nc (e171 P) nn nn) nn))) (nc (e24 P) (nc (e25 P) (nc (e2 P) (nc (e172 P) nn nn) (nc (e173 P) nn nn)) (nc (e4 P) (nc (e2 P) nn nn) nn)) (nc (e2 P) (nc (e26 P) (nc (e174 P) nn nn) nn) (nc (e27 P) (nc (e2 P) nn nn) nn)))) (nc (e28 P) (nc (e2 P) (nc (e29 P) (nc (e30 P) (nc (e4 P) nn nn) (nc (e2 P) nn nn)) (nc (e2 P) (nc (e175 P) nn nn) nn)) (nc (e31 P) (nc (e2 P) (nc (e176 P) nn nn) (nc (e2 P) nn nn)) (nc (e32 P) (nc (e177 P) nn nn) nn))) (nc (e2 P) (nc (e2 P) (nc (e4 P) (nc (e2 P) nn nn) (nc (e178 P) nn nn)) (nc (e33 P) (nc (e179 P) nn nn) nn)) (nc (e34 P) (nc (e35 P) (nc (e2 P) nn nn) nn) (nc (e36 P) (nc (e4 P) nn nn) nn)))))) (nc (eb5 P) (nc (eb9 P) (nc (e37 P) (nc (e38 P) (nc (e39 P) (nc (e2 P) (nc (e40 P) nn nn) (nc (e2 P) nn nn)) (nc (e41 P) (nc (e180 P) nn nn) nn)) (nc (e42 P) (nc (e2 P) (nc (e181 P) nn nn) (nc (e182 P) nn nn)) (nc (e4 P) (nc (e2 P) nn nn) nn))) (nc (e43 P) (nc (e44 P) (nc (e45 P) (nc (e2 P) nn nn) (nc (e183 P) nn nn)) (nc (e46 P) (nc (e4 P) nn nn) nn)) (nc (e4 P) (nc (e47 P) (nc (e184 P) nn nn) (nc (e185 P) nn nn)) (nc (e2 P) (nc (e186 P) nn nn) nn)))) (nc (e48 P) (nc (e39 P) (nc (e49 P) (nc (e50 P) (nc (e187 P) nn nn) (nc (e4 P) nn nn)) (nc (e51 P) (nc (e2 P) nn nn) nn)) (nc (e2 P) (nc (e4 P) (nc (e2 P) nn nn) (nc (e188 P) nn nn)) (nc (e52 P) (nc (e189 P) nn nn) nn))) (nc (e53 P) (nc (e54 P) (nc (e55 P) (nc (e4 P) nn nn) (nc (e2 P) nn nn)) (nc (e2 P) (nc (e190 P) nn nn) nn)) (nc (e56 P) (nc (e2 P) (nc (e191 P) nn nn) nn) (nc (e57 P) (nc (e192 P) nn nn) nn))))) (nc (e58 P) (nc (e59 P) (nc (e60 P) (nc (e61 P) (nc (e2 P) (nc (e193 P) nn nn) (nc (e194 P) nn nn)) (nc (e4 P) (nc (e2 P) nn nn) nn)) (nc (e2 P) (nc (e62 P) (nc (e195 P) nn nn) (nc (e4 P) nn nn)) (nc (e63 P) (nc (e2 P) nn nn) nn))) (nc (e39 P) (nc (e4 P) (nc (e64 P) (nc (e196 P) nn nn) (nc (e197 P) nn nn)) (nc (e2 P) (nc (e198 P) nn nn) nn)) (nc (e65 P) (nc (e66 P) (nc (e4 P) nn nn) nn) (nc (e2 P) (nc (e199 P) nn nn) nn)))) (nc (e39 P) (nc (e67 P) (nc (e2 P) (nc (e4 P) (nc (e2 P) nn nn) (nc (e200 P) nn nn)) (nc (e68 P) (nc (e201 P) nn nn) nn)) (nc (e69 P) (nc (e70 P) (nc (e2 P) nn nn) (nc (e202 P) nn nn)) (nc (e71 P) (nc (e4 P) nn nn) nn))) (nc (e72 P) (nc (e73 P) (nc (e2 P) (nc (e203 P) nn nn) (nc (e2 P) nn nn)) (nc (e74 P) (nc (e204 P) nn nn) nn)) (nc (e75 P) (nc (e2 P) (nc (e205 P) nn nn) nn) (nc (e76 P) (nc (e2 P) nn nn) nn))))))) (nc (eb2 P) (nc (eb4 P) (nc (eb8 P) (nc (e39 P) (nc (e4 P) (nc (e77 P) (nc (e78 P) (nc (e79 P) nn nn) (nc (e206 P) nn nn)) (nc (e2 P) (nc (e207 P) nn nn) nn)) (nc (e80 P) (nc (e81 P) (nc (e4 P) nn nn) (nc (e2 P) nn nn)) (nc (e2 P) (nc (e208 P) nn nn) nn))) (nc (e82 P) (nc (e2 P) (nc (e83 P) (nc (e209 P) nn nn) (nc (e4 P) nn nn)) (nc (e84 P) (nc (e2 P) nn nn) nn)) (nc (e2 P) (nc (e39 P) (nc (e2 P) nn nn) (nc (e210 P) nn nn)) (nc (e85 P) (nc (e211 P) nn nn) nn)))) (nc (e86 P) (nc (e77 P) (nc (e87 P) (nc (e2 P) (nc (e212 P) nn nn) (nc (e2 P) nn nn)) (nc (e88 P) (nc (e213 P) nn nn) nn)) (nc (e89 P) (nc (e2 P) (nc (e214 P) nn nn) (nc (e215 P) nn nn)) (nc (e4 P) (nc (e2 P) nn nn) nn))) (nc (e4 P) (nc (e90 P) (nc (e91 P) (nc (e2 P) nn nn) (nc (e216 P) nn nn)) (nc (e92 P) (nc (e217 P) nn nn) nn)) (nc (e4 P) (nc (e93 P) (nc (e218 P) nn nn) nn) (nc (e2 P) (nc (e219 P) nn nn) nn))))) (nc (e220 P) (nc (e95 P) (nc (e96 P) (nc (e4 P) (nc (e97 P) (nc (e39 P) nn nn) (nc (e2 P) nn nn)) (nc (e2 P) (nc (e221 P) nn nn) nn)) (nc (e98 P) (nc (e2 P) (nc (e222 P) nn nn) (nc (e2 P) nn nn)) (nc (e99 P) (nc (e223 P) nn nn) nn))) (nc (e77 P) (nc (e2 P) (nc (e4 P) (nc (e2 P) nn nn) (nc (e224 P) nn nn)) (nc (e100 P) (nc (e225 P) nn nn) nn)) (nc (e101 P) (nc (e102 P) (nc (e2 P) nn nn) nn) (nc (e103 P) (nc (e4 P) nn nn) nn)))) (nc (e77 P) (nc (e4 P) (nc (e104 P) (nc (e2 P) (nc (e226 P) nn nn) (nc (e227 P) nn nn)) (nc (e4 P) (nc (e2 P) nn nn) nn)) (nc (e2 P) (nc (e105 P) (nc (e228 P) nn nn) (nc (e4 P) nn nn)) (nc (e106 P) (nc (e2 P) nn nn) nn))) (nc (e107 P) (nc (e4 P) (nc (e108 P) (nc (e229 P) nn nn) (nc (e230 P) nn nn)) (nc (e2 P) (nc (e231 P) nn nn) nn)) (nc (e109 P) (nc (e110 P) (nc (e4 P) nn nn) nn) (nc (e111 P) (nc (e232 P) nn nn) nn)))))) (nc (eb6 P) (nc (eb10 P) (nc (e2 P) (nc (e112 P) (nc (e113 P) (nc (e114 P) (nc (e115 P) nn nn) (nc (e4 P) nn nn)) (nc (e116 P) (nc (e2 P) nn nn) nn)) (nc (e2 P) (nc (e4 P) (nc (e2 P) nn nn) (nc (e233 P) nn nn)) (nc (e117 P) (nc (e234 P) nn nn) nn))) (nc (e118 P) (nc (e119 P) (nc (e120 P) (nc (e4 P) nn nn) (nc (e2 P) nn nn)) (nc (e2 P) (nc (e235 P) nn nn) nn)) (nc (e121 P) (nc (e2 P) (nc (e236 P) nn nn) nn) (nc (e122 P) (nc (e237 P) nn nn) nn)))) (nc (e123 P) (nc (e124 P) (nc (e125 P) (nc (e126 P) (nc (e2 P) nn nn) (nc (e238 P) nn nn)) (nc (e127 P) (nc (e4 P) nn nn) nn)) (nc (e4 P) (nc (e128 P) (nc (e239 P) nn nn) (nc (e240 P) nn nn)) (nc (e2 P) (nc (e241 P) nn nn) nn))) (nc (e129 P) (nc (e130 P) (nc (e2 P) (nc (e242 P) nn nn) (nc (e243 P) nn nn)) (nc (e4 P) (nc (e244 P) nn nn) nn)) (nc (e2 P) (nc (e131 P) (nc (e245 P) nn nn) nn) (nc (e132 P) (nc (e2 P) nn nn) nn))))) (nc (e133 P) (nc (e2 P) (nc (e134 P) (nc (e135 P) (nc (e4 P) (nc (e2 P) nn nn) (nc (e246 P) nn nn)) (nc (e136 P) (nc (e247 P) nn nn) nn)) (nc (e137 P) (nc (e138 P) (nc (e2 P) nn nn) (nc (e248 P) nn nn)) (nc (e139 P) (nc (e4 P) nn nn) nn))) (nc (e140 P) (nc (e141 P) (nc (e2 P) (nc (e249 P) nn nn) (nc (e2 P) nn nn)) (nc (e142 P) (nc (e250 P) nn nn) nn)) (nc (e143 P) (nc (e2 P) (nc (e251 P) nn nn) nn) (nc (e4 P) (nc (e2 P) nn nn) nn)))) (nc (e144 P) (nc (e145 P) (nc (e4 P) (nc (e146 P) (nc (e252 P) nn nn) (nc (e253 P) nn nn)) (nc (e2 P) (nc (e254 P) nn nn) nn)) (nc (e147 P) (nc (e148 P) (nc (e4 P) nn nn) (nc (e2 P) nn nn)) (nc (e2 P) (nc (e255 P) nn nn) nn))) (nc (e149 P) (nc (e2 P) (nc (e150 P) (nc (e256 P) nn nn) (nc (e4 P) nn nn)) (nc (e151 P) (nc (e2 P) nn nn) nn)) (nc (e2 P) (nc (e4 P) (nc (e2 P) nn nn) nn) (nc (e152 P) (nc (e257 P) nn nn) nn)))))))
abbrev _root_.PySem.W.Fast.tw18364858973495542953 : Params → BT := fun P => .node (qb0 P) (.node (qb1 P) (.node (q258 P) (.node (qb7 P) (.node (q1 P) (.node (q2 P) (.node (q3 P) (.node (q4 P) (.node (q5 P) .nil .nil) .nil) (.node (q6 P) .nil .nil)) (.node (q7 P) (.node (q8 P) .nil .nil) (.node (q9 P) .nil .nil))) (.node (q2 P) (.node (q10 P) (.node (q2 P) .nil .nil) (.node (q11 P) .nil .nil)) (.node (q12 P) (.node (q2 P) .nil .nil) (.node (q4 P) .nil .nil)))) (.node (q13 P) (.node (q14 P) (.node (q2 P) (.node (q15 P) .nil .nil) (.node (q2 P) .nil .nil)) (.node (q16 P) (.node (q17 P) .nil .nil) (.node (q2 P) .nil .nil))) (.node (q2 P) (.node (q2 P) (.node (q18 P) .nil .nil) (.node (q19 P) .nil .nil)) (.node (q2 P) (.node (q4 P) .nil .nil) (.node (q20 P) .nil .nil))))) (.node (q2 P) (.node (q4 P) (.node (q2 P) (.node (q2 P) (.node (q21 P) .nil .nil) (.node (q22 P) .nil .nil)) (.node (q4 P) (.node (q23 P) .nil .nil) (.node (q2 P) .nil .nil))) (.node (q24 P) (.node (q25 P) (.node (q2 P) .nil .nil) (.node (q4 P) .nil .nil)) (.node (q2 P) (.node (q26 P) .nil .nil) (.node (q27 P) .nil .nil)))) (.node (q28 P) (.node (q2 P) (.node (q29 P) (.node (q30 P) .nil .nil) (.node (q2 P) .nil .nil)) (.node (q31 P) (.node (q2 P) .nil .nil) (.node (q32 P) .nil .nil))) (.node (q2 P) (.node (q2 P) (.node (q4 P) .nil .nil) (.node (q33 P) .nil .nil)) (.node (q34 P) (.node (q35 P) .nil .nil) (.node (q36 P) .nil .nil)))))) (.node (qb5 P) (.node (qb9 P) (.node (q37 P) (.node (q38 P) (.node (q39 P) (.node (q2 P) (.node (q40 P) .nil .nil) .nil) (.node (q41 P) .nil .nil)) (.node (q42 P) (.node (q2 P) .nil .nil) (.node (q4 P) .nil .nil))) (.node (q43 P) (.node (q44 P) (.node (q45 P) .nil .nil) (.node (q46 P) .nil .nil)) (.node (q4 P) (.node (q47 P) .nil .nil) (.node (q2 P) .nil .nil)))) (.node (q48 P) (.node (q39 P) (.node (q49 P) (.node (q50 P) .nil .nil) (.node (q51 P) .nil .nil)) (.node (q2 P) (.node (q4 P) .nil .nil) (.node (q52 P) .nil .nil))) (.node (q53 P) (.node (q54 P) (.node (q55 P) .nil .nil) (.node (q2 P) .nil .nil)) (.node (q56 P) (.node (q2 P) .nil .nil) (.node (q57 P) .nil .nil))))) (.node (q58 P) (.node (q59 P) (.node (q60 P) (.node (q61 P) (.node (q2 P) .nil .nil) (.node (q4 P) .nil .nil)) (.node (q2 P) (.node (q62 P) .nil .nil) (.node (q63 P) .nil .nil))) (.node (q39 P) (.node (q4 P) (.node (q64 P) .nil .nil) (.node (q2 P) .nil .nil)) (.node (q65 P) (.node (q66 P) .nil .nil) (.node (q2 P) .nil .nil)))) (.node (q39 P) (.node (q67 P) (.node (q2 P) (.node (q4 P) .nil .nil) (.node (q68 P) .nil .nil)) (.node (q69 P) (.node (q70 P) .nil .nil) (.node (q71 P) .nil .nil))) (.node (q72 P) (.node (q73 P) (.node (q2 P) .nil .nil) (.node (q74 P) .nil .nil)) (.node (q75 P) (.node (q2 P) .nil .nil) (.node (q76 P) .nil .nil))))))) (.node (qb2 P) (.node (qb4 P) (.node (qb8 P) (.node (q39 P) (.node (q4 P) (.node (q77 P) (.node (q78 P) (.node (q79 P) .nil .nil) .nil) (.node (q2 P) .nil .nil)) (.node (q80 P) (.node (q81 P) .nil .nil) (.node (q2 P) .nil .nil))) (.node (q82 P) (.node (q2 P) (.node (q83 P) .nil .nil) (.node (q84 P) .nil .nil)) (.node (q2 P) (.node (q39 P) .nil .nil) (.node (q85 P) .nil .nil)))) (.node (q86 P) (.node (q77 P) (.node (q87 P) (.node (q2 P) .nil .nil) (.node (q88 P) .nil .nil)) (.node (q89 P) (.node (q2 P) .nil .nil) (.node (q4 P) .nil .nil))) (.node (q4 P) (.node (q90 P) (.node (q91 P) .nil .nil) (.node (q92 P) .nil .nil)) (.node (q4 P) (.node (q93 P) .nil .nil) (.node (q2 P) .nil .nil))))) (.node (q94 P) (.node (q95 P) (.node (q96 P) (.node (q4 P) (.node (q97 P) .nil .nil) (.node (q2 P) .nil .nil)) (.node (q98 P) (.node (q2 P) .nil .nil) (.node (q99 P) .nil .nil))) (.node (q77 P) (.node (q2 P) (.node (q4 P) .nil .nil) (.node (q100 P) .nil .nil)) (.node (q101 P) (.node (q102 P) .nil .nil) (.node (q103 P) .nil .nil)))) (.node (q77 P) (.node (q4 P) (.node (q104 P) (.node (q2 P) .nil .nil) (.node (q4 P) .nil .nil)) (.node (q2 P) (.node (q105 P) .nil .nil) (.node (q106 P) .nil .nil))) (.node (q107 P) (.node (q4 P) (.node (q108 P) .nil .nil) (.node (q2 P) .nil .nil)) (.node (q109 P) (.node (q110 P) .nil .nil) (.node (q111 P) .nil .nil)))))) (.node (qb6 P) (.node (qb10 P) (.node (q2 P) (.node (q112 P) (.node (q113 P) (.node (q114 P) (.node (q115 P) .nil .nil) .nil) (.node (q116 P) .nil .nil)) (.node (q2 P) (.node (q4 P) .nil .nil) (.node (q117 P) .nil .nil))) (.node (q118 P) (.node (q119 P) (.node (q120 P) .nil .nil) (.node (q2 P) .nil .nil)) (.node (q121 P) (.node (q2 P) .nil .nil) (.node (q122 P) .nil .nil)))) (.node (q123 P) (.node (q124 P) (.node (q125 P) (.node (q126 P) .nil .nil) (.node (q127 P) .nil .nil)) (.node (q4 P) (.node (q128 P) .nil .nil) (.node (q2 P) .nil .nil))) (.node (q129 P) (.node (q130 P) (.node (q2 P) .nil .nil) (.node (q4 P) .nil .nil)) (.node (q2 P) (.node (q131 P) .nil .nil) (.node (q132 P) .nil .nil))))) (.node (q133 P) (.node (q2 P) (.node (q134 P) (.node (q135 P) (.node (q4 P) .nil .nil) (.node (q136 P) .nil .nil)) (.node (q137 P) (.node (q138 P) .nil .nil) (.node (q139 P) .nil .nil))) (.node (q140 P) (.node (q141 P) (.node (q2 P) .nil .nil) (.node (q142 P) .nil .nil)) (.node (q143 P) (.node (q2 P) .nil .nil) (.node (q4 P) .nil .nil)))) (.node (q144 P) (.node (q145 P) (.node (q4 P) (.node (q146 P) .nil .nil) (.node (q2 P) .nil .nil)) (.node (q147 P) (.node (q148 P) .nil .nil) (.node (q2 P) .nil .nil))) (.node (q149 P) (.node (q2 P) (.node (q150 P) .nil .nil) (.node (q151 P) .nil .nil)) (.node (q2 P) (.node (q4 P) .nil .nil) (.node (q152 P) .nil .nil)))))))
def _root_.PySem.W.Fast.te18364858973495542953 := funext fun P => nc (eb0 P) (nc (eb1 P) (nc (e258 P) (nc (eb7 P) (nc (e1 P) (nc (e2 P) (nc (e3 P) (nc (e4 P) (nc (e5 P) nn nn) nn) (nc (e6 P) nn nn)) (nc (e7 P) (nc (e8 P) nn nn) (nc (e9 P) nn nn))) (nc (e2 P) (nc (e10 P) (nc (e2 P) nn nn) (nc (e11 P) nn nn)) (nc (e12 P) (nc (e2 P) nn nn) (nc (e4 P) nn nn)))) (nc (e13 P) (nc (e14 P) (nc (e2 P) (nc (e15 P) nn nn) (nc (e2 P) nn nn)) (nc (e16 P) (nc (e17 P) nn nn) (nc (e2 P) nn nn))) (nc (e2 P) (nc (e2 P) (nc (e18 P) nn nn) (nc (e19 P) nn nn)) (nc (e2 P) (nc (e4 P) nn nn) (nc (e20 P) nn nn))))) (nc (e2 P) (nc (e4 P) (nc (e2 P) (nc (e2 P) (nc (e21 P) nn nn) (nc (e22 P) nn nn)) (nc (e4 P) (nc (e23 P) nn nn) (nc (e2 P) nn nn))) (nc (e24 P) (nc (e25 P) (nc (e2 P) nn nn) (nc (e4 P) nn nn)) (nc (e2 P) (nc (e26 P) nn nn) (nc (e27 P) nn nn)))) (nc (e28 P) (nc (e2 P) (nc (e29 P) (nc (e30 P) nn nn) (nc (e2 P) nn nn)) (nc (e31 P) (nc (e2 P) nn nn) (nc (e32 P) nn nn))) (nc (e2 P) (nc (e2 P) (nc (e4 P) nn nn) (nc (e33 P) nn nn)) (nc (e34 P) (nc (e35 P) nn nn) (nc (e36 P) nn nn)))))) (nc (eb5 P) (nc (eb9 P) (nc (e37 P) (nc (e38 P) (nc (e39 P) (nc (e2 P) (nc (e40 P) nn nn) nn) (nc (e41 P) nn nn)) (nc (e42 P) (nc (e2 P) nn nn) (nc (e4 P) nn nn))) (nc (e43 P) (nc (e44 P) (nc (e45 P) nn nn) (nc (e46 P) nn nn)) (nc (e4 P) (nc (e47 P) nn nn) (nc (e2 P) nn nn)))) (nc (e48 P) (nc (e39 P) (nc (e49 P) (nc (e50 P) nn nn) (nc (e51 P) nn nn)) (nc (e2 P) (nc (e4 P) nn nn) (nc (e52 P) nn nn))) (nc (e53 P) (nc (e54 P) (nc (e55 P) nn nn) (nc (e2 P) nn nn)) (nc (e56 P) (nc (e2 P) nn nn) (nc (e57 P) nn nn))))) (nc (e58 P) (nc (e59 P) (nc (e60 P) (nc (e61 P) (nc (e2 P) nn nn) (nc (e4 P) nn nn)) (nc (e2 P) (nc (e62 P) nn nn) (nc (e63 P) nn nn))) (nc (e39 P) (nc (e4 P) (nc (e64 P) nn nn) (nc (e2 P) nn nn)) (nc (e65 P) (nc (e66 P) nn nn) (nc (e2 P) nn nn)))) (nc (e39 P) (nc (e67 P) (nc (e2 P) (nc (e4 P) nn nn) (nc (e68 P) nn nn)) (nc (e69 P) (nc (e70 P) nn nn) (nc (e71 P) nn nn))) (nc (e72 P) (nc (e73 P) (nc (e2 P) nn nn) (nc (e74 P) nn nn)) (nc (e75 P) (nc (e2 P) nn nn) (nc (e76 P) nn nn))))))) (nc (eb2 P) (nc (eb4 P) (nc (eb8 P) (nc (e39 P) (nc (e4 P) (nc (e77 P) (nc (e78 P) (nc (e79 P) nn nn) nn) (nc (e2 P) nn nn)) (nc (e80 P) (nc (e81 P) nn nn) (nc (e2 P) nn nn))) (nc (e82 P) (nc (e2 P) (nc (e83 P) nn nn) (nc (e84 P) nn nn)) (nc (e2 P) (nc (e39 P) nn nn) (nc (e85 P) nn nn)))) (nc (e86 P) (nc (e77 P) (nc (e87 P) (nc (e2 P) nn nn) (nc (e88 P) nn nn)) (nc (e89 P) (nc (e2 P) nn nn) (nc (e4 P) nn nn))) (nc (e4 P) (nc (e90 P) (nc (e91 P) nn nn) (nc (e92 P) nn nn)) (nc (e4 P) (nc (e93 P) nn nn) (nc (e2 P) nn nn))))) (nc (e94 P) (nc (e95 P) (nc (e96 P) (nc (e4 P) (nc (e97 P) nn nn) (nc (e2 P) nn nn)) (nc (e98 P) (nc (e2 P) nn nn) (nc (e99 P) nn nn))) (nc (e77 P) (nc (e2 P) (nc (e4 P) nn nn) (nc (e100 P) nn nn)) (nc (e101 P) (nc (e102 P) nn nn) (nc (e103 P) nn nn)))) (nc (e77 P) (nc (e4 P) (nc (e104 P) (nc (e2 P) nn nn) (nc (e4 P) nn nn)) (nc (e2 P) (nc (e105 P) nn nn) (nc (e106 P) nn nn))) (nc (e107 P) (nc (e4 P) (nc (e108 P) nn nn) (nc (e2 P) nn nn)) (nc (e109 P) (nc (e110 P) nn nn) (nc (e111 P) nn nn)))))) (nc (eb6 P) (nc (eb10 P) (nc (e2 P) (nc (e112 P) (nc (e113 P) (nc (e114 P) (nc (e115 P) nn nn) nn) (nc (e116 P) nn nn)) (nc (e2 P) (nc (e4 P) nn nn) (nc (e117 P) nn nn))) (nc (e118 P) (nc (e119 P) (nc (e120 P) nn nn) (nc (e2 P) nn nn)) (nc (e121 P) (nc (e2 P) nn nn) (nc (e122 P) nn nn)))) (nc (e123 P) (nc (e124 P) (nc (e125 P) (nc (e126 P) nn nn) (nc (e127 P) nn nn)) (nc (e4 P) (nc (e128 P) nn nn) (nc (e2 P) nn nn))) (nc (e129 P) (nc (e130 P) (nc (e2 P) nn nn) (nc (e4 P) nn nn)) (nc (e2 P) (nc (e131 P) nn nn) (nc (e132 P) nn nn))))) (nc (e133 P) (nc (e2 P) (nc (e134 P) (nc (e135 P) (nc (e4 P) nn nn) (nc (e136 P) nn nn)) (nc (e137 P) (nc (e138 P) nn nn) (nc (e139 P) nn nn))) (nc (e140 P) (nc (e141 P) (nc (e2 P) nn nn) (nc (e142 P) nn nn)) (nc (e143 P) (nc (e2 P) nn nn) (nc (e4 P) nn nn)))) (nc (e144 P) (nc (e145 P) (nc (e4 P) (nc (e146 P) nn nn) (nc (e2 P) nn nn)) (nc (e147 P) (nc (e148 P) nn nn) (nc (e2 P) nn nn))) (nc (e149 P) (nc (e2 P) (nc (e150 P) nn nn) (nc (e151 P) nn nn)) (nc (e2 P) (nc (e4 P) nn nn) (nc (e152 P) nn nn)))))))
abbrev _root_.PySem.W.Fast.tw7487193833323562927 : Params → Heap := fun P => { objs := { toList := [qb0 P, qb1 P, qb2 P, q259 P, qb4 P, qb5 P, qb6 P, qb7 P, qb8 P, qb9 P, qb10 P, q2 P, q260 P, q58 P, q133 P, q1 P, q39 P, q37 P, q2 P, q4 P, q95 P, q59 P, q2 P, q13 P, q86 P, q48 P, q123 P, q28 P, q77 P, q39 P, q144 P, q2 P, q4 P, q38 P, q112 P, q2 P, q96 P, q60 P, q134 P, q14 P, q77 P, q39 P, q124 P, q2 P, q4 P, q67 P, q145 P, q2 P, q82 P, q43 P, q118 P, q24 P, q77 P, q39 P, q140 P, q2 P, q4 P, q53 P, q129 P, q2 P, q107 P, q72 P, q149 P, q3 P, q77 P, q39 P, q113 P, q2 P, q4 P, q61 P, q135 P, q2 P, q87 P, q49 P, q125 P, q29 P, q104 P, q2 P, q4 P, q10 P, q2 P, q44 P, q119 P, q25 P, q2 P, q4 P, q141 P, q2 P, q90 P, q54 P, q130 P, q2 P, q4 P, q73 P, q2 P, q7 P, q80 P, q42 P, q2 P, q4 P, q98 P, q2 P, q137 P, q16 P, q89 P, q2 P, q4 P, q31 P, q2 P, q69 P, q147 P, q12 P, q2 P, q4 P, q121 P, q2 P, q101 P, q65 P, q143 P, q2 P, q4 P, q56 P, q2 P, q34 P, q109 P, q75 P, q2 P, q4 P, q78 P, q2 P, q114 P, q21 P, q97 P, q2 P, q4 P, q15 P, q2 P, q50 P, q126 P, q30 P, q2 P, q4 P, q146 P, q2 P, q83 P, q45 P, q120 P, q2 P, q4 P, q64 P, q2 P, q18 P, q91 P, q55 P, q2 P, q4 P, q108 P, q2 P, q150 P, q8 P, q81 P, q2 P, q4 P, q23 P, q2 P, q62 P, q138 P, q17 P, q2 P, q4 P, q128 P, q2 P, q105 P, q70 P, q148 P, q2 P, q39 P, q47 P, q2 P, q26 P, q102 P, q66 P, q2 P, q4 P, q93 P, q2 P, q131 P, q35 P, q110 P, q2 P, q4 P, q6 P, q2 P, q41 P, q116 P, q22 P, q2 P, q4 P, q136 P, q2 P, q88 P, q51 P, q127 P, q2 P, q4 P, q68 P, q2 P, q11 P, q84 P, q46 P, q2 P, q4 P, q100 P, q2 P, q142 P, q19 P, q92 P, q2 P, q4 P, q33 P, q2 P, q74 P, q151 P, q9 P, q2 P, q4 P, q117 P, q2 P, q99 P, q63 P, q139 P, q2 P, q4 P, q52 P, q2 P, q32 P, q106 P, q71 P, q2 P, q4 P, q85 P, q2 P, q122 P, q27 P, q103 P, q2 P, q4 P, q20 P, q2 P, q57 P, q132 P, q36 P, q111 P, q76 P, q152 P, q5 P, q79 P, q40 P, q115 P, q2 P, q39 P, q193 P, q2 P, q161 P, q212 P, q187 P, q2 P, q4 P, q226 P, q2 P, q252 P, q157 P, q209 P, q2 P, q4 P, q172 P, q2 P, q196 P, q249 P, q165 P, q2 P, q4 P, q242 P, q2 P, q229 P, q203 P, q256 P, q2 P, q4 P, q181 P, q2 P, q169 P, q222 P, q195 P, q2 P, q4 P, q214 P, q2 P, q239 P, q176 P, q228 P, q2 P, q4 P, q159 P, q2 P, q184 P, q236 P, q174 P, q2 P, q4 P, q251 P, q2 P, q218 P, q191 P, q245 P, q2 P, q4 P, q205 P, q2 P, q155 P, q207 P, q180 P, q2 P, q4 P, q221 P, q2 P, q247 P, q163 P, q213 P, q2 P, q4 P, q175 P, q2 P, q201 P, q254 P, q158 P, q2 P, q4 P, q235 P, q2 P, q225 P, q198 P, q250 P, q166 P, q217 P, q190 P, q244 P, q179 P, q231 P, q204 P, q2 P, q4 P, q208 P, q2 P, q234 P, q171 P, q223 P, q2 P, q4 P, q164 P, q2 P, q189 P, q241 P, q177 P, q2 P, q4 P, q255 P, q2 P, q211 P, q186 P, q237 P, q2 P, q4 P, q199 P, q2 P, q167 P, q219 P, q192 P, q2 P, q4 P, q232 P, q2 P, q257 P, q154 P, q206 P, q2 P, q4 P, q168 P, q2 P, q194 P, q246 P, q162 P, q2 P, q4 P, q238 P, q2 P, q227 P, q200 P, q253 P, q2 P, q4 P, q183 P, q2 P, q173 P, q224 P, q197 P, q2 P, q4 P, q216 P, q2 P, q243 P, q178 P, q230 P, q2 P, q4 P, q156 P, q2 P, q182 P, q233 P, q170 P, q2 P, q4 P, q248 P, q2 P, q215 P, q188 P, q240 P, q2 P, q4 P, q202 P, q2 P, q160 P, q210 P, q185 P, q2 P, q4 P, q261 P, q2 P, q262 P, q263 P, q264 P, q2 P, q4 P, q265 P, q266 P, q267 P] } }
def _root_.PySem.W.Fast.te7487193833323562927 := funext fun P => hc (lc (eb0 P) (lc (eb1 P) (lc (eb2 P) (lc (e259 P) (lc (eb4 P) (lc (eb5 P) (lc (eb6 P) (lc (eb7 P) (lc (eb8 P) (lc (eb9 P) (lc (eb10 P) (lc (e2 P) (lc (e260 P) (lc (e58 P) (lc (e133 P) (lc (e1 P) (lc (e39 P) (lc (e37 P) (lc (e2 P) (lc (e4 P) (lc (e95 P) (lc (e59 P) (lc (e2 P) (lc (e13 P) (lc (e86 P) (lc (e48 P) (lc (e123 P) (lc (e28 P) (lc (e77 P) (lc (e39 P) (lc (e144 P) (lc (e2 P) (lc (e4 P) (lc (e38 P) (lc (e112 P) (lc (e2 P) (lc (e96 P) (lc (e60 P) (lc (e134 P) (lc (e14 P) (lc (e77 P) (lc (e39 P) (lc (e124 P) (lc (e2 P) (lc (e4 P) (lc (e67 P) (lc (e145 P) (lc (e2 P) (lc (e82 P) (lc (e43 P) (lc (e118 P) (lc (e24 P) (lc (e77 P) (lc (e39 P) (lc (e140 P) (lc (e2 P) (lc (e4 P) (lc (e53 P) (lc (e129 P) (lc (e2 P) (lc (e107 P) (lc (e72 P) (lc (e149 P) (lc (e3 P) (lc (e77 P) (lc (e39 P) (lc (e113 P) (lc (e2 P) (lc (e4 P) (lc (e61 P) (lc (e135 P) (lc (e2 P) (lc (e87 P) (lc (e49 P) (lc (e125 P) (lc (e29 P) (lc (e104 P) (lc (e2 P) (lc (e4 P) (lc (e10 P) (lc (e2 P) (lc (e44 P) (lc (e119 P) (lc (e25 P) (lc (e2 P) (lc (e4 P) (lc (e141 P) (lc (e2 P) (lc (e90 P) (lc (e54 P) (lc (e130 P) (lc (e2 P) (lc (e4 P) (lc (e73 P) (lc (e2 P) (lc (e7 P) (lc (e80 P) (lc (e42 P) (lc (e2 P) (lc (e4 P) (lc (e98 P) (lc (e2 P) (lc (e137 P) (lc (e16 P) (lc (e89 P) (lc (e2 P) (lc (e4 P) (lc (e31 P) (lc (e2 P) (lc (e69 P) (lc (e147 P) (lc (e12 P) (lc (e2 P) (lc (e4 P) (lc (e121 P) (lc (e2 P) (lc (e101 P) (lc (e65 P) (lc (e143 P) (lc (e2 P) (lc (e4 P) (lc (e56 P) (lc (e2 P) (lc (e34 P) (lc (e109 P) (lc (e75 P) (lc (e2 P) (lc (e4 P) (lc (e78 P) (lc (e2 P) (lc (e114 P) (lc (e21 P) (lc (e97 P) (lc (e2 P) (lc (e4 P) (lc (e15 P) (lc (e2 P) (lc (e50 P) (lc (e126 P) (lc (e30 P) (lc (e2 P) (lc (e4 P) (lc (e146 P) (lc (e2 P) (lc (e83 P) (lc (e45 P) (lc (e120 P) (lc (e2 P) (lc (e4 P) (lc (e64 P) (lc (e2 P) (lc (e18 P) (lc (e91 P) (lc (e55 P) (lc (e2 P) (lc (e4 P) (lc (e108 P) (lc (e2 P) (lc (e150 P) (lc (e8 P) (lc (e81 P) (lc (e2 P) (lc (e4 P) (lc (e23 P) (lc (e2 P) (lc (e62 P) (lc (e138 P) (lc (e17 P) (lc (e2 P) (lc (e4 P) (lc (e128 P) (lc (e2 P) (lc (e105 P) (lc (e70 P) (lc (e148 P) (lc (e2 P) (lc (e39 P) (lc (e47 P) (lc (e2 P) (lc (e26 P) (lc (e102 P) (lc (e66 P) (lc (e2 P) (lc (e4 P) (lc (e93 P) (lc (e2 P) (lc (e131 P) (lc (e35 P) (lc (e110 P) (lc (e2 P) (lc (e4 P) (lc (e6 P) (lc (e2 P) (lc (e41 P) (lc (e116 P) (lc (e22 P) (lc (e2 P) (lc (e4 P) (lc (e136 P) (lc (e2 P) (lc (e88 P) (lc (e51 P) (lc (e127 P) (lc (e2 P) (lc (e4 P) (lc (e68 P) (lc (e2 P) (lc (e11 P) (lc (e84 P) (lc (e46 P) (lc (e2 P) (lc (e4 P) (lc (e100 P) (lc (e2 P) (lc (e142 P) (lc (e19 P) (lc (e92 P) (lc (e2 P) (lc (e4 P) (lc (e33 P) (lc (e2 P) (lc (e74 P) (lc (e151 P) (lc (e9 P) (lc (e2 P) (lc (e4 P) (lc (e117 P) (lc (e2 P) (lc (e99 P) (lc (e63 P) (lc (e139 P) (lc (e2 P) (lc (e4 P) (lc (e52 P) (lc (e2 P) (lc (e32 P) (lc (e106 P) (lc (e71 P) (lc (e2 P) (lc (e4 P) (lc (e85 P) (lc (e2 P) (lc (e122 P) (lc (e27 P) (lc (e103 P) (lc (e2 P) (lc (e4 P) (lc (e20 P) (lc (e2 P) (lc (e57 P) (lc (e132 P) (lc (e36 P) (lc (e111 P) (lc (e76 P) (lc (e152 P) (lc (e5 P) (lc (e79 P) (lc (e40 P) (lc (e115 P) (lc (e2 P) (lc (e39 P) (lc (e193 P) (lc (e2 P) (lc (e161 P) (lc (e212 P) (lc (e187 P) (lc (e2 P) (lc (e4 P) (lc (e226 P) (lc (e2 P) (lc (e252 P) (lc (e157 P) (lc (e209 P) (lc (e2 P) (lc (e4 P) (lc (e172 P) (lc (e2 P) (lc (e196 P) (lc (e249 P) (lc (e165 P) (lc (e2 P) (lc (e4 P) (lc (e242 P) (lc (e2 P) (lc (e229 P) (lc (e203 P) (lc (e256 P) (lc (e2 P) (lc (e4 P) (lc (e181 P) (lc (e2 P) (lc (e169 P) (lc (e222 P) (lc (e195 P) (lc (e2 P) (lc (e4 P) (lc (e214 P) (lc (e2 P) (lc (e239 P) (lc (e176 P) (lc (e228 P) (lc (e2 P) (lc (e4 P) (lc (e159 P) (lc (e2 P) (lc (e184 P) (lc (e236 P) (lc (e174 P) (lc (e2 P) (lc (e4 P) (lc (e251 P) (lc (e2 P) (lc (e218 P) (lc (e191 P) (lc (e245 P) (lc (e2 P) (lc (e4 P) (lc (e205 P) (lc (e2 P) (lc (e155 P) (lc (e207 P) (lc (e180 P) (lc (e2 P) (lc (e4 P) (lc (e221 P) (lc (e2 P) (lc (e247 P) (lc (e163 P) (lc (e213 P) (lc (e2 P) (lc (e4 P) (lc (e175 P) (lc (e2 P) (lc (e201 P) (lc (e254 P) (lc (e158 P) (lc (e2 P) (lc (e4 P) (lc (e235 P) (lc (e2 P) (lc (e225 P) (lc (e198 P) (lc (e250 P) (lc (e166 P) (lc (e217 P) (lc (e190 P) (lc (e244 P) (lc (e179 P) (lc (e231 P) (lc (e204 P) (lc (e2 P) (lc (e4 P) (lc (e208 P) (lc (e2 P) (lc (e234 P) (lc (e171 P) (lc (e223 P) (lc (e2 P) (lc (e4 P) (lc (e164 P) (lc (e2 P) (lc (e189 P) (lc (e241 P) (lc (e177 P) (lc (e2 P) (lc (e4 P) (lc (e255 P) (lc (e2 P) (lc (e211 P) (lc (e186 P) (lc (e237 P) (lc (e2 P) (lc (e4 P) (lc (e199 P) (lc (e2 P) (lc (e167 P) (lc (e219 P) (lc (e192 P) (lc (e2 P) (lc (e4 P) (lc (e232 P) (lc (e2 P) (lc (e257 P) (lc (e154 P) (lc (e206 P) (lc (e2 P) (lc (e4 P) (lc (e168 P) (lc (e2 P) (lc (e194 P) (lc (e246 P) (lc (e162 P) (lc (e2 P) (lc (e4 P) (lc (e238 P) (lc (e2 P) (lc (e227 P) (lc (e200 P) (lc (e253 P) (lc (e2 P) (lc (e4 P) (lc (e183 P) (lc (e2 P) (lc (e173 P) (lc (e224 P) (lc (e197 P) (lc (e2 P) (lc (e4 P) (lc (e216 P) (lc (e2 P) (lc (e243 P) (lc (e178 P) (lc (e230 P) (lc (e2 P) (lc (e4 P) (lc (e156 P) (lc (e2 P) (lc (e182 P) (lc (e233 P) (lc (e170 P) (lc (e2 P) (lc (e4 P) (lc (e248 P) (lc (e2 P) (lc (e215 P) (lc (e188 P) (lc (e240 P) (lc (e2 P) (lc (e4 P) (lc (e202 P) (lc (e2 P) (lc (e160 P) (lc (e210 P) (lc (e185 P) (lc (e2 P) (lc (e4 P) (lc (e261 P) (lc (e2 P) (lc (e262 P) (lc (e263 P) (lc (e264 P) (lc (e2 P) (lc (e4 P) (lc (e265 P) (lc (e266 P) (lc (e267 P) ln))))))))))))))))))))))))))))))))))))))))))))))))))))))))))))))))))))))))))))))))))))))))))))))))))))))))))))))))))))))))))))))))))))))))))))))))))))))))))))))))))))))))))))))))))))))))))))))))))))))))))))))))))))))))))))))))))))))))))))))))))))))))))))))))))))))))))))))))))))))))))))))))))))))))))))))))))))))))))))))))))))))))))))))))))))))))))))))))))))))))))))))))))))))))))))))))))))))))))))))))))))))))))))))))))))))))))))))))))))))))))))))
abbrev _root_.PySem.W.Fast.tw17032336456700812336 : Params → BT := fun P => .node (qb0 P) (.node (qb1 P) (.node (q268 P) (.node (qb7 P) (.node (q1 P) (.node (q2 P) (.node (q3 P) (.node (q4 P) (.node (q5 P) .nil .nil) .nil) (.node (q6 P) (.node (q155 P) .nil .nil) .nil)) (.node (q7 P) (.node (q8 P) (.node (q2 P) .nil .nil) .nil) (.node (q9 P) .nil .nil))) (.node (q2 P) (.node (q10 P) (.node (q2 P) (.node (q157 P) .nil .nil) .nil) (.node (q11 P) (.node (q158 P) .nil .nil) .nil)) (.node (q12 P) (.node (q2 P) (.node (q159 P) .nil .nil) .nil) (.node (q4 P) .nil .nil)))) (.node (q13 P) (.node (q14 P) (.node (q2 P) (.node (q15 P) (.node (q161 P) .nil .nil) .nil) (.node (q2 P) (.node (q163 P) .nil .nil) .nil)) (.node (q16 P) (.node (q17 P) (.node (q4 P) .nil .nil) .nil) (.node (q2 P) .nil .nil))) (.node (q2 P) (.node (q2 P) (.node (q18 P) (.node (q165 P) .nil .nil) .nil) (.node (q19 P) (.node (q166 P) .nil .nil) .nil)) (.node (q2 P) (.node (q4 P) (.node (q2 P) .nil .nil) .nil) (.node (q20 P) .nil .nil))))) (.node (q2 P) (.node (q4 P) (.node (q2 P) (.node (q2 P) (.node (q21 P) (.node (q2 P) .nil .nil) .nil) (.node (q22 P) (.node (q4 P) .nil .nil) .nil)) (.node (q4 P) (.node (q23 P) (.node (q169 P) .nil .nil) .nil) (.node (q2 P) .nil .nil))) (.node (q24 P) (.node (q25 P) (.node (q2 P) (.node (q172 P) .nil .nil) .nil) (.node (q4 P) (.node (q2 P) .nil .nil) .nil)) (.node (q2 P) (.node (q26 P) (.node (q174 P) .nil .nil) .nil) (.node (q27 P) .nil .nil)))) (.node (q28 P) (.node (q2 P) (.node (q29 P) (.node (q30 P) (.node (q4 P) .nil .nil) .nil) (.node (q2 P) (.node (q175 P) .nil .nil) .nil)) (.node (q31 P) (.node (q2 P) (.node (q176 P) .nil .nil) .nil) (.node (q32 P) .nil .nil))) (.node (q2 P) (.node (q2 P) (.node (q4 P) (.node (q2 P) .nil .nil) .nil) (.node (q33 P) (.node (q179 P) .nil .nil) .nil)) (.node (q34 P) (.node (q35 P) (.node (q2 P) .nil .nil) .nil) (.node (q36 P) .nil .nil)))))) (.node (qb5 P) (.node (qb9 P) (.node (q37 P) (.node (q38 P) (.node (q39 P) (.node (q2 P) (.node (q40 P) .nil .nil) .nil) (.node (q41 P) (.node (q180 P) .nil .nil) .nil)) (.node (q42 P) (.node (q2 P) (.node (q181 P) .nil .nil) .nil) (.node (q4 P) .nil .nil))) (.node (q43 P) (.node (q44 P) (.node (q45 P) (.node (q2 P) .nil .nil) .nil) (.node (q46 P) (.node (q4 P) .nil .nil) .nil)) (.node (q4 P) (.node (q47 P) (.node (q184 P) .nil .nil) .nil) (.node (q2 P) .nil .nil)))) (.node (q48 P) (.node (q39 P) (.node (q49 P) (.node (q50 P) (.node (q187 P) .nil .nil) .nil) (.node (q51 P) (.node (q2 P) .nil .nil) .nil)) (.node (q2 P) (.node (q4 P) (.node (q2 P) .nil .nil) .nil) (.node (q52 P) .nil .nil))) (.node (q53 P) (.node (q54 P) (.node (q55 P) (.node (q4 P) .nil .nil) .nil) (.node (q2 P) (.node (q190 P) .nil .nil) .nil)) (.node (q56 P) (.node (q2 P) (.node (q191 P) .nil .nil) .nil) (.node (q57 P) .nil .nil))))) (.node (q58 P) (.node (q59 P) (.node (q60 P) (.node (q61 P) (.node (q2 P) (.node (q193 P) .nil .nil) .nil) (.node (q4 P) (.node (q2 P) .nil .nil) .nil)) (.node (q2 P) (.node (q62 P) (.node (q195 P) .nil .nil) .nil) (.node (q63 P) .nil .nil))) (.node (q39 P) (.node (q4 P) (.node (q64 P) (.node (q196 P) .nil .nil) .nil) (.node (q2 P) (.node (q198 P) .nil .nil) .nil)) (.node (q65 P) (.node (q66 P) (.node (q4 P) .nil .nil) .nil) (.node (q2 P) .nil .nil)))) (.node (q39 P) (.node (q67 P) (.node (q2 P) (.node (q4 P) (.node (q2 P) .nil .nil) .nil) (.node (q68 P) (.node (q201 P) .nil .nil) .nil)) (.node (q69 P) (.node (q70 P) (.node (q2 P) .nil .nil) .nil) (.node (q71 P) .nil .nil))) (.node (q72 P) (.node (q73 P) (.node (q2 P) (.node (q203 P) .nil .nil) .nil) (.node (q74 P) (.node (q204 P) .nil .nil) .nil)) (.node (q75 P) (.node (q2 P) (.node (q205 P) .nil .nil) .nil) (.node (q76 P) .nil .nil))))))) (.node (qb2 P) (.node (qb4 P) (.node (qb8 P) (.node (q39 P) (.node (q4 P) (.node (q77 P) (.node (q78 P) (.node (q79 P) .nil .nil) .nil) (.node (q2 P) (.node (q207 P) .nil .nil) .nil)) (.node (q80 P) (.node (q81 P) (.node (q4 P) .nil .nil) .nil) (.node (q2 P) .nil .nil))) (.node (q82 P) (.node (q2 P) (.node (q83 P) (.node (q209 P) .nil .nil) .nil) (.node (q84 P) (.node (q2 P) .nil .nil) .nil)) (.node (q2 P) (.node (q39 P) (.node (q2 P) .nil .nil) .nil) (.node (q85 P) .nil .nil)))) (.node (q86 P) (.node (q77 P) (.node (q87 P) (.node (q2 P) (.node (q212 P) .nil .nil) .nil) (.node (q88 P) (.node (q213 P) .nil .nil) .nil)) (.node (q89 P) (.node (q2 P) (.node (q214 P) .nil .nil) .nil) (.node (q4 P) .nil .nil))) (.node (q4 P) (.node (q90 P) (.node (q91 P) (.node (q2 P) .nil .nil) .nil) (.node (q92 P) (.node (q217 P) .nil .nil) .nil)) (.node (q4 P) (.node (q93 P) (.node (q218 P) .nil .nil) .nil) (.node (q2 P) .nil .nil))))) (.node (q269 P) (.node (q95 P) (.node (q96 P) (.node (q4 P) (.node (q97 P) (.node (q39 P) .nil .nil) .nil) (.node (q2 P) (.node (q221 P) .nil .nil) .nil)) (.node (q98 P) (.node (q2 P) (.node (q222 P) .nil .nil) .nil) (.node (q99 P) .nil .nil))) (.node (q77 P) (.node (q2 P) (.node (q4 P) (.node (q2 P) .nil .nil) .nil) (.node (q100 P) (.node (q225 P) .nil .nil) .nil)) (.node (q101 P) (.node (q102 P) (.node (q2 P) .nil .nil) .nil) (.node (q103 P) .nil .nil)))) (.node (q77 P) (.node (q4 P) (.node (q104 P) (.node (q2 P) (.node (q226 P) .nil .nil) .nil) (.node (q4 P) (.node (q2 P) .nil .nil) .nil)) (.node (q2 P) (.node (q105 P) (.node (q228 P) .nil .nil) .nil) (.node (q106 P) .nil .nil))) (.node (q107 P) (.node (q4 P) (.node (q108 P) (.node (q229 P) .nil .nil) .nil) (.node (q2 P) (.node (q231 P) .nil .nil) .nil)) (.node (q109 P) (.node (q110 P) (.node (q4 P) .nil .nil) .nil) (.node (q111 P) .nil .nil)))))) (.node (qb6 P) (.node (qb10 P) (.node (q2 P) (.node (q112 P) (.node (q113 P) (.node (q114 P) (.node (q115 P) .nil .nil) .nil) (.node (q116 P) (.node (q2 P) .nil .nil) .nil)) (.node (q2 P) (.node (q4 P) (.node (q2 P) .nil .nil) .nil) (.node (q117 P) .nil .nil))) (.node (q118 P) (.node (q119 P) (.node (q120 P) (.node (q4 P) .nil .nil) .nil) (.node (q2 P) (.node (q235 P) .nil .nil) .nil)) (.node (q121 P) (.node (q2 P) (.node (q236 P) .nil .nil) .nil) (.node (q122 P) .nil .nil)))) (.node (q123 P) (.node (q124 P) (.node (q125 P) (.node (q126 P) (.node (q2 P) .nil .nil) .nil) (.node (q127 P) (.node (q4 P) .nil .nil) .nil)) (.node (q4 P) (.node (q128 P) (.node (q239 P) .nil .nil) .nil) (.node (q2 P) .nil .nil))) (.node (q129 P) (.node (q130 P) (.node (q2 P) (.node (q242 P) .nil .nil) .nil) (.node (q4 P) (.node (q244 P) .nil .nil) .nil)) (.node (q2 P) (.node (q131 P) (.node (q245 P) .nil .nil) .nil) (.node (q132 P) .nil .nil))))) (.node (q133 P) (.node (q2 P) (.node (q134 P) (.node (q135 P) (.node (q4 P) (.node (q2 P) .nil .nil) .nil) (.node (q136 P) (.node (q247 P) .nil .nil) .nil)) (.node (q137 P) (.node (q138 P) (.node (q2 P) .nil .nil) .nil) (.node (q139 P) .nil .nil))) (.node (q140 P) (.node (q141 P) (.node (q2 P) (.node (q249 P) .nil .nil) .nil) (.node (q142 P) (.node (q250 P) .nil .nil) .nil)) (.node (q143 P) (.node (q2 P) (.node (q251 P) .nil .nil) .nil) (.node (q4 P) .nil .nil)))) (.node (q144 P) (.node (q145 P) (.node (q4 P) (.node (q146 P) (.node (q252 P) .nil .nil) .nil) (.node (q2 P) (.node (q254 P) .nil .nil) .nil)) (.node (q147 P) (.node (q148 P) (.node (q4 P) .nil .nil) .nil) (.node (q2 P) .nil .nil))) (.node (q149 P) (.node (q2 P) (.node (q150 P) (.node (q256 P) .nil .nil) .nil) (.node (q151 P) .nil .nil)) (.node (q2 P) (.node (q4 P) (.node (q2 P) .nil .nil) .nil) (.node (q152 P) .nil .nil)))))))
def _root_.PySem.W.Fast.te17032336456700812336 := funext fun P => nc (eb0 P) (nc (eb1 P) (nc (e268 P) (nc (eb7 P) (nc (e1 P) (nc (e2 P) (nc (e3 P) (nc (e4 P) (nc (e5 P) nn nn) nn) (nc (e6 P) (nc (e155 P) nn nn) nn)) (nc (e7 P) (nc (e8 P) (nc (e2 P) nn nn) nn) (nc (e9 P) nn nn))) (nc (e2 P) (nc (e10 P) (nc (e2 P) (nc (e157 P) nn nn) nn) (nc (e11 P) (nc (e158 P) nn nn) nn)) (nc (e12 P) (nc (e2 P) (nc (e159 P) nn nn) nn) (nc (e4 P) nn nn)))) (nc (e13 P) (nc (e14 P) (nc (e2 P) (nc (e15 P) (nc (e161 P) nn nn) nn) (nc (e2 P) (nc (e163 P) nn nn) nn)) (nc (e16 P) (nc (e17 P) (nc (e4 P) nn nn) nn) (nc (e2 P) nn nn))) (nc (e2 P) (nc (e2 P) (nc (e18 P) (nc (e165 P) nn nn) nn) (nc (e19 P) (nc (e166 P) nn nn) nn)) (nc (e2 P) (nc (e4 P) (nc (e2 P) nn nn) nn) (nc (e20 P) nn nn))))) (nc (e2 P) (nc (e4 P) (nc (e2 P) (nc (e2 P) (nc (e21 P) (nc (e2 P) nn nn) nn) (nc (e22 P) (nc (e4 P) nn nn) nn)) (nc (e4 P) (nc (e23 P) (nc (e169 P) nn nn) nn) (nc (e2 P) nn nn))) (nc (e24 P) (nc (e25 P) (nc (e2 P) (nc (e172 P) nn nn) nn) (nc (e4 P) (nc (e2 P) nn nn) nn)) (nc (e2 P) (nc (e26 P) (nc (e174 P) nn nn) nn) (nc (e27 P) nn nn)))) (nc (e28 P) (nc (e2 P) (nc (e29 P) (nc (e30 P) (nc (e4 P) nn nn) nn) (nc (e2 P) (nc (e175 P) nn nn) nn)) (nc (e31 P) (nc (e2 P) (nc (e176 P) nn nn) nn) (nc (e32 P) nn nn))) (nc (e2 P) (nc (e2 P) (nc (e4 P) (nc (e2 P) nn nn) nn) (nc (e33 P) (nc (e179 P) nn nn) nn)) (nc (e34 P) (nc (e35 P) (nc (e2 P) nn nn) nn) (nc (e36 P) nn nn)))))) (nc (eb5 P) (nc (eb9 P) (nc (e37 P) (nc (e38 P) (nc (e39 P) (nc (e2 P) (nc (e40 P) nn nn) nn) (nc (e41 P) (nc (e180 P) nn nn) nn)) (nc (e42 P) (nc (e2 P) (nc (e181 P) nn nn) nn) (nc (e4 P) nn nn))) (nc (e43 P) (nc (e44 P) (nc (e45 P) (nc (e2 P) nn nn) nn) (nc (e46 P) (nc (e4 P) nn nn) nn)) (nc (e4 P) (nc (e47 P) (nc (e184 P) nn nn) nn) (nc (e2 P) nn nn)))) (nc (e48 P) (nc (e39 P) (nc (e49 P) (nc (e50 P) (nc (e187 P) nn nn) nn) (nc (e51 P) (nc (e2 P) nn nn) nn)) (nc (e2 P) (nc (e4 P) (nc (e2 P) nn nn) nn) (nc (e52 P) nn nn))) (nc (e53 P) (nc (e54 P) (nc (e55 P) (nc (e4 P) nn nn) nn) (nc (e2 P) (nc (e190 P) nn nn) nn)) (nc (e56 P) (nc (e2 P) (nc (e191 P) nn nn) nn) (nc (e57 P) nn nn))))) (nc (e58 P) (nc (e59 P) (nc (e60 P) (nc (e61 P) (nc (e2 P) (nc (e193 P) nn nn) nn) (nc (e4 P) (nc (e2 P) nn nn) nn)) (nc (e2 P) (nc (e62 P) (nc (e195 P) nn nn) nn) (nc (e63 P) nn nn))) (nc (e39 P) (nc (e4 P) (nc (e64 P) (nc (e196 P) nn nn) nn) (nc (e2 P) (nc (e198 P) nn nn) nn)) (nc (e65 P) (nc (e66 P) (nc (e4 P) nn nn) nn) (nc (e2 P) nn nn)))) (nc (e39 P) (nc (e67 P) (nc (e2 P) (nc (e4 P) (nc (e2 P) nn nn) nn) (nc (e68 P) (nc (e201 P) nn nn) nn)) (nc (e69 P) (nc (e70 P) (nc (e2 P) nn nn) nn) (nc (e71 P) nn nn))) (nc (e72 P) (nc (e73 P) (nc (e2 P) (nc (e203 P) nn nn) nn) (nc (e74 P) (nc (e204 P) nn nn) nn)) (nc (e75 P) (nc (e2 P) (nc (e205 P) nn nn) nn) (nc (e76 P) nn nn))))))) (nc (eb2 P) (nc (eb4 P) (nc (eb8 P) (nc (e39 P) (nc (e4 P) (nc (e77 P) (nc (e78 P) (nc (e79 P) nn nn) nn) (nc (e2 P) (nc (e207 P) nn nn) nn)) (nc (e80 P) (nc (e81 P) (nc (e4 P) nn nn) nn) (nc (e2 P) nn nn))) (nc (e82 P) (nc (e2 P) (nc (e83 P) (nc (e209 P) nn nn) nn) (nc (e84 P) (nc (e2 P) nn nn) nn)) (nc (e2 P) (nc (e39 P) (nc (e2 P) nn nn) nn) (nc (e85 P) nn nn)))) (nc (e86 P) (nc (e77 P) (nc (e87 P) (nc (e2 P) (nc (e212 P) nn nn) nn) (nc (e88 P) (nc (e213 P) nn nn) nn)) (nc (e89 P) (nc (e2 P) (nc (e214 P) nn nn) nn) (nc (e4 P) nn nn))) (nc (e4 P) (nc (e90 P) (nc (e91 P) (nc (e2 P) nn nn) nn) (nc (e92 P) (nc (e217 P) nn nn) nn)) (nc (e4 P) (nc (e93 P) (nc (e218 P) nn nn) nn) (nc (e2 P) nn nn))))) (nc (e269 P) (nc (e95 P) (nc (e96 P) (nc (e4 P) (nc (e97 P) (nc (e39 P) nn nn) nn) (nc (e2 P) (nc (e221 P) nn nn) nn)) (nc (e98 P) (nc (e2 P) (nc (e222 P) nn nn) nn) (nc (e99 P) nn nn))) (nc (e77 P) (nc (e2 P) (nc (e4 P) (nc (e2 P) nn nn) nn) (nc (e100 P) (nc (e225 P) nn nn) nn)) (nc (e101 P) (nc (e102 P) (nc (e2 P) nn nn) nn) (nc (e103 P) nn nn)))) (nc (e77 P) (nc (e4 P) (nc (e104 P) (nc (e2 P) (nc (e226 P) nn nn) nn) (nc (e4 P) (nc (e2 P) nn nn) nn)) (nc (e2 P) (nc (e105 P) (nc (e228 P) nn nn) nn) (nc (e106 P) nn nn))) (nc (e107 P) (nc (e4 P) (nc (e108 P) (nc (e229 P) nn nn) nn) (nc (e2 P) (nc (e231 P) nn nn) nn)) (nc (e109 P) (nc (e110 P) (nc (e4 P) nn nn) nn) (nc (e111 P) nn nn)))))) (nc (eb6 P) (nc (eb10 P) (nc (e2 P) (nc (e112 P) (nc (e113 P) (nc (e114 P) (nc (e115 P) nn nn) nn) (nc (e116 P) (nc (e2 P) nn nn) nn)) (nc (e2 P) (nc (e4 P) (nc (e2 P) nn nn) nn) (nc (e117 P) nn nn))) (nc (e118 P) (nc (e119 P) (nc (e120 P) (nc (e4 P) nn nn) nn) (nc (e2 P) (nc (e235 P) nn nn) nn)) (nc (e121 P) (nc (e2 P) (nc (e236 P) nn nn) nn) (nc (e122 P) nn nn)))) (nc (e123 P) (nc (e124 P) (nc (e125 P) (nc (e126 P) (nc (e2 P) nn nn) nn) (nc (e127 P) (nc (e4 P) nn nn) nn)) (nc (e4 P) (nc (e128 P) (nc (e239 P) nn nn) nn) (nc (e2 P) nn nn))) (nc (e129 P) (nc (e130 P) (nc (e2 P) (nc (e242 P) nn nn) nn) (nc (e4 P) (nc (e244 P) nn nn) nn)) (nc (e2 P) (nc (e131 P) (nc (e245 P) nn nn) nn) (nc (e132 P) nn nn))))) (nc (e133 P) (nc (e2 P) (nc (e134 P) (nc (e135 P) (nc (e4 P) (nc (e2 P) nn nn) nn) (nc (e136 P) (nc (e247 P) nn nn) nn)) (nc (e137 P) (nc (e138 P) (nc (e2 P) nn nn) nn) (nc (e139 P) nn nn))) (nc (e140 P) (nc (e141 P) (nc (e2 P) (nc (e249 P) nn nn) nn) (nc (e142 P) (nc (e250 P) nn nn) nn)) (nc (e143 P) (nc (e2 P) (nc (e251 P) nn nn) nn) (nc (e4 P) nn nn)))) (nc (e144 P) (nc (e145 P) (nc (e4 P) (nc (e146 P) (nc (e252 P) nn nn) nn) (nc (e2 P) (nc (e254 P) nn nn) nn)) (nc (e147 P) (nc (e148 P) (nc (e4 P) nn nn) nn) (nc (e2 P) nn nn))) (nc (e149 P) (nc (e2 P) (nc (e150 P) (nc (e256 P) nn nn) nn) (nc (e151 P) nn nn)) (nc (e2 P) (nc (e4 P) (nc (e2 P) nn nn) nn) (nc (e152 P) nn nn)))))))
abbrev _root_.PySem.W.Fast.tw6460965450735550332 : Params → BT := fun P => .node (qb0 P) (.node (qb1 P) (.node (q259 P) (.node (qb7 P) (.node (q1 P) (.node (q2 P) (.node (q3 P) (.node (q4 P) (.node (q5 P) .nil .nil) (.node (q154 P) .nil .nil)) (.node (q6 P) (.node (q155 P) .nil .nil) .nil)) (.node (q7 P) (.node (q8 P) (.node (q2 P) .nil .nil) (.node (q156 P) .nil .nil)) (.node (q9 P) (.node (q4 P) .nil .nil) .nil))) (.node (q2 P) (.node (q10 P) (.node (q2 P) (.node (q157 P) .nil .nil) (.node (q2 P) .nil .nil)) (.node (q11 P) (.node (q158 P) .nil .nil) .nil)) (.node (q12 P) (.node (q2 P) (.node (q159 P) .nil .nil) (.node (q160 P) .nil .nil)) (.node (q4 P) (.node (q2 P) .nil .nil) .nil)))) (.node (q13 P) (.node (q14 P) (.node (q2 P) (.node (q15 P) (.node (q161 P) .nil .nil) (.node (q162 P) .nil .nil)) (.node (q2 P) (.node (q163 P) .nil .nil) .nil)) (.node (q16 P) (.node (q17 P) (.node (q4 P) .nil .nil) (.node (q2 P) .nil .nil)) (.node (q2 P) (.node (q164 P) .nil .nil) .nil))) (.node (q2 P) (.node (q2 P) (.node (q18 P) (.node (q165 P) .nil .nil) (.node (q4 P) .nil .nil)) (.node (q19 P) (.node (q166 P) .nil .nil) .nil)) (.node (q2 P) (.node (q4 P) (.node (q2 P) .nil .nil) (.node (q263 P) .nil .nil)) (.node (q20 P) (.node (q167 P) .nil .nil) .nil))))) (.node (q2 P) (.node (q4 P) (.node (q2 P) (.node (q2 P) (.node (q21 P) (.node (q2 P) .nil .nil) (.node (q168 P) .nil .nil)) (.node (q22 P) (.node (q4 P) .nil .nil) .nil)) (.node (q4 P) (.node (q23 P) (.node (q169 P) .nil .nil) (.node (q170 P) .nil .nil)) (.node (q2 P) (.node (q171 P) .nil .nil) .nil))) (.node (q24 P) (.node (q25 P) (.node (q2 P) (.node (q172 P) .nil .nil) (.node (q173 P) .nil .nil)) (.node (q4 P) (.node (q2 P) .nil .nil) .nil)) (.node (q2 P) (.node (q26 P) (.node (q174 P) .nil .nil) (.node (q4 P) .nil .nil)) (.node (q27 P) (.node (q2 P) .nil .nil) .nil)))) (.node (q28 P) (.node (q2 P) (.node (q29 P) (.node (q30 P) (.node (q4 P) .nil .nil) (.node (q2 P) .nil .nil)) (.node (q2 P) (.node (q175 P) .nil .nil) .nil)) (.node (q31 P) (.node (q2 P) (.node (q176 P) .nil .nil) (.node (q2 P) .nil .nil)) (.node (q32 P) (.node (q177 P) .nil .nil) .nil))) (.node (q2 P) (.node (q2 P) (.node (q4 P) (.node (q2 P) .nil .nil) (.node (q178 P) .nil .nil)) (.node (q33 P) (.node (q179 P) .nil .nil) .nil)) (.node (q34 P) (.node (q35 P) (.node (q2 P) .nil .nil) (.node (q265 P) .nil .nil)) (.node (q36 P) (.node (q4 P) .nil .nil) .nil)))))) (.node (qb5 P) (.node (qb9 P) (.node (q37 P) (.node (q38 P) (.node (q39 P) (.node (q2 P) (.node (q40 P) .nil .nil) (.node (q2 P) .nil .nil)) (.node (q41 P) (.node (q180 P) .nil .nil) .nil)) (.node (q42 P) (.node (q2 P) (.node (q181 P) .nil .nil) (.node (q182 P) .nil .nil)) (.node (q4 P) (.node (q2 P) .nil .nil) .nil))) (.node (q43 P) (.node (q44 P) (.node (q45 P) (.node (q2 P) .nil .nil) (.node (q183 P) .nil .nil)) (.node (q46 P) (.node (q4 P) .nil .nil) .nil)) (.node (q4 P) (.node (q47 P) (.node (q184 P) .nil .nil) (.node (q185 P) .nil .nil)) (.node (q2 P) (.node (q186 P) .nil .nil) .nil)))) (.node (q48 P) (.node (q39 P) (.node (q49 P) (.node (q50 P) (.node (q187 P) .nil .nil) (.node (q4 P) .nil .nil)) (.node (q51 P) (.node (q2 P) .nil .nil) .nil)) (.node (q2 P) (.node (q4 P) (.node (q2 P) .nil .nil) (.node (q188 P) .nil .nil)) (.node (q52 P) (.node (q189 P) .nil .nil) .nil))) (.node (q53 P) (.node (q54 P) (.node (q55 P) (.node (q4 P) .nil .nil) (.node (q2 P) .nil .nil)) (.node (q2 P) (.node (q190 P) .nil .nil) .nil)) (.node (q56 P) (.node (q2 P) (.node (q191 P) .nil .nil) (.node (q2 P) .nil .nil)) (.node (q57 P) (.node (q192 P) .nil .nil) .nil))))) (.node (q58 P) (.node (q59 P) (.node (q60 P) (.node (q61 P) (.node (q2 P) (.node (q193 P) .nil .nil) (.node (q194 P) .nil .nil)) (.node (q4 P) (.node (q2 P) .nil .nil) .nil)) (.node (q2 P) (.node (q62 P) (.node (q195 P) .nil .nil) (.node (q4 P) .nil .nil)) (.node (q63 P) (.node (q2 P) .nil .nil) .nil))) (.node (q39 P) (.node (q4 P) (.node (q64 P) (.node (q196 P) .nil .nil) (.node (q197 P) .nil .nil)) (.node (q2 P) (.node (q198 P) .nil .nil) .nil)) (.node (q65 P) (.node (q66 P) (.node (q4 P) .nil .nil) (.node (q2 P) .nil .nil)) (.node (q2 P) (.node (q199 P) .nil .nil) .nil)))) (.node (q39 P) (.node (q67 P) (.node (q2 P) (.node (q4 P) (.node (q2 P) .nil .nil) (.node (q200 P) .nil .nil)) (.node (q68 P) (.node (q201 P) .nil .nil) .nil)) (.node (q69 P) (.node (q70 P) (.node (q2 P) .nil .nil) (.node (q202 P) .nil .nil)) (.node (q71 P) (.node (q4 P) .nil .nil) .nil))) (.node (q72 P) (.node (q73 P) (.node (q2 P) (.node (q203 P) .nil .nil) (.node (q2 P) .nil .nil)) (.node (q74 P) (.node (q204 P) .nil .nil) .nil)) (.node (q75 P) (.node (q2 P) (.node (q205 P) .nil .nil) (.node (q267 P) .nil .nil)) (.node (q76 P) (.node (q2 P) .nil .nil) .nil))))))) (.node (qb2 P) (.node (qb4 P) (.node (qb8 P) (.node (q39 P) (.node (q4 P) (.node (q77 P) (.node (q78 P) (.node (q79 P) .nil .nil) (.node (q206 P) .nil .nil)) (.node (q2 P) (.node (q207 P) .nil .nil) .nil)) (.node (q80 P) (.node (q81 P) (.node (q4 P) .nil .nil) (.node (q2 P) .nil .nil)) (.node (q2 P) (.node (q208 P) .nil .nil) .nil))) (.node (q82 P) (.node (q2 P) (.node (q83 P) (.node (q209 P) .nil .nil) (.node (q4 P) .nil .nil)) (.node (q84 P) (.node (q2 P) .nil .nil) .nil)) (.node (q2 P) (.node (q39 P) (.node (q2 P) .nil .nil) (.node (q210 P) .nil .nil)) (.node (q85 P) (.node (q211 P) .nil .nil) .nil)))) (.node (q86 P) (.node (q77 P) (.node (q87 P) (.node (q2 P) (.node (q212 P) .nil .nil) (.node (q2 P) .nil .nil)) (.node (q88 P) (.node (q213 P) .nil .nil) .nil)) (.node (q89 P) (.node (q2 P) (.node (q214 P) .nil .nil) (.node (q215 P) .nil .nil)) (.node (q4 P) (.node (q2 P) .nil .nil) .nil))) (.node (q4 P) (.node (q90 P) (.node (q91 P) (.node (q2 P) .nil .nil) (.node (q216 P) .nil .nil)) (.node (q92 P) (.node (q217 P) .nil .nil) .nil)) (.node (q4 P) (.node (q93 P) (.node (q218 P) .nil .nil) (.node (q264 P) .nil .nil)) (.node (q2 P) (.node (q219 P) .nil .nil) .nil))))) (.node (q260 P) (.node (q95 P) (.node (q96 P) (.node (q4 P) (.node (q97 P) (.node (q39 P) .nil .nil) (.node (q2 P) .nil .nil)) (.node (q2 P) (.node (q221 P) .nil .nil) .nil)) (.node (q98 P) (.node (q2 P) (.node (q222 P) .nil .nil) (.node (q2 P) .nil .nil)) (.node (q99 P) (.node (q223 P) .nil .nil) .nil))) (.node (q77 P) (.node (q2 P) (.node (q4 P) (.node (q2 P) .nil .nil) (.node (q224 P) .nil .nil)) (.node (q100 P) (.node (q225 P) .nil .nil) .nil)) (.node (q101 P) (.node (q102 P) (.node (q2 P) .nil .nil) (.node (q261 P) .nil .nil)) (.node (q103 P) (.node (q4 P) .nil .nil) .nil)))) (.node (q77 P) (.node (q4 P) (.node (q104 P) (.node (q2 P) (.node (q226 P) .nil .nil) (.node (q227 P) .nil .nil)) (.node (q4 P) (.node (q2 P) .nil .nil) .nil)) (.node (q2 P) (.node (q105 P) (.node (q228 P) .nil .nil) (.node (q4 P) .nil .nil)) (.node (q106 P) (.node (q2 P) .nil .nil) .nil))) (.node (q107 P) (.node (q4 P) (.node (q108 P) (.node (q229 P) .nil .nil) (.node (q230 P) .nil .nil)) (.node (q2 P) (.node (q231 P) .nil .nil) .nil)) (.node (q109 P) (.node (q110 P) (.node (q4 P) .nil .nil) (.node (q266 P) .nil .nil)) (.node (q111 P) (.node (q232 P) .nil .nil) .nil)))))) (.node (qb6 P) (.node (qb10 P) (.node (q2 P) (.node (q112 P) (.node (q113 P) (.node (q114 P) (.node (q115 P) .nil .nil) (.node (q4 P) .nil .nil)) (.node (q116 P) (.node (q2 P) .nil .nil) .nil)) (.node (q2 P) (.node (q4 P) (.node (q2 P) .nil .nil) (.node (q233 P) .nil .nil)) (.node (q117 P) (.node (q234 P) .nil .nil) .nil))) (.node (q118 P) (.node (q119 P) (.node (q120 P) (.node (q4 P) .nil .nil) (.node (q2 P) .nil .nil)) (.node (q2 P) (.node (q235 P) .nil .nil) .nil)) (.node (q121 P) (.node (q2 P) (.node (q236 P) .nil .nil) (.node (q2 P) .nil .nil)) (.node (q122 P) (.node (q237 P) .nil .nil) .nil)))) (.node (q123 P) (.node (q124 P) (.node (q125 P) (.node (q126 P) (.node (q2 P) .nil .nil) (.node (q238 P) .nil .nil)) (.node (q127 P) (.node (q4 P) .nil .nil) .nil)) (.node (q4 P) (.node (q128 P) (.node (q239 P) .nil .nil) (.node (q240 P) .nil .nil)) (.node (q2 P) (.node (q241 P) .nil .nil) .nil))) (.node (q129 P) (.node (q130 P) (.node (q2 P) (.node (q242 P) .nil .nil) (.node (q243 P) .nil .nil)) (.node (q4 P) (.node (q244 P) .nil .nil) .nil)) (.node (q2 P) (.node (q131 P) (.node (q245 P) .nil .nil) (.node (q4 P) .nil .nil)) (.node (q132 P) (.node (q2 P) .nil .nil) .nil))))) (.node (q133 P) (.node (q2 P) (.node (q134 P) (.node (q135 P) (.node (q4 P) (.node (q2 P) .nil .nil) (.node (q246 P) .nil .nil)) (.node (q136 P) (.node (q247 P) .nil .nil) .nil)) (.node (q137 P) (.node (q138 P) (.node (q2 P) .nil .nil) (.node (q248 P) .nil .nil)) (.node (q139 P) (.node (q4 P) .nil .nil) .nil))) (.node (q140 P) (.node (q141 P) (.node (q2 P) (.node (q249 P) .nil .nil) (.node (q2 P) .nil .nil)) (.node (q142 P) (.node (q250 P) .nil .nil) .nil)) (.node (q143 P) (.node (q2 P) (.node (q251 P) .nil .nil) (.node (q262 P) .nil .nil)) (.node (q4 P) (.node (q2 P) .nil .nil) .nil)))) (.node (q144 P) (.node (q145 P) (.node (q4 P) (.node (q146 P) (.node (q252 P) .nil .nil) (.node (q253 P) .nil .nil)) (.node (q2 P) (.node (q254 P) .nil .nil) .nil)) (.node (q147 P) (.node (q148 P) (.node (q4 P) .nil .nil) (.node (q2 P) .nil .nil)) (.node (q2 P) (.node (q255 P) .nil .nil) .nil))) (.node (q149 P) (.node (q2 P) (.node (q150 P) (.node (q256 P) .nil .nil) (.node (q4 P) .nil .nil)) (.node (q151 P) (.node (q2 P) .nil .nil) .nil)) (.node (q2 P) (.node (q4 P) (.node (q2 P) .nil .nil) .nil) (.node (q152 P) (.node (q257 P) .nil .nil) .nil)))))))
def _root_.PySem.W.Fast.te6460965450735550332 := funext fun P => nc (eb0 P) (nc (eb1 P) (nc (e259 P) (nc (eb7 P) (nc (e1 P) (nc (e2 P) (nc (e3 P) (nc (e4 P) (nc (e5 P) nn nn) (nc (e154 P) nn nn)) (nc (e6 P) (nc (e155 P) nn nn) nn)) (nc (e7 P) (nc (e8 P) (nc (e2 P) nn nn) (nc (e156 P) nn nn)) (nc (e9 P) (nc (e4 P) nn nn) nn))) (nc (e2 P) (nc (e10 P) (nc (e2 P) (nc (e157 P) nn nn) (nc (e2 P) nn nn)) (nc (e11 P) (nc (e158 P) nn nn) nn)) (nc (e12 P) (nc (e2 P) (nc (e159 P) nn nn) (nc (e160 P) nn nn)) (nc (e4 P) (nc (e2 P) nn nn) nn)))) (nc (e13 P) (nc (e14 P) (nc (e2 P) (nc (e15 P) (nc (e161 P) nn nn) (nc (e162 P) nn nn)) (nc (e2 P) (nc (e163 P) nn nn) nn)) (nc (e16 P) (nc (e17 P) (nc (e4 P) nn nn) (nc (e2 P) nn nn)) (nc (e2 P) (nc (e164 P) nn nn) nn))) (nc (e2 P) (nc (e2 P) (nc (e18 P) (nc (e165 P) nn nn) (nc (e4 P) nn nn)) (nc (e19 P) (nc (e166 P) nn nn) nn)) (nc (e2 P) (nc (e4 P) (nc (e2 P) nn nn) (nc (e263 P) nn nn)) (nc (e20 P) (nc (e167 P) nn nn) nn))))) (nc (e2 P) (nc (e4 P) (nc (e2 P) (nc (e2 P) (nc (e21 P) (nc (e2 P) nn nn) (nc (e168 P) nn nn)) (nc (e22 P) (nc (e4 P) nn nn) nn)) (nc (e4 P) (nc (e23 P) (nc (e169 P) nn nn) (nc (e170 P) nn nn)) (nc (e2 P) (nc (e171 P) nn nn) nn))) (nc (e24 P) (nc (e25 P) (nc (e2 P) (nc (e172 P) nn nn) (nc (e173 P) nn nn)) (nc (e4 P) (nc (e2 P) nn nn) nn)) (nc (e2 P) (nc (e26 P) (nc (e174 P) nn nn) (nc (e4 P) nn nn)) (nc (e27 P) (nc (e2 P) nn nn) nn)))) (nc (e28 P) (nc (e2 P) (nc (e29 P) (nc (e30 P) (nc (e4 P) nn nn) (nc (e2 P) nn nn)) (nc (e2 P) (nc (e175 P) nn nn) nn)) (nc (e31 P) (nc (e2 P) (nc (e176 P) nn nn) (nc (e2 P) nn nn)) (nc (e32 P) (nc (e177 P) nn nn) nn))) (nc (e2 P) (nc (e2 P) (nc (e4 P) (nc (e2 P) nn nn) (nc (e178 P) nn nn)) (nc (e33 P) (nc (e179 P) nn nn) nn)) (nc (e34 P) (nc (e35 P) (nc (e2 P) nn nn) (nc (e265 P) nn nn)) (nc (e36 P) (nc (e4 P) nn nn) nn)))))) (nc (eb5 P) (nc (eb9 P) (nc (e37 P) (nc (e38 P) (nc (e39 P) (nc (e2 P) (nc (e40 P) nn nn) (nc (e2 P) nn nn)) (nc (e41 P) (nc (e180 P) nn nn) nn)) (nc (e42 P) (nc (e2 P) (nc (e181 P) nn nn) (nc (e182 P) nn nn)) (nc (e4 P) (nc (e2 P) nn nn) nn))) (nc (e43 P) (nc (e44 P) (nc (e45 P) (nc (e2 P) nn nn) (nc (e183 P) nn nn)) (nc (e46 P) (nc (e4 P) nn nn) nn)) (nc (e4 P) (nc (e47 P) (nc (e184 P) nn nn) (nc (e185 P) nn nn)) (nc (e2 P) (nc (e186 P) nn nn) nn)))) (nc (e48 P) (nc (e39 P) (nc (e49 P) (nc (e50 P) (nc (e187 P) nn nn) (nc (e4 P) nn nn)) (nc (e51 P) (nc (e2 P) nn nn) nn)) (nc (e2 P) (nc (e4 P) (nc (e2 P) nn nn) (nc (e188 P) nn nn)) (nc (e52 P) (nc (e189 P) nn nn) nn))) (nc (e53 P) (nc (e54 P) (nc (e55 P) (nc (e4 P) nn nn) (nc (e2 P) nn nn)) (nc (e2 P) (nc (e190 P) nn nn) nn)) (nc (e56 P) (nc (e2 P) (nc (e191 P) nn nn) (nc (e2 P) nn nn)) (nc (e57 P) (nc (e192 P) nn nn) nn))))) (nc (e58 P) (nc (e59 P) (nc (e60 P) (nc (e61 P) (nc (e2 P) (nc (e193 P) nn nn) (nc (e194 P) nn nn)) (nc (e4 P) (nc (e2 P) nn nn) nn)) (nc (e2 P) (nc (e62 P) (nc (e195 P) nn nn) (nc (e4 P) nn nn)) (nc (e63 P) (nc (e2 P) nn nn) nn))) (nc (e39 P) (nc (e4 P) (nc (e64 P) (nc (e196 P) nn nn) (nc (e197 P) nn nn)) (nc (e2 P) (nc (e198 P) nn nn) nn)) (nc (e65 P) (nc (e66 P) (nc (e4 P) nn nn) (nc (e2 P) nn nn)) (nc (e2 P) (nc (e199 P) nn nn) nn)))) (nc (e39 P) (nc (e67 P) (nc (e2 P) (nc (e4 P) (nc (e2 P) nn nn) (nc (e200 P) nn nn)) (nc (e68 P) (nc (e201 P) nn nn) nn)) (nc (e69 P) (nc (e70 P) (nc (e2 P) nn nn) (nc (e202 P) nn nn)) (nc (e71 P) (nc (e4 P) nn nn) nn))) (nc (e72 P) (nc (e73 P) (nc (e2 P) (nc (e203 P) nn nn) (nc (e2 P) nn nn)) (nc (e74 P) (nc (e204 P) nn nn) nn)) (nc (e75 P) (nc (e2 P) (nc (e205 P) nn nn) (nc (e267 P) nn nn)) (nc (e76 P) (nc (e2 P) nn nn) nn))))))) (nc (eb2 P) (nc (eb4 P) (nc (eb8 P) (nc (e39 P) (nc (e4 P) (nc (e77 P) (nc (e78 P) (nc (e79 P) nn nn) (nc (e206 P) nn nn)) (nc (e2 P) (nc (e207 P) nn nn) nn)) (nc (e80 P) (nc (e81 P) (nc (e4 P) nn nn) (nc (e2 P) nn nn)) (nc (e2 P) (nc (e208 P) nn nn) nn))) (nc (e82 P) (nc (e2 P) (nc (e83 P) (nc (e209 P) nn nn) (nc (e4 P) nn nn)) (nc (e84 P) (nc (e2 P) nn nn) nn)) (nc (e2 P) (nc (e39 P) (nc (e2 P) nn nn) (nc (e210 P) nn nn)) (nc (e85 P) (nc (e211 P) nn nn) nn)))) (nc (e86 P) (nc (e77 P) (nc (e87 P) (nc (e2 P) (nc (e212 P) nn nn) (nc (e2 P) nn nn)) (nc (e88 P) (nc (e213 P) nn nn) nn)) (nc (e89 P) (nc (e2 P) (nc (e214 P) nn nn) (nc (e215 P) nn nn)) (nc (e4 P) (nc (e2 P) nn nn) nn))) (nc (e4 P) (nc (e90 P) (nc (e91 P) (nc (e2 P) nn nn) (nc (e216 P) nn nn)) (nc (e92 P) (nc (e217 P) nn nn) nn)) (nc (e4 P) (nc (e93 P) (nc (e218 P) nn nn) (nc (e264 P) nn nn)) (nc (e2 P) (nc (e219 P) nn nn) nn))))) (nc (e260 P) (nc (e95 P) (nc (e96 P) (nc (e4 P) (nc (e97 P) (nc (e39 P) nn nn) (nc (e2 P) nn nn)) (nc (e2 P) (nc (e221 P) nn nn) nn)) (nc (e98 P) (nc (e2 P) (nc (e222 P) nn nn) (nc (e2 P) nn nn)) (nc (e99 P) (nc (e223 P) nn nn) nn))) (nc (e77 P) (nc (e2 P) (nc (e4 P) (nc (e2 P) nn nn) (nc (e224 P) nn nn)) (nc (e100 P) (nc (e225 P) nn nn) nn)) (nc (e101 P) (nc (e102 P) (nc (e2 P) nn nn) (nc (e261 P) nn nn)) (nc (e103 P) (nc (e4 P) nn nn) nn)))) (nc (e77 P) (nc (e4 P) (nc (e104 P) (nc (e2 P) (nc (e226 P) nn nn) (nc (e227 P) nn nn)) (nc (e4 P) (nc (e2 P) nn nn) nn)) (nc (e2 P) (nc (e105 P) (nc (e228 P) nn nn) (nc (e4 P) nn nn)) (nc (e106 P) (nc (e2 P) nn nn) nn))) (nc (e107 P) (nc (e4 P) (nc (e108 P) (nc (e229 P) nn nn) (nc (e230 P) nn nn)) (nc (e2 P) (nc (e231 P) nn nn) nn)) (nc (e109 P) (nc (e110 P) (nc (e4 P) nn nn) (nc (e266 P) nn nn)) (nc (e111 P) (nc (e232 P) nn nn) nn)))))) (nc (eb6 P) (nc (eb10 P) (nc (e2 P) (nc (e112 P) (nc (e113 P) (nc (e114 P) (nc (e115 P) nn nn) (nc (e4 P) nn nn)) (nc (e116 P) (nc (e2 P) nn nn) nn)) (nc (e2 P) (nc (e4 P) (nc (e2 P) nn nn) (nc (e233 P) nn nn)) (nc (e117 P) (nc (e234 P) nn nn) nn))) (nc (e118 P) (nc (e119 P) (nc (e120 P) (nc (e4 P) nn nn) (nc (e2 P) nn nn)) (nc (e2 P) (nc (e235 P) nn nn) nn)) (nc (e121 P) (nc (e2 P) (nc (e236 P) nn nn) (nc (e2 P) nn nn)) (nc (e122 P) (nc (e237 P) nn nn) nn)))) (nc (e123 P) (nc (e124 P) (nc (e125 P) (nc (e126 P) (nc (e2 P) nn nn) (nc (e238 P) nn nn)) (nc (e127 P) (nc (e4 P) nn nn) nn)) (nc (e4 P) (nc (e128 P) (nc (e239 P) nn nn) (nc (e240 P) nn nn)) (nc (e2 P) (nc (e241 P) nn nn) nn))) (nc (e129 P) (nc (e130 P) (nc (e2 P) (nc (e242 P) nn nn) (nc (e243 P) nn nn)) (nc (e4 P) (nc (e244 P) nn nn) nn)) (nc (e2 P) (nc (e131 P) (nc (e245 P) nn nn) (nc (e4 P) nn nn)) (nc (e132 P) (nc (e2 P) nn nn) nn))))) (nc (e133 P) (nc (e2 P) (nc (e134 P) (nc (e135 P) (nc (e4 P) (nc (e2 P) nn nn) (nc (e246 P) nn nn)) (nc (e136 P) (nc (e247 P) nn nn) nn)) (nc (e137 P) (nc (e138 P) (nc (e2 P) nn nn) (nc (e248 P) nn nn)) (nc (e139 P) (nc (e4 P) nn nn) nn))) (nc (e140 P) (nc (e141 P) (nc (e2 P) (nc (e249 P) nn nn) (nc (e2 P) nn nn)) (nc (e142 P) (nc (e250 P) nn nn) nn)) (nc (e143 P) (nc (e2 P) (nc (e251 P) nn nn) (nc (e262 P) nn nn)) (nc (e4 P) (nc (e2 P) nn nn) nn)))) (nc (e144 P) (nc (e145 P) (nc (e4 P) (nc (e146 P) (nc (e252 P) nn nn) (nc (e253 P) nn nn)) (nc (e2 P) (nc (e254 P) nn nn) nn)) (nc (e147 P) (nc (e148 P) (nc (e4 P) nn nn) (nc (e2 P) nn nn)) (nc (e2 P) (nc (e255 P) nn nn) nn))) (nc (e149 P) (nc (e2 P) (nc (e150 P) (nc (e256 P) nn nn) (nc (e4 P) nn nn)) (nc (e151 P) (nc (e2 P) nn nn) nn)) (nc (e2 P) (nc (e4 P) (nc (e2 P) nn nn) nn) (nc (e152 P) (nc (e257 P) nn nn) nn)))))))
end
end My
open PySem PySem.W PySem.W.X PyProof.Rows
set_option maxRecDepth 100000 in
set_option maxHeartbeats 0 in
theorem PySem.Challenge.cw_chessclock_k10_whole_clock_holds : PySem.Challenge.rw_chessclock_k10_whole_clock.Holds := by
  w_on; o_law; z_head; (case hw => w_witness2)
  k_fill
  refine My.walkX ?KE (My.walk (l := PySem.Challenge.rw_chessclock_k10_whole_clock) rfl rfl (fun w h Y => Y) ?F)
  case KE => intro P; kernel_rfl
  case F =>
    intro w mg fa h KX G hmg
    refine' My.all_mk KX G hmg ?a0 ?l0 ?c0 ?k0 ?a4 ?l4 ?c4 ?k4 ?a8 ?l8 ?c8 ?k8 ?a12 ?l12 ?c12 ?k12 ?a16 ?l16 ?c16 ?k16 ?a20 ?l20 ?c20 ?k20 ?a24 ?l24 ?c24 ?k24 ?a28 ?l28 ?c28 ?k28 ?a32 ?l32 ?c32 ?k32 ?a36 ?l36 ?c36 ?k36 ?a40 ?l40 ?c40 ?k40 ?a44 ?l44 ?c44 ?k44 ?a48 ?l48 ?c48 ?k48 ?a52 ?l52 ?c52 ?k52 ?a56 ?l56 ?c56 ?k56 ?a60 ?l60 ?c60 ?k60 ?a64 ?l64 ?c64 ?k64 ?a68 ?l68 ?c68 ?k68 ?a72 ?l72 ?c72 ?k72 ?a76 ?l76 ?c76 ?k76 ?a80 ?l80 ?c80 ?k80 ?a84 ?l84 ?c84 ?k84 ?a88 ?l88 ?c88 ?k88 ?a92 ?l92 ?c92 ?k92 ?a96 ?l96 ?c96 ?k96 ?a100 ?l100 ?c100 ?k100 ?a104 ?l104 ?c104 ?k104 ?a108 ?l108 ?c108 ?k108 ?gcSide ?gcClock ?a114 ?i114 ?l114 ?c114 ?k114 ?a119 ?i119 ?l119 ?c119 ?k119 ?a124 ?i124 ?l124 ?c124 ?k124 ?a129 ?i129 ?l129 ?c129 ?k129 ?a134 ?i134 ?l134 ?c134 ?k134 ?a139 ?i139 ?l139 ?c139 ?k139 ?a144 ?i144 ?l144 ?c144 ?k144 ?a149 ?i149 ?l149 ?c149 ?k149 ?a154 ?i154 ?l154 ?c154 ?k154 ?a159 ?i159 ?l159 ?c159 ?k159 ?a164 ?i164 ?l164 ?c164 ?k164 ?a169 ?i169 ?l169 ?c169 ?k169 ?a174 ?i174 ?l174 ?c174 ?k174 ?a179 ?i179 ?l179 ?c179 ?k179 ?a184 ?i184 ?l184 ?c184 ?k184 ?a189 ?i189 ?l189 ?c189 ?k189 ?a194 ?i194 ?l194 ?c194 ?k194 ?a199 ?i199 ?l199 ?c199 ?k199 ?a204 ?i204 ?l204 ?c204 ?k204 ?a209 ?i209 ?l209 ?c209 ?k209 ?mk209 ?kc209 ?a216 ?i216 ?l216 ?c216 ?k216 ?mk216 ?kc216 ?pgSide ?hdSide ?poSide ?saSide ?naSidestages ?naSidenumber ?naSidemoves_in_stage ?naSideleft ?naSideperiods ?naSidemoves ?naSidepassed ?pgClock ?hdClock ?poClock ?saClock ?naClocksides ?naClockturn ?naClockrunning ?naClockfallen ?naClockpassed ?gxClockError ?exClockError ?gaClockError ?gtClockError ?glClockError ?goClockError ?gbClockError ?gxBadStages ?exBadStages ?gaBadStages ?gtBadStages ?glBadStages ?goBadStages ?gbBadStages ?gxBadTicks ?exBadTicks ?gaBadTicks ?gtBadTicks ?glBadTicks ?goBadTicks ?gbBadTicks ?gxNotNow ?exNotNow ?gaNotNow ?gtNotNow ?glNotNow ?goNotNow ?gbNotNow ?gxOver ?exOver ?gaOver ?gtOver ?glOver ?goOver ?gbOver ?ccMOST_STAGES ?ccMOST_MOVES ?ccMOST_PERIODS ?ccMOST_TICKS ?ccMOST_EXTRA ?ccLEAST_LEFT ?ccMOST_LEFT ?nnlen ?nnisinstance ?nnrange ?nnenumerate ?nntuple ?nnlist ?nnint ?nnbool ?nnValueError ?nnmax ?nnmin ?nnstr ?nnall ?gW ?lW ?kt0 ?kt1 ?kt2 ?kt3 ?kt4 ?kt5 ?kt6 ?kt7 ?kt8 ?kt9 ?kt10 ?kt11 ?kt12 ?kt13 ?kt14 ?kt15 ?kt16 ?kt17 ?kt18 ?em0 ?em1 ?em2
    (case a0 => k_is)
    (case l0 => k_is)
    (case c0 => k_is)
    (case k0 => k_is)
    (case a4 => k_is)
    (case l4 => k_is)
    (case c4 => k_is)
    (case k4 => k_is)
    (case a8 => k_is)
    (case l8 => k_is)
    (case c8 => k_is)
    (case k8 => k_is)
    (case a12 => k_is)
    (case l12 => k_is)
    (case c12 => k_is)
    (case k12 => k_is)
    (case a16 => k_is)
    (case l16 => k_is)
    (case c16 => k_is)
    (case k16 => k_is)
    (case a20 => k_is)
    (case l20 => k_is)
    (case c20 => k_is)
    (case k20 => k_is)
    (case a24 => k_is)
    (case l24 => k_is)
    (case c24 => k_is)
    (case k24 => k_is)
    (case a28 => k_is)
    (case l28 => k_is)
    (case c28 => k_is)
    (case k28 => k_is)
    (case a32 => k_is)
    (case l32 => k_is)
    (case c32 => k_is)
    (case k32 => k_is)
    (case a36 => k_is)
    (case l36 => k_is)
    (case c36 => k_is)
    (case k36 => k_is)
    (case a40 => k_is)
    (case l40 => k_is)
    (case c40 => k_is)
    (case k40 => k_is)
    (case a44 => k_is)
    (case l44 => k_is)
    (case c44 => k_is)
    (case k44 => k_is)
    (case a48 => k_is)
    (case l48 => k_is)
    (case c48 => k_is)
    (case k48 => k_is)
    (case a52 => k_is)
    (case l52 => k_is)
    (case c52 => k_is)
    (case k52 => k_is)
    (case a56 => k_is)
    (case l56 => k_is)
    (case c56 => k_is)
    (case k56 => k_is)
    (case a60 => k_is)
    (case l60 => k_is)
    (case c60 => k_is)
    (case k60 => k_is)
    (case a64 => k_is)
    (case l64 => k_is)
    (case c64 => k_is)
    (case k64 => k_is)
    (case a68 => k_is)
    (case l68 => k_is)
    (case c68 => k_is)
    (case k68 => k_is)
    (case a72 => k_is)
    (case l72 => k_is)
    (case c72 => k_is)
    (case k72 => k_is)
    (case a76 => k_is)
    (case l76 => k_is)
    (case c76 => k_is)
    (case k76 => k_is)
    (case a80 => k_is)
    (case l80 => k_is)
    (case c80 => k_is)
    (case k80 => k_is)
    (case a84 => k_is)
    (case l84 => k_is)
    (case c84 => k_is)
    (case k84 => k_is)
    (case a88 => k_is)
    (case l88 => k_is)
    (case c88 => k_is)
    (case k88 => k_is)
    (case a92 => k_is)
    (case l92 => k_is)
    (case c92 => k_is)
    (case k92 => k_is)
    (case a96 => k_is)
    (case l96 => k_is)
    (case c96 => k_is)
    (case k96 => k_is)
    (case a100 => k_is)
    (case l100 => k_is)
    (case c100 => k_is)
    (case k100 => k_is)
    (case a104 => k_is)
    (case l104 => k_is)
    (case c104 => k_is)
    (case k104 => k_is)
    (case a108 => k_is)
    (case l108 => k_is)
    (case c108 => k_is)
    (case k108 => k_is)
    (case gcSide => k_is)
    (case gcClock => k_is)
    (case a114 => k_is)
    (case i114 => k_is)
    (case l114 => k_is)
    (case c114 => k_is)
    (case k114 => k_is)
    (case a119 => k_is)
    (case i119 => k_is)
    (case l119 => k_is)
    (case c119 => k_is)
    (case k119 => k_is)
    (case a124 => k_is)
    (case i124 => k_is)
    (case l124 => k_is)
    (case c124 => k_is)
    (case k124 => k_is)
    (case a129 => k_is)
    (case i129 => k_is)
    (case l129 => k_is)
    (case c129 => k_is)
    (case k129 => k_is)
    (case a134 => k_is)
    (case i134 => k_is)
    (case l134 => k_is)
    (case c134 => k_is)
    (case k134 => k_is)
    (case a139 => k_is)
    (case i139 => k_is)
    (case l139 => k_is)
    (case c139 => k_is)
    (case k139 => k_is)
    (case a144 => k_is)
    (case i144 => k_is)
    (case l144 => k_is)
    (case c144 => k_is)
    (case k144 => k_is)
    (case a149 => k_is)
    (case i149 => k_is)
    (case l149 => k_is)
    (case c149 => k_is)
    (case k149 => k_is)
    (case a154 => k_is)
    (case i154 => k_is)
    (case l154 => k_is)
    (case c154 => k_is)
    (case k154 => k_is)
    (case a159 => k_is)
    (case i159 => k_is)
    (case l159 => k_is)
    (case c159 => k_is)
    (case k159 => k_is)
    (case a164 => k_is)
    (case i164 => k_is)
    (case l164 => k_is)
    (case c164 => k_is)
    (case k164 => k_is)
    (case a169 => k_is)
    (case i169 => k_is)
    (case l169 => k_is)
    (case c169 => k_is)
    (case k169 => k_is)
    (case a174 => k_is)
    (case i174 => k_is)
    (case l174 => k_is)
    (case c174 => k_is)
    (case k174 => k_is)
    (case a179 => k_is)
    (case i179 => k_is)
    (case l179 => k_is)
    (case c179 => k_is)
    (case k179 => k_is)
    (case a184 => k_is)
    (case i184 => k_is)
    (case l184 => k_is)
    (case c184 => k_is)
    (case k184 => k_is)
    (case a189 => k_is)
    (case i189 => k_is)
    (case l189 => k_is)
    (case c189 => k_is)
    (case k189 => k_is)
    (case a194 => k_is)
    (case i194 => k_is)
    (case l194 => k_is)
    (case c194 => k_is)
    (case k194 => k_is)
    (case a199 => k_is)
    (case i199 => k_is)
    (case l199 => k_is)
    (case c199 => k_is)
    (case k199 => k_is)
    (case a204 => k_is)
    (case i204 => k_is)
    (case l204 => k_is)
    (case c204 => k_is)
    (case k204 => k_is)
    (case a209 => k_is)
    (case i209 => k_is)
    (case l209 => k_is)
    (case c209 => k_is)
    (case k209 => k_is)
    (case mk209 => k_is)
    (case kc209 => k_is)
    (case a216 => k_is)
    (case i216 => k_is)
    (case l216 => k_is)
    (case c216 => k_is)
    (case k216 => k_is)
    (case mk216 => k_is)
    (case kc216 => k_is)
    (case pgSide => k_is)
    (case hdSide => k_is)
    (case poSide => k_is)
    (case saSide => k_is)
    (case naSidestages => k_is)
    (case naSidenumber => k_is)
    (case naSidemoves_in_stage => k_is)
    (case naSideleft => k_is)
    (case naSideperiods => k_is)
    (case naSidemoves => k_is)
    (case naSidepassed => k_is)
    (case pgClock => k_is)
    (case hdClock => k_is)
    (case poClock => k_is)
    (case saClock => k_is)
    (case naClocksides => k_is)
    (case naClockturn => k_is)
    (case naClockrunning => k_is)
    (case naClockfallen => k_is)
    (case naClockpassed => k_is)
    (case gxClockError => k_is)
    (case exClockError => k_exc)
    (case gaClockError => k_is)
    (case gtClockError => k_is)
    (case glClockError => k_is)
    (case goClockError => k_is)
    (case gbClockError => k_is)
    (case gxBadStages => k_is)
    (case exBadStages => k_exc)
    (case gaBadStages => k_is)
    (case gtBadStages => k_is)
    (case glBadStages => k_is)
    (case goBadStages => k_is)
    (case gbBadStages => k_is)
    (case gxBadTicks => k_is)
    (case exBadTicks => k_exc)
    (case gaBadTicks => k_is)
    (case gtBadTicks => k_is)
    (case glBadTicks => k_is)
    (case goBadTicks => k_is)
    (case gbBadTicks => k_is)
    (case gxNotNow => k_is)
    (case exNotNow => k_exc)
    (case gaNotNow => k_is)
    (case gtNotNow => k_is)
    (case glNotNow => k_is)
    (case goNotNow => k_is)
    (case gbNotNow => k_is)
    (case gxOver => k_is)
    (case exOver => k_exc)
    (case gaOver => k_is)
    (case gtOver => k_is)
    (case glOver => k_is)
    (case goOver => k_is)
    (case gbOver => k_is)
    (case ccMOST_STAGES => k_is)
    (case ccMOST_MOVES => k_is)
    (case ccMOST_PERIODS => k_is)
    (case ccMOST_TICKS => k_is)
    (case ccMOST_EXTRA => k_is)
    (case ccLEAST_LEFT => k_is)
    (case ccMOST_LEFT => k_is)
    (case nnlen => k_is)
    (case nnisinstance => k_is)
    (case nnrange => k_is)
    (case nnenumerate => k_is)
    (case nntuple => k_is)
    (case nnlist => k_is)
    (case nnint => k_is)
    (case nnbool => k_is)
    (case nnValueError => k_is)
    (case nnmax => k_is)
    (case nnmin => k_is)
    (case nnstr => k_is)
    (case nnall => k_is)
    (case gW => k_is)
    (case lW => k_is)
    (case kt0 => kit_is)
    (case kt1 => kit_is)
    (case kt2 => kit_is)
    (case kt3 => kit_is)
    (case kt4 => kit_is)
    (case kt5 => kit_is)
    (case kt6 => kit_is)
    (case kt7 => kit_is)
    (case kt8 => kit_is)
    (case kt9 => kit_is)
    (case kt10 => kit_is)
    (case kt11 => kit_is)
    (case kt12 => kit_is)
    (case kt13 => kit_is)
    (case kt14 => kit_is)
    (case kt15 => kit_is)
    (case kt16 => kit_is)
    (case kt17 => kit_is)
    (case kt18 => kit_is)
    (case em0 => kts_exm)
    (case em1 => kts_exm)
    (case em2 => kts_exm)
