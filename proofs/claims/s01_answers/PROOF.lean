import PyProof.Rows.All
import Wide.All
import OpenK.AllK
import Wide.FinOn
import PyProof.EqAt
import PyProof.EqKinds
import PyProof.TupleCall
import KE.BitLaws
import Open.SpecLaws
import KE.OsHead
import KE.OsGo
import KE.KRevSl
import PySem.Challenge.RW_pavedloads_s01_answers
set_option Elab.async false
set_option linter.all false
set_option maxRecDepth 100000
namespace L2
open PySem PySem.Spec PyProof.Rows
/-- a key: an int or a str -/
abbrev Key := Sum Int Str
def keyIs : Key → Value → Bool
  | .inl k, v => Value.isInt k v
  | .inr x, v => Value.isStrOf x v
def keyH (w : World) : Key → Int
  | .inl k => hashInt k
  | .inr x => hashStr w x
theorem keyIs_shape : ∀ {k : Key} {v : Value}, keyIs k v = true → (∃ i t, k = Sum.inl i ∧ v = Value.int i t) ∨ (∃ x t, k = Sum.inr x ∧ v = Value.str x t)
  | .inl i, v, h => by
    obtain ⟨t, e⟩ := Value.isInt_shape (k := i) (v := v) h
    exact .inl ⟨i, t, rfl, e⟩
  | .inr x, v, h => by
    obtain ⟨t, e⟩ := Value.isStrOf_shape (x := x) (v := v) h
    exact .inr ⟨x, t, rfl, e⟩
theorem key_ll (a b : Int) : decide ((Sum.inl a : Key) = Sum.inl b) = (a == b) := by
  by_cases e : a = b
  · subst e; simp
  · have h : ¬ (Sum.inl a : Key) = Sum.inl b := fun q => e (Sum.inl.inj q)
    rw [decide_eq_false h]
    exact (beq_eq_false_iff_ne.mpr e).symm
theorem key_rr (a b : Str) : decide ((Sum.inr a : Key) = Sum.inr b) = decide (a = b) := by
  by_cases e : a = b
  · subst e; simp
  · have h : ¬ (Sum.inr a : Key) = Sum.inr b := fun q => e (Sum.inr.inj q)
    rw [decide_eq_false h, decide_eq_false e]
theorem key_lr (a : Int) (b : Str) : decide ((Sum.inl a : Key) = Sum.inr b) = false := decide_eq_false (fun q => nomatch q)
theorem key_rl (a : Str) (b : Int) : decide ((Sum.inr a : Key) = Sum.inl b) = false := decide_eq_false (fun q => nomatch q)
def mixKind (prog : Program) (w : World) : PySem.KeyKind prog w Key where
  is := keyIs
  hash := keyH w
  inj := fun v a b ha hb => by
    rcases keyIs_shape ha with ⟨i, t, rfl, rfl⟩ | ⟨x, t, rfl, rfl⟩
    · rcases keyIs_shape hb with ⟨j, u, rfl, e⟩ | ⟨y, u, rfl, e⟩
      · injection e with e1 _; rw [e1]
      · exact nomatch e
    · rcases keyIs_shape hb with ⟨j, u, rfl, e⟩ | ⟨y, u, rfl, e⟩
      · exact nomatch e
      · injection e with e1 _; rw [e1]
  byValue := fun k v h => by
    rcases keyIs_shape h with ⟨i, t, rfl, rfl⟩ | ⟨x, t, rfl, rfl⟩ <;> rfl
  pyHash := fun hv h => by
    rcases keyIs_shape hv with ⟨i, t, rfl, rfl⟩ | ⟨x, t, rfl, rfl⟩
    · exact wpAny_pyHash_int h
    · exact wpAny_pyHash_str h
  eqBool := fun hu hv h => by
    rcases keyIs_shape hu with ⟨i, t, rfl, rfl⟩ | ⟨x, t, rfl, rfl⟩
    · rcases keyIs_shape hv with ⟨j, u, rfl, rfl⟩ | ⟨y, u, rfl, rfl⟩
      · rw [key_ll] at h; exact wpAny_eqBool_int h
      · rw [key_lr] at h; exact SeqAt.EqAt.int_str i t y u _ _ _ _ h
    · rcases keyIs_shape hv with ⟨j, u, rfl, rfl⟩ | ⟨y, u, rfl, rfl⟩
      · rw [key_rl] at h; exact SeqAt.EqAt.str_int x t j u _ _ _ _ h
      · rw [key_rr] at h; exact wpAny_eqBool_str h
  «strs» := fun k x t v h => by
    rcases keyIs_shape h with ⟨i, u, rfl, e⟩ | ⟨y, u, rfl, e⟩
    · exact nomatch e
    · injection e with e1 _
      subst e1
      cases v <;> rfl
end L2
namespace L2
open PySem PySem.Spec PyProof.Rows
/-- a value, without the heap -/
inductive V where
  | non | bl (b : Bool) | int (i : Int) | str (x : Str) | byt (b : Array UInt8) | flt (b : UInt64) | ref (a : Addr) | ty (n : String)
  deriving DecidableEq
def RelV : V → Value → Prop
  | .non, u => u = Value.none
  | .bl b, u => u = Value.bool b
  | .int i, u => ∃ t, u = Value.int i t
  | .str x, u => ∃ t, u = Value.str x t
  | .byt b, u => ∃ t, u = Value.bytes b t
  | .flt b, u => ∃ t, u = Value.float b t
  | .ref a, u => u = Value.ref a
  | .ty n, u => u = Value.type n
abbrev Vals : List V → List Value → Prop := Paired RelV
theorem Vals.length {xs : List V} {us : List Value} (r : Vals xs us) : xs.length = us.length := Paired.length r
theorem Vals.get : ∀ {xs : List V} {us : List Value} {i : Nat} {x : V}, Vals xs us → xs[i]? = some x → ∃ u, us[i]? = some u ∧ RelV x u
  | _, _, _, _, .nil, e => by simp at e
  | _, _, 0, _, .cons r _, e => by simp at e; subst e; exact ⟨_, rfl, r⟩
  | _, _, i + 1, x, .cons _ t, e => by
    obtain ⟨u, h1, h2⟩ := Vals.get (i := i) (x := x) t (by simpa using e)
    exact ⟨u, by simpa using h1, h2⟩
theorem Vals.set {x : V} {u : Value} (r : RelV x u) : ∀ {xs : List V} {us : List Value} (i : Nat), Vals xs us → Vals (xs.set i x) (us.set i u)
  | _, _, _, .nil => .nil
  | _, _, 0, .cons _ t => .cons r t
  | _, _, i + 1, .cons q t => .cons q (Vals.set r i t)
theorem Vals.append : ∀ {xs ys : List V} {us ws : List Value}, Vals xs us → Vals ys ws → Vals (xs ++ ys) (us ++ ws)
  | _, _, _, _, .nil, s => s
  | _, _, _, _, .cons r t, s => .cons r (Vals.append t s)
theorem Vals.take : ∀ {xs : List V} {us : List Value} (n : Nat), Vals xs us → Vals (xs.take n) (us.take n)
  | _, _, 0, _ => .nil
  | _, _, _ + 1, .nil => .nil
  | _, _, n + 1, .cons r t => .cons r (Vals.take n t)
theorem Vals.drop : ∀ {xs : List V} {us : List Value} (n : Nat), Vals xs us → Vals (xs.drop n) (us.drop n)
  | _, _, 0, r => r
  | _, _, _ + 1, .nil => .nil
  | _, _, n + 1, .cons _ t => Vals.drop n t
def RelO : Option V → Option Value → Prop
  | some v, some u => RelV v u
  | none, none => True
  | _, _ => False
def KV {κ : Type} : List (κ × V) → List (κ × Value) → Prop := Paired fun (p : κ × V) (q : κ × Value) => p.1 = q.1 ∧ RelV p.2 q.2
/-- a key of a dict (00_mix): an int or a text -/
def kV : Key → V
  | .inl i => .int i
  | .inr x => .str x
/-- what stands at a tracked address -/
inductive HO where
  /-- a list -/
  | lst (xs : List V)
  /-- a tuple (never changes) -/
  | tup (xs : List V)
  /-- a dict whose keys are ints and texts; one whose keys are tuples of ints and texts (the empty one is both) -/
  | dK (kvs : List (Key × V)) | dT (kvs : List (List Key × V))
  /-- a set of ints: its members, its size -/
  | set (S : Int → Bool) (n : Nat)
  /-- an instance of the class at C, its dict at dx, its attributes -/
  | ins (C dx : Addr) (fs : List (Str × V))
  /-- the dict of the instance at x -/
  | own (x : Addr)
  /-- the dict of an exception -/
  | xd (fs : List (Str × V))
  /-- a bound method, f of x -/
  | met (f x : Addr)
  /-- a range object lo, lo + 1, .. below hi -/
  | rng (lo hi : Int)
  /-- a thing that is known to the object (the script; a dict while a loop walks it): read, never written while it is so -/
  | frz (o : Obj) (u : HO)
  /-- a code object's table -/
  | tbl (ps : Array Value)
  /-- any other thing, by what is true of its one object (a def of one's own: SetO a S n := HO.ext fun h => ..) -/
  | ext (φ : Heap → Prop)
abbrev Hp := Addr → Option HO
def upd (H : Hp) (a : Addr) (o : HO) : Hp := fun b => if b = a then some o else H b
theorem upd_same {H : Hp} {a : Addr} {o : HO} : upd H a o a = some o := by unfold upd; rw [if_pos rfl]
theorem upd_ne {H : Hp} {a b : Addr} {o : HO} (h : b ≠ a) : upd H a o b = H b := by unfold upd; rw [if_neg h]
/-- two objects of different content stand apart -/
theorem ne_of {H : Hp} {a b : Addr} {o u : HO} (h : H a = some o) (h' : H b = some u) (d : o ≠ u) : a ≠ b := by
  intro e; subst e; rw [h] at h'; exact d (Option.some.inj h')
theorem ne_of_none {H : Hp} {a b : Addr} {o : HO} (h : H a = some o) (h' : H b = none) : a ≠ b := by
  intro e; subst e; rw [h] at h'; cases h'
section
variable (P : Program) (w : World)
def ObjOk (H : Hp) (h : Heap) (a : Addr) : HO → Prop
  | .lst xs => xs.length ≤ sizeLine ∧ ∃ (its : List Value) (n : Nat), Vals xs its ∧ h.get? a = some { cls := .type "list", data := .seq its.toArray n }
  | .tup xs => xs.length ≤ sizeLine ∧ ∃ its : List Value, Vals xs its ∧ IsTup h a its.toArray
  | .dK kvs => kvs.length ≤ sizeLine ∧ (a == sysModules) = false ∧ ∃ vs, KV kvs vs ∧ h.DictOf (mixKind P w) a vs
  | .dT kvs => kvs.length ≤ sizeLine ∧ (a == sysModules) = false ∧ ∃ xs : List (List Key × Addr × Value),
      Paired (fun (p : List Key × V) (q : List Key × Addr × Value) => p.1 = q.1 ∧ H q.2.1 = some (.tup (p.1.map kV)) ∧ RelV p.2 q.2.2) kvs xs ∧
      ∃ o es ep, h.get? a = some o ∧ o.ExactDict ∧ o.data = .dict es ep ∧ es.toList = xs.map (entryOfKey (tupleKind (mixKind P w))) ∧ (xs.map (·.1)).Nodup
  | .set S n => h.SetOf (intKind P w) a S n
  | .ins C dx fs => H dx = some (.own a) ∧ fs.length ≤ 1000 ∧ dx ≠ a ∧ h.get? a = some (PySem.W.instObj C dx) ∧
      ∃ mA, h.Ns1 dx mA ∧ (∀ f, RelO (fs.lookup f) (mA f)) ∧ PySem.Within mA (fs.map (·.1))
  | .own _ => ∃ o, h.get? a = some o
  | .xd fs => ∃ mA, h.Ns1 a mA ∧ ∀ f, RelO (fs.lookup f) (mA f)
  | .rng lo hi => ∃ t u v, h.get? a = some { cls := .type "range", data := .fields #[.int lo t, .int hi u, .int 1 v] }
  | .frz o u => h.get? a = some o ∧ ObjOk H h a u
  | .tbl ps => h.get? a = some { cls := .none, data := .fields ps }
  | .met f x => h.get? a = some (PySem.W.methodObj (.ref f) (.ref x))
  | .ext φ => φ h ∧ (∃ o, h.get? a = some o) ∧ ∀ h1 h2 : Heap, φ h1 → (∀ o, h1.get? a = some o → h2.get? a = some o) → φ h2
/-- the abstract heap is held -/
def HOk (H : Hp) (h : Heap) : Prop := ∀ a o, H a = some o → ObjOk P w H h a o
end
section
variable {P : Program} {w : World} {H H' : Hp} {h h' : Heap} {a : Addr} {o : HO}
theorem ObjOk.lt (x : ObjOk P w H h a o) : a < h.objs.size := by
  cases o with
  | lst xs => obtain ⟨_, _, _, _, e⟩ := x; exact Heap.lt_size e
  | tup xs => obtain ⟨_, _, _, p⟩ := x; exact p.lt
  | dK kvs => obtain ⟨_, _, _, _, o, _, _, e, _⟩ := x; exact Heap.lt_size e
  | dT kvs => obtain ⟨_, _, _, _, o, _, _, e, _⟩ := x; exact Heap.lt_size e
  | set S n => obtain ⟨o, _, _, _, e, _⟩ := x; exact Heap.lt_size e
  | ins C dx fs => obtain ⟨_, _, _, e, _⟩ := x; exact Heap.lt_size e
  | own y => obtain ⟨_, e⟩ := x; exact Heap.lt_size e
  | xd fs => obtain ⟨_, ⟨_, _, _, e, _⟩, _⟩ := x; exact Heap.lt_size e
  | rng lo hi => obtain ⟨_, _, _, e⟩ := x; exact Heap.lt_size e
  | frz ob u => obtain ⟨e, _⟩ := x; exact Heap.lt_size e
  | tbl ps => exact Heap.lt_size (show h.get? a = some _ from x)
  | met f y => exact Heap.lt_size (show h.get? a = some _ from x)
  | ext φ => obtain ⟨_, ⟨_, e⟩, _⟩ := x; exact Heap.lt_size e
theorem Paired.mapP {α β : Type} {F G : α → β → Prop} : ∀ {l₁ : List α} {l₂ : List β}, Paired F l₁ l₂ → (∀ a b, F a b → G a b) → Paired G l₁ l₂
  | _, _, .nil, _ => .nil
  | _, _, .cons r t, f => .cons (f _ _ r) (Paired.mapP t f)
/-- what an object's description leans on: its own object, its own dict, the tuples -/
theorem ObjOk.stay (x : ObjOk P w H h a o) (k : ∀ b u, (b = a ∨ H b = some (.own a)) → h.get? b = some u → h'.get? b = some u)
    (ho : ∀ b, H b = some (.own a) → H' b = some (.own a)) (ht : ∀ b xs, H b = some (.tup xs) → H' b = some (.tup xs)) : ObjOk P w H' h' a o := by
  induction o with
  | lst xs => obtain ⟨z, its, n, r, e⟩ := x; exact ⟨z, its, n, r, k _ _ (.inl rfl) e⟩
  | tup xs => obtain ⟨z, its, r, ob, e, c⟩ := x; exact ⟨z, its, r, ob, k _ _ (.inl rfl) e, c⟩
  | dK kvs => obtain ⟨z, y, vs, r, ob, es, ep, e, c⟩ := x; exact ⟨z, y, vs, r, ob, es, ep, k _ _ (.inl rfl) e, c⟩
  | dT kvs =>
    obtain ⟨z, y, xs, r, ob, es, ep, e, c⟩ := x
    exact ⟨z, y, xs, Paired.mapP r fun p q z => ⟨z.1, ht _ _ z.2.1, z.2.2⟩, ob, es, ep, k _ _ (.inl rfl) e, c⟩
  | set S n => obtain ⟨ob, es, ep, t, e, c⟩ := x; exact ⟨ob, es, ep, t, k _ _ (.inl rfl) e, c⟩
  | ins C dx fs =>
    obtain ⟨d, z, ne, e, mA, ⟨od, es, ep, e2, c⟩, r⟩ := x
    exact ⟨ho _ d, z, ne, k _ _ (.inl rfl) e, mA, ⟨od, es, ep, k _ _ (.inr d) e2, c⟩, r⟩
  | own y => obtain ⟨ob, e⟩ := x; exact ⟨ob, k _ _ (.inl rfl) e⟩
  | xd fs => obtain ⟨mA, ⟨od, es, ep, e, c⟩, r⟩ := x; exact ⟨mA, ⟨od, es, ep, k _ _ (.inl rfl) e, c⟩, r⟩
  | rng lo hi => obtain ⟨t, u, v, e⟩ := x; exact ⟨t, u, v, k _ _ (.inl rfl) e⟩
  | frz ob u ih => obtain ⟨e, q⟩ := x; exact ⟨k _ _ (.inl rfl) e, ih q⟩
  | tbl ps =>
    have e : h.get? a = some { cls := .none, data := .fields ps } := x
    show h'.get? a = some { cls := .none, data := .fields ps }
    exact k a _ (.inl rfl) e
  | met f y =>
    have e : h.get? a = some (PySem.W.methodObj (.ref f) (.ref y)) := x
    show h'.get? a = some (PySem.W.methodObj (.ref f) (.ref y))
    exact k a _ (.inl rfl) e
  | ext φ => obtain ⟨p, ⟨o, e⟩, st⟩ := x; exact ⟨st _ _ p fun o q => k _ _ (.inl rfl) q, ⟨o, k _ _ (.inl rfl) e⟩, st⟩
theorem HOk.lt (x : HOk P w H h) (e : H a = some o) : a < h.objs.size := (x a o e).lt
theorem HOk.fresh (x : HOk P w H h) (e : h.objs.size ≤ a) : H a = none := by
  cases q : H a with
  | none => rfl
  | some u => exact absurd (Nat.lt_of_lt_of_le (x.lt q) e) (Nat.lt_irrefl _)
/-- every object of the heap is kept -/
theorem HOk.kept (x : HOk P w H h) (k : ∀ b u, h.get? b = some u → h'.get? b = some u) : HOk P w H h' := fun a o e =>
  (x a o e).stay (fun b u _ q => k b u q) (fun _ q => q) fun _ _ q => q
/-- a new object is laid and tracked -/
theorem HOk.laid (x : HOk P w H h) (k : ∀ b u, h.get? b = some u → h'.get? b = some u) (hp : h.objs.size ≤ a) (new : ObjOk P w (upd H a o) h' a o) : HOk P w (upd H a o) h' := fun b u e => by
  have hn := x.fresh hp
  by_cases hb : b = a
  · subst hb; rw [upd_same] at e; cases e; exact new
  · rw [upd_ne hb] at e
    exact (x b u e).stay (fun c v _ q => k c v q) (fun c q => by rw [upd_ne (ne_of_none q hn)]; exact q) fun c xs q => by rw [upd_ne (ne_of_none q hn)]; exact q
end
/-- what may be read as u: it is u, or a known u -/
def Rd (H : Hp) (a : Addr) (u : HO) : Prop := H a = some u ∨ ∃ o, H a = some (.frz o u)
theorem Rd.ok {P : Program} {w : World} {H : Hp} {h : Heap} {a : Addr} {u : HO} (r : Rd H a u) (x : HOk P w H h) : ObjOk P w H h a u := by
  rcases r with r | ⟨o, r⟩
  · exact x a u r
  · obtain ⟨_, q⟩ := x a _ r
    exact q
/-- what may be written -/
def Mut : Option HO → Prop
  | some (.lst _) => True
  | some (.dK _) => True
  | some (.dT _) => True
  | some (.set _ _) => True
  | some (.ins _ _ _) => True
  | some (.ext _) => True
  | _ => False
section
variable {P : Program} {w : World} {H : Hp} {h h' : Heap} {x e : Addr} {o' : HO}
/-- the object at e is changed: x itself, or the dict of the instance x -/
theorem HOk.write (ok : HOk P w H h) (mu : Mut (H x)) (he : e = x ∨ H e = some (.own x)) (k : ∀ b u, b ≠ e → h.get? b = some u → h'.get? b = some u) (heo : ∃ u, h'.get? e = some u)
    (new : ObjOk P w (upd H x o') h' x o') : HOk P w (upd H x o') h' := fun b u q => by
  have nown : ∀ c y, H c = some (.own y) → c ≠ x := fun c y r z => by subst z; rw [r] at mu; exact mu
  have ntup : ∀ c xs, H c = some (.tup xs) → c ≠ x := fun c xs r z => by subst z; rw [r] at mu; exact mu
  by_cases hb : b = x
  · subst hb; rw [upd_same] at q; cases q; exact new
  · rw [upd_ne hb] at q
    by_cases hbe : b = e
    · have q' : H b = some (.own x) := by
        rcases he with z | z
        · exact absurd (hbe.trans z) hb
        · rw [hbe]; exact z
      rw [q] at q'; cases q'
      obtain ⟨v, hv⟩ := heo
      exact ⟨v, by rw [hbe]; exact hv⟩
    · refine (ok b u q).stay (fun c v hc r => k c v ?_ r) (fun c r => by rw [upd_ne (nown c b r)]; exact r) fun c xs r => by rw [upd_ne (ntup c xs r)]; exact r
      rcases hc with rfl | hc
      · exact hbe
      · rintro rfl
        rcases he with z | z
        · exact nown c b hc z
        · rw [hc] at z; cases z; exact hb rfl
end
structure Un (fs ex : List Addr) (H H' : Hp) (h h' : Heap) : Prop where
  keep : ∀ b o, h.get? b = some o → H b = none → b ∉ fs → b ∉ ex → h'.get? b = some o
  slot : ∀ b o, h.get? b = some o → H b = none → b ∈ fs → b ∉ ex → ∃ sl, h'.get? b = some { o with slots := sl }
  free : ∀ b o, h.get? b = some o → H b = none → b ∉ ex → H' b = none
  there : ∀ b o, h.get? b = some o → b ∉ ex → ∃ o', h'.get? b = some o'
  tups : ∀ b xs, H b = some (.tup xs) → H' b = some (.tup xs)
  frzs : ∀ b o u, H b = some (.frz o u) → H' b = some (.frz o u)
  tbls : ∀ b ps, H b = some (.tbl ps) → ∃ more, H' b = some (.tbl (ps ++ more))
section
variable {fs fs' ex ex' : List Addr} {H H1 H2 : Hp} {h h1 h2 h' : Heap} {a x e : Addr} {o : HO}
theorem Un.any (u : Un fs ex H H1 h h1) {b : Addr} {ob : Obj} (q : h.get? b = some ob) (n : H b = none) (hx : b ∉ ex) : ∃ sl, h1.get? b = some { ob with slots := sl } := by
  by_cases hb : b ∈ fs
  · exact u.slot b ob q n hb hx
  · exact ⟨ob.slots, u.keep b ob q n hb hx⟩
theorem Un.kept (k : ∀ b u, h.get? b = some u → h'.get? b = some u) : Un fs ex H H h h' :=
  ⟨fun b ob q _ _ _ => k b ob q, fun b ob q _ _ _ => ⟨ob.slots, k b ob q⟩, fun _ _ _ n _ => n, fun b ob q _ => ⟨ob, k b ob q⟩, fun _ _ q => q, fun _ _ _ q => q, fun _ ps q => ⟨#[], by rw [q]; simp⟩⟩
theorem Un.refl : Un fs ex H H h h := Un.kept fun _ _ q => q
theorem Un.laid (k : ∀ b u, h.get? b = some u → h'.get? b = some u) (hp : h.objs.size ≤ a) (hn : H a = none) : Un fs ex H (upd H a o) h h' where
  keep := fun b u q _ _ _ => k b u q
  slot := fun b u q _ _ _ => ⟨u.slots, k b u q⟩
  free := fun b u q n _ => by rw [upd_ne (Nat.ne_of_lt (Nat.lt_of_lt_of_le (Heap.lt_size q) hp))]; exact n
  there := fun b u q _ => ⟨u, k b u q⟩
  tups := fun b xs q => by rw [upd_ne (ne_of_none q hn)]; exact q
  frzs := fun b u xs q => by rw [upd_ne (ne_of_none q hn)]; exact q
  tbls := fun b ps q => ⟨#[], by rw [upd_ne (ne_of_none q hn), q]; simp⟩
theorem Un.write (mu : Mut (H x)) (he : e = x ∨ H e = some (.own x)) (k : ∀ b u, b ≠ e → h.get? b = some u → h'.get? b = some u) (heo : ∃ u, h'.get? e = some u) : Un fs ex H (upd H x o) h h' := by
  have hx : ∀ b, H b = none → b ≠ x := fun b n z => by subst z; rw [n] at mu; exact mu
  have hb : ∀ b, H b = none → b ≠ e := fun b n z => by
    subst z
    rcases he with r | r
    · exact hx b n r
    · rw [n] at r; cases r
  have hm : ∀ b u, H b = some u → ¬ Mut (some u) → b ≠ x := fun b u q nm z => by subst z; rw [q] at mu; exact nm mu
  refine ⟨fun b u q n _ _ => k b u (hb b n) q, fun b u q n _ _ => ⟨u.slots, k b u (hb b n) q⟩, fun b u q n _ => by rw [upd_ne (hx b n)]; exact n, fun b u q _ => ?_,
    fun b xs q => by rw [upd_ne (hm b _ q fun z => z)]; exact q, fun b u xs q => by rw [upd_ne (hm b _ q fun z => z)]; exact q, fun b ps q => ⟨#[], by rw [upd_ne (hm b _ q fun z => z), q]; simp⟩⟩
  by_cases hbe : b = e
  · subst hbe; exact heo
  · exact ⟨u, k b u hbe q⟩
end
def trk (h : Heap) (H : Hp) : List Addr := (List.range h.objs.size).filter fun a => (H a).isSome
def hidT (h : Heap) (H : Hp) : Heap := PySem.W.hideAll h (trk h H)
theorem hidT_size (h : Heap) (H : Hp) : (hidT h H).objs.size = h.objs.size := PySem.W.hideAll_size _ _
theorem hidT_get {h : Heap} {H : Hp} {b : Addr} {o : Obj} (e : h.get? b = some o) (n : H b = none) : (hidT h H).get? b = some o :=
  PySem.W.hideAll_get _ e fun hm => by
    have q : (H b).isSome = true := (List.mem_filter.mp hm).2
    rw [n] at q; simp at q
theorem of_hidT {h : Heap} {H : Hp} {b : Addr} {o : Obj} (e : (hidT h H).get? b = some o) : h.get? b = some o ∧ H b = none := by
  have e' : h.get? b = some o := PySem.W.of_hideAll (trk h H) e
  refine ⟨e', ?_⟩
  cases q : H b with
  | none => rfl
  | some x =>
    have hm : b ∈ trk h H := List.mem_filter.mpr ⟨List.mem_range.mpr (Heap.lt_size e'), by simp [q]⟩
    have z : (hidT h H).get? b = none := PySem.W.hideAll_none (trk h H) hm
    rw [z] at e; cases e
end L2
namespace L2
open PySem PySem.Spec PyProof.Rows
/-- the module's facts, over the base: the heap at the law's entry without what is tracked there -/
structure Mod (K : PySem.W.Frag) (mg : Str → Option Value) (base : Heap) : Prop where
  kin : K.In base
  glob : base.Ns mainGlobals mg
  blt : ∃ mb, base.Ns builtinsNs mb ∧ ∀ x : Str, x ≠ "__name__" → mb x = bootBuiltins x
  nolimit : base.NoLimit
/-- the context: a def's body (or a comprehension's block) running. base: fixed through the whole law; s₀, H₀: the entry; outer: the frames whose slots others may change (a def's callers); stack: all frames that run;
   ex: iterators that were made ahead of the entry and are walked here (a comprehension's); fn: the names whose cells were made at the entry (a def: all; a comprehension's block: its own); calm: not within an except suite; pn: pins that every state bears; xe: what is wanted of an exception that leaves the code -/
structure Cx where
  prog : Program
  w : World
  K : PySem.W.Frag
  mg : Str → Option Value
  base : Heap
  A : Around
  N : List Str
  s_0 : Shared
  H_0 : Hp
  env : Env
  outer : List Env
  stack : List Env
  ex : List Addr
  fn : Str → Bool
  calm : Bool
  pn : List (Addr × Obj)
  xe : Value → Shared → Prop
/-- the callers' frames -/
def frs (l : List Env) : List Addr := l.filterMap (·.frame)
abbrev Cx.fs (X : Cx) : List Addr := frs X.outer
def Vis (sc : Scope) (x : Str) : Prop := sc.names.lookup x = some .local ∨ sc.names.lookup x = some .cell ∨ sc.names.lookup x = some .free
def Loc (sc : Scope) (x : Str) : Prop := sc.names.lookup x = some .local ∨ sc.names.lookup x = some .cell
def Look (env : Env) (h : Heap) (m : Str → Option Value) (x : Str) (u : Value) : Prop :=
  (env.kindOf x = some .local ∧ m x = some u) ∨ ((env.kindOf x = some .cell ∨ env.kindOf x = some .free) ∧ ∃ c, env.cells.lookup x = some c ∧ h.IsCell c (some u))
structure Cx.Ok (X : Cx) : Prop where
  mod : Mod X.K X.mg X.base
  kind : X.env.scope.kind = .function
  glob : X.env.globals = mainGlobals
  blt : X.env.builtins = builtinsNs
  above : X.s_0.heap.objs.size ≤ X.env.locals
  inj : ∀ x y c, X.env.cells.lookup x = some c → X.env.cells.lookup y = some c → x = y
  has : ∀ x, (X.env.kindOf x = some .cell ∨ X.env.kindOf x = some .free) → ∃ c, X.env.cells.lookup x = some c
  cab : ∀ x c, X.fn x = true → X.env.cells.lookup x = some c → X.s_0.heap.objs.size ≤ c
  hd : X.calm = true → X.A.handled = none
  frames : X.A.frames = some X.stack
  stk : X.stack = X.outer ∨ (X.stack = X.env :: X.outer ∧ X.env.frame = some X.env.locals)
  exf : ∀ b ∈ X.ex, b ≠ X.env.locals ∧ ∀ x c, X.env.cells.lookup x = some c → c ≠ b
  bs : ∀ b o, X.base.get? b = some o → X.s_0.heap.get? b = some o ∧ X.H_0 b = none
  bsz : X.base.objs.size ≤ X.s_0.heap.objs.size
  noex : ∀ b o, X.base.get? b = some o → b ∉ X.ex
  exfs : ∀ b ∈ X.ex, b ∉ X.fs
  funs : X.s_0.heap.FunFrames X.base X.outer
  frf : ∀ b ∈ X.fs, X.H_0 b = none
structure Inv (X : Cx) (pins : List (Addr × Obj)) (σ : List (Option V)) (H : Hp) (s : Shared) : Prop where
  ok : X.Ok
  os : s.os = X.s_0.os
  bare : AllBare s.gens
  base : Un X.fs X.ex X.H_0 H X.s_0.heap s.heap
  loc : ∃ m, s.heap.Ns X.env.locals m ∧ ∀ (i : Nat) (x : Str) (v : V), X.N[i]? = some x → σ[i]? = some (some v) → Vis X.env.scope x → ∃ u, RelV v u ∧ Look X.env s.heap m x u
  cell : ∀ x c, X.env.cells.lookup x = some c → ∃ v, s.heap.IsCell c v
  free : H X.env.locals = none
  freeC : ∀ x c, X.env.cells.lookup x = some c → H c = none
  pin : ∀ p ∈ X.pn ++ pins, s.heap.get? p.1 = some p.2 ∧ H p.1 = none ∧ p.1 ≠ X.env.locals ∧ p.1 ∉ X.fs ∧ ∀ v, p.2.data ≠ .cell v
  hok : HOk X.prog X.w H s.heap
  len : σ.length = X.N.length
section
variable {X : Cx} {pins : List (Addr × Obj)} {σ : List (Option V)} {H H' : Hp} {s : Shared} {h' : Heap}
theorem Cx.Ok.nofr (ok : X.Ok) {b : Addr} {o : Obj} (e : X.base.get? b = some o) : b ∉ X.fs := fun hb => by
  have := (ok.funs.mem hb).1
  rw [e] at this; cases this
theorem Inv.bs (I : Inv X pins σ H s) : ∀ b o, X.base.get? b = some o → s.heap.get? b = some o ∧ H b = none := fun b o e =>
  ⟨I.base.keep b o (I.ok.bs b o e).1 (I.ok.bs b o e).2 (I.ok.nofr e) (I.ok.noex b o e), I.base.free b o (I.ok.bs b o e).1 (I.ok.bs b o e).2 (I.ok.noex b o e)⟩
theorem Inv.bk (I : Inv X pins σ H s) : ∀ b o, X.base.get? b = some o → s.heap.get? b = some o := fun b o e => (I.bs b o e).1
theorem Inv.mod (I : Inv X pins σ H s) : Mod X.K X.mg X.base := I.ok.mod
theorem Inv.kIn (I : Inv X pins σ H s) : X.K.In s.heap := I.ok.mod.kin.keeps I.bk
theorem Inv.lt (I : Inv X pins σ H s) : X.env.locals < s.heap.objs.size := let ⟨_, hn, _⟩ := I.loc; hn.lt
theorem Inv.sz (I : Inv X pins σ H s) : X.s_0.heap.objs.size ≤ s.heap.objs.size := Nat.le_trans I.ok.above (Nat.le_of_lt I.lt)
theorem Inv.nofs (I : Inv X pins σ H s) {a : Addr} (h : s.heap.objs.size ≤ a) : a ∉ X.fs := fun hb => by
  obtain ⟨_, o, ho, _⟩ := I.ok.funs.mem hb
  exact absurd (Nat.lt_of_lt_of_le (Heap.lt_size ho) (Nat.le_trans I.sz h)) (Nat.lt_irrefl _)
theorem Inv.cne (I : Inv X pins σ H s) : ∀ x c, X.env.cells.lookup x = some c → c ≠ X.env.locals := fun x c e z => by
  obtain ⟨v, o, ho, hd⟩ := I.cell x c e
  obtain ⟨m, ⟨o', es, ep, ho', hd', _⟩, _⟩ := I.loc
  rw [z, ho'] at ho; cases ho; rw [hd'] at hd; cases hd
theorem Inv.funs (I : Inv X pins σ H s) : s.heap.FunFrames X.base X.outer := by
  have all : ∀ (l : List Env), (∀ b ∈ frs l, b ∈ X.fs) → X.s_0.heap.FunFrames X.base l → s.heap.FunFrames X.base l := by
    intro l
    induction l with
    | nil => intro _ _; trivial
    | cons env r ih =>
      intro hs hl
      obtain ⟨hk, ⟨L, o, hf, hn, ho, hd⟩, hr⟩ := hl
      have hL : L ∈ X.fs := hs L (by unfold frs; rw [List.filterMap_cons, hf]; exact List.mem_cons_self)
      obtain ⟨sl, e⟩ := I.base.slot L o ho (I.ok.frf L hL) hL fun z => I.ok.exfs L z hL
      exact ⟨hk, ⟨L, _, hf, hn, e, hd⟩, ih (fun b hb => hs b (by unfold frs; rw [List.filterMap_cons, hf]; exact List.mem_cons_of_mem _ hb)) hr⟩
  exact all X.outer (fun _ hb => hb) I.ok.funs
/-- the frames that run, for a call -/
theorem Inv.stack (I : Inv X pins σ H s) : s.heap.FunFrames X.base X.stack := by
  rcases I.ok.stk with e | ⟨e, hf⟩
  · rw [e]; exact I.funs
  · rw [e]
    obtain ⟨m, hn, _⟩ := I.loc
    refine .cons (by rw [I.ok.kind]; decide) hf hn ?_ I.funs
    exact Heap.get?_none_of_le (Nat.le_trans I.ok.bsz I.ok.above)
theorem Inv.stkSub (I : Inv X pins σ H s) : ∀ b ∈ frs X.stack, b ∈ X.env.locals :: X.fs := fun b hb => by
  rcases I.ok.stk with e | ⟨e, hf⟩
  · rw [e] at hb; exact List.mem_cons_of_mem _ hb
  · rw [e] at hb
    unfold frs at hb
    rw [List.filterMap_cons, hf] at hb
    exact hb
theorem Inv.stkFree (I : Inv X pins σ H s) : ∀ b ∈ frs X.stack, H b = none := fun b hb => by
  rcases List.mem_cons.mp (I.stkSub b hb) with e | hb
  · rw [e]; exact I.free
  · obtain ⟨_, o, ho, _⟩ := I.ok.funs.mem hb
    exact I.base.free b o ho (I.ok.frf b hb) fun z => I.ok.exfs b z hb
/-- THE STEP: the untracked objects but the frame and the records at ch are kept (the callers' frames up to slots), the frame's map is kept, the new abstract heap is held -/
theorem Inv.step {g' : Array GenState} {t' : Nat} {d' : Drawn} {ch : List Addr} (I : Inv X pins σ H s)
    (hch : ∀ b ∈ ch, (b ∈ X.ex ∨ X.s_0.heap.objs.size ≤ b) ∧ b ≠ X.env.locals ∧ (∀ x c, X.env.cells.lookup x = some c → c ≠ b) ∧ ∀ p ∈ X.pn ++ pins, p.1 ≠ b)
    (keep : ∀ b o, b ≠ X.env.locals → b ∉ X.fs → b ∉ ch → s.heap.get? b = some o → H b = none → h'.get? b = some o)
    (slot : ∀ b o, b ≠ X.env.locals → b ∈ X.fs → b ∉ ch → s.heap.get? b = some o → H b = none → ∃ sl, h'.get? b = some { o with slots := sl }) (free : ∀ b o, b ∉ ch → s.heap.get? b = some o → H b = none → H' b = none)
    (there : ∀ b o, b ∉ ch → s.heap.get? b = some o → ∃ o', h'.get? b = some o')
    (tups : ∀ b xs, H b = some (.tup xs) → H' b = some (.tup xs)) (frzs : ∀ b o u, H b = some (.frz o u) → H' b = some (.frz o u)) (tbls : ∀ b ps, H b = some (.tbl ps) → ∃ more, H' b = some (.tbl (ps ++ more)))
    (ns : ∀ m, s.heap.Ns X.env.locals m → h'.Ns X.env.locals m) (hok : HOk X.prog X.w H' h') (hg : AllBare g') :
    Inv X pins σ H' { s with heap := h', gens := g', drawn := d', toks := t' } := by
  have neL : ∀ b o, X.s_0.heap.get? b = some o → b ≠ X.env.locals := fun b o e => Nat.ne_of_lt (Nat.lt_of_lt_of_le (Heap.lt_size e) I.ok.above)
  have neC : ∀ b o, X.s_0.heap.get? b = some o → b ∉ X.ex → b ∉ ch := fun b o e hx hb => by
    rcases (hch b hb).1 with z | z
    · exact hx z
    · exact absurd (Nat.lt_of_lt_of_le (Heap.lt_size e) z) (Nat.lt_irrefl _)
  have cellK : ∀ x c, X.env.cells.lookup x = some c → ∀ v, s.heap.IsCell c v → h'.IsCell c v := fun x c e v ⟨o, ho, hd⟩ => by
    have nch : c ∉ ch := fun z => (hch c z).2.2.1 x c e rfl
    by_cases hc : c ∈ X.fs
    · obtain ⟨sl, q⟩ := slot c o (I.cne x c e) hc nch ho (I.freeC x c e)
      exact ⟨_, q, hd⟩
    · exact ⟨o, keep c o (I.cne x c e) hc nch ho (I.freeC x c e), hd⟩
  refine ⟨I.ok, I.os, hg, ⟨fun b o e n hb hx => ?_, fun b o e n hb hx => ?_, fun b o e n hx => ?_, fun b o e hx => ?_, fun b xs e => tups b xs (I.base.tups b xs e), fun b o xs e => frzs b o xs (I.base.frzs b o xs e), fun b ps e => ?_⟩, ?_, fun x c e => ?_, ?_, fun x c e => ?_, fun p hp => ?_, hok, I.len⟩
  · exact keep b o (neL b o e) hb (neC b o e hx) (I.base.keep b o e n hb hx) (I.base.free b o e n hx)
  · obtain ⟨sl, e1⟩ := I.base.slot b o e n hb hx
    obtain ⟨sl', e2⟩ := slot b _ (neL b o e) hb (neC b o e hx) e1 (I.base.free b o e n hx)
    exact ⟨sl', e2⟩
  · obtain ⟨o', e1⟩ := I.base.there b o e hx
    exact free b o' (neC b o e hx) e1 (I.base.free b o e n hx)
  · obtain ⟨o', e1⟩ := I.base.there b o e hx
    exact there b o' (neC b o e hx) e1
  · obtain ⟨m1, e1⟩ := I.base.tbls b ps e
    obtain ⟨m2, e2⟩ := tbls b _ e1
    exact ⟨m1 ++ m2, by rw [e2, Array.append_assoc]⟩
  · obtain ⟨m, hn, hl⟩ := I.loc
    refine ⟨m, ns m hn, fun i x v e1 e2 e3 => ?_⟩
    obtain ⟨u, r, l⟩ := hl i x v e1 e2 e3
    refine ⟨u, r, ?_⟩
    rcases l with l | ⟨k, c, e, z⟩
    · exact .inl l
    · exact .inr ⟨k, c, e, cellK x c e _ z⟩
  · obtain ⟨v, z⟩ := I.cell x c e
    exact ⟨v, cellK x c e v z⟩
  · obtain ⟨m, ⟨o, _, _, ho, _⟩, _⟩ := I.loc
    exact free _ o (fun z => (hch _ z).2.1 rfl) ho I.free
  · obtain ⟨v, o, ho, hd⟩ := I.cell x c e
    exact free c o (fun z => (hch c z).2.2.1 x c e rfl) ho (I.freeC x c e)
  · obtain ⟨e, n, ne, nf, d⟩ := I.pin p hp
    have nch : p.1 ∉ ch := fun z => (hch p.1 z).2.2.2 p hp rfl
    exact ⟨keep p.1 p.2 ne nf nch e n, free p.1 p.2 nch e n, ne, nf, d⟩
/-- .. where the frame's own object is kept too -/
theorem Inv.un {t' : Nat} (I : Inv X pins σ H s) (u : Un X.fs [] H H' s.heap h') (hok : HOk X.prog X.w H' h') : Inv X pins σ H' { s with heap := h', toks := t' } := by
  obtain ⟨m, ⟨o, es, ep, ho, r⟩, _⟩ := id I.loc
  obtain ⟨sl, hL⟩ := u.any ho I.free (by simp)
  exact I.step (g' := s.gens) (d' := s.drawn) (ch := []) (fun _ z => nomatch z) (fun b o _ hb _ e n => u.keep b o e n hb (by simp)) (fun b o _ hb _ e n => u.slot b o e n hb (by simp)) (fun b o _ e n => u.free b o e n (by simp)) (fun b o _ e => u.there b o e (by simp)) u.tups u.frzs u.tbls (fun m' hm => by
    obtain ⟨o', es', ep', ho', r'⟩ := hm
    rw [ho] at ho'; cases ho'
    exact ⟨_, es', ep', hL, r'⟩) hok I.bare
/-- behind a call (or a comprehension's block): the slots of this frame may have changed too, the records at ch may have turned -/
theorem Inv.call {g' : Array GenState} {t' : Nat} {d' : Drawn} {ch : List Addr} (I : Inv X pins σ H s) (u : Un (frs X.stack) ch H H' s.heap h') (hok : HOk X.prog X.w H' h') (hg : AllBare g')
    (hch : ∀ b ∈ ch, (b ∈ X.ex ∨ X.s_0.heap.objs.size ≤ b) ∧ b ≠ X.env.locals ∧ (∀ x c, X.env.cells.lookup x = some c → c ≠ b) ∧ ∀ p ∈ X.pn ++ pins, p.1 ≠ b) :
    Inv X pins σ H' { s with heap := h', gens := g', drawn := d', toks := t' } := by
  obtain ⟨m, ⟨o, es, ep, ho, r⟩, _⟩ := id I.loc
  obtain ⟨sl, hL⟩ := u.any ho I.free fun z => (hch _ z).2.1 rfl
  exact I.step (ch := ch) hch (fun b o hL hb hc e n => u.keep b o e n (fun z => (List.mem_cons.mp (I.stkSub b z)).elim hL hb) hc) (fun b o _ _ hc e n => u.any e n hc) (fun b o hc e n => u.free b o e n hc) (fun b o hc e => u.there b o e hc) u.tups u.frzs u.tbls (fun m' hm => by
    obtain ⟨o', es', ep', ho', r'⟩ := hm
    rw [ho] at ho'; cases ho'
    exact ⟨_, es', ep', hL, r'⟩) hok hg
/-- an untracked record of ours (an iterator) has turned -/
theorem Inv.turned {t' : Nat} {it : Addr} (I : Inv X pins σ H s) (k : ∀ b o, b ≠ it → s.heap.get? b = some o → h'.get? b = some o) (hn : H it = none) (hL : it ≠ X.env.locals)
    (h1 : it ∈ X.ex ∨ X.s_0.heap.objs.size ≤ it) (h2 : ∀ x c, X.env.cells.lookup x = some c → c ≠ it) (h3 : ∀ p ∈ X.pn ++ pins, p.1 ≠ it) : Inv X pins σ H { s with heap := h', toks := t' } := by
  have nit : ∀ b u, H b = some u → b ≠ it := fun b u e z => by rw [z, hn] at e; cases e
  refine I.step (g' := s.gens) (d' := s.drawn) (ch := [it]) (fun b hb => ?_) (fun b o _ _ hc e _ => k b o (fun z => hc (by simp [z])) e) (fun b o _ _ hc e _ => ⟨o.slots, k b o (fun z => hc (by simp [z])) e⟩) (fun _ _ _ _ n => n)
    (fun b o hc e => ⟨o, k b o (fun z => hc (by simp [z])) e⟩) (fun _ _ e => e) (fun _ _ _ e => e) (fun b ps e => ⟨#[], by rw [e]; simp⟩) (fun m hm => ?_) (fun b u e => ?_) I.bare
  · have e : b = it := by simpa using hb
    subst e
    exact ⟨h1, hL, h2, h3⟩
  · obtain ⟨o, es, ep, ho, r⟩ := hm
    exact ⟨o, es, ep, k _ o (Ne.symm hL) ho, r⟩
  · refine (I.hok b u e).stay (fun c v hc q => k c v ?_ q) (fun _ q => q) fun _ _ q => q
    rcases hc with z | z
    · rw [z]; exact nit b u e
    · exact nit c _ z
theorem Inv.tok (I : Inv X pins σ H s) (t : Nat) : Inv X pins σ H { s with toks := t } := I.un (h' := s.heap) (t' := t) Un.refl I.hok
/-- all objects kept -/
theorem Inv.kept {t' : Nat} (I : Inv X pins σ H s) (k : ∀ b u, s.heap.get? b = some u → h'.get? b = some u) : Inv X pins σ H { s with heap := h', toks := t' } := I.un (Un.kept k) (I.hok.kept k)
/-- a new object laid and tracked -/
theorem Inv.laid {a : Addr} {o : HO} {t' : Nat} (I : Inv X pins σ H s) (k : ∀ b u, s.heap.get? b = some u → h'.get? b = some u) (hp : s.heap.objs.size ≤ a) (new : ObjOk X.prog X.w (upd H a o) h' a o) :
    Inv X pins σ (upd H a o) { s with heap := h', toks := t' } := I.un (Un.laid k hp (I.hok.fresh hp)) (I.hok.laid k hp new)
/-- an object written -/
theorem Inv.write {x e : Addr} {o : HO} {t' : Nat} (I : Inv X pins σ H s) (mu : Mut (H x)) (he : e = x ∨ H e = some (.own x)) (k : ∀ b u, b ≠ e → s.heap.get? b = some u → h'.get? b = some u) (heo : ∃ u, h'.get? e = some u)
    (new : ObjOk X.prog X.w (upd H x o) h' x o) : Inv X pins σ (upd H x o) { s with heap := h', toks := t' } := I.un (Un.write mu he k heo) (I.hok.write mu he k heo new)
/-- forgetting slots, pins -/
theorem Inv.weak {σ' : List (Option V)} (I : Inv X pins σ H s) (hl : σ'.length = σ.length) (w : ∀ (i : Nat) v, σ'[i]? = some (some v) → σ[i]? = some (some v)) : Inv X pins σ' H s :=
  ⟨I.ok, I.os, I.bare, I.base, let ⟨m, hn, hl'⟩ := I.loc; ⟨m, hn, fun i x v e1 e2 e3 => hl' i x v e1 (w i v e2) e3⟩, I.cell, I.free, I.freeC, I.pin, I.hok, hl.trans I.len⟩
theorem Inv.pins_of {pins' : List (Addr × Obj)} (I : Inv X pins σ H s) (h : ∀ p ∈ pins', s.heap.get? p.1 = some p.2 ∧ H p.1 = none ∧ p.1 ≠ X.env.locals ∧ p.1 ∉ X.fs ∧ ∀ v, p.2.data ≠ .cell v) : Inv X pins' σ H s :=
  ⟨I.ok, I.os, I.bare, I.base, I.loc, I.cell, I.free, I.freeC, fun p hp => (List.mem_append.mp hp).elim (fun z => I.pin p (List.mem_append_left _ z)) (h p), I.hok, I.len⟩
theorem nodup_ix {N : List Str} (hN : N.Nodup) {i j : Nat} {x : Str} (a : N[i]? = some x) (b : N[j]? = some x) : i = j := by
  obtain ⟨h1, e1⟩ := List.getElem?_eq_some_iff.mp a
  obtain ⟨h2, e2⟩ := List.getElem?_eq_some_iff.mp b
  exact (List.getElem_inj hN).mp (e1.trans e2.symm)
/-- a name is stored; what changed -/
theorem store_ok2 {M : Model} {A : Around} {E : Value → Shared → Prop} {i : Nat} {x : Str} {v : V} {u : Value} {Q : Unit → Shared → Prop} (I : Inv X pins σ H s) (hN : X.N.Nodup) (hi : X.N[i]? = some x) (hx : Loc X.env.scope x) (r : RelV v u)
    (h : ∀ s', Inv X pins (σ.set i (some v)) H s' → (∃ a, Heap.SameBut a s.heap s'.heap ∧ (a = X.env.locals ∨ X.env.cells.lookup x = some a)) → Q () s') (hf : X.fn x = true ∨ X.env.scope.names.lookup x = some .local := by first | exact .inl rfl | exact .inr rfl | assumption) : wpAny M A (storeName X.env x u) Q E s := by
  obtain ⟨m, hn, hl⟩ := id I.loc
  have hcls : (X.env.scope.kind == .class || (X.env.scope.kind == .module && X.env.locals != X.env.globals)) = false := by rw [I.ok.kind]; rfl
  have hiσ : i < σ.length := by rw [I.len]; exact (List.getElem?_eq_some_iff.mp hi).1
  have cne := I.cne
  have tracked : ∀ {a : Addr} {h' : Heap}, (∃ o, s.heap.get? a = some o ∧ H a = none) → Heap.SameBut a s.heap h' → HOk X.prog X.w H h' := fun {a h'} ha hs b ob e => by
    obtain ⟨_, _, hfree⟩ := ha
    refine (I.hok b ob e).stay (fun c w' hc q => (hs.2 c ?_).trans q) (fun _ q => q) fun _ _ q => q
    rintro rfl
    rcases hc with rfl | hc
    · rw [hfree] at e; cases e
    · rw [hfree] at hc; cases hc
  rcases hx with hk | hk
  · refine wpAny_storeName_local hk hn (fun h' hn' hs => ?_) hcls
    obtain ⟨oL, _, _, hoL, _⟩ := id hn
    refine h _ ⟨I.ok, I.os, I.bare, ⟨fun b o e n hb hx => ?_, fun b o e n hb hx => ?_, I.base.free, fun b o e hx => ?_, I.base.tups, I.base.frzs, I.base.tbls⟩, ⟨_, hn', fun j y v' e1 e2 e3 => ?_⟩, fun y c e => ?_, I.free, I.freeC, fun p hp => ?_, tracked ⟨oL, hoL, I.free⟩ hs, by simpa using I.len⟩ ⟨_, hs, .inl rfl⟩
    · exact (hs.2 b (Nat.ne_of_lt (Nat.lt_of_lt_of_le (Heap.lt_size e) I.ok.above))).trans (I.base.keep b o e n hb hx)
    · obtain ⟨sl, e1⟩ := I.base.slot b o e n hb hx
      exact ⟨sl, (hs.2 b (Nat.ne_of_lt (Nat.lt_of_lt_of_le (Heap.lt_size e) I.ok.above))).trans e1⟩
    · obtain ⟨o', e1⟩ := I.base.there b o e hx
      exact ⟨o', (hs.2 b (Nat.ne_of_lt (Nat.lt_of_lt_of_le (Heap.lt_size e) I.ok.above))).trans e1⟩
    · by_cases hj : j = i
      · subst hj
        rw [hi] at e1; cases e1
        rw [List.getElem?_set_self hiσ] at e2
        cases e2
        exact ⟨u, r, .inl ⟨hk, by simp⟩⟩
      · rw [List.getElem?_set_ne (Ne.symm hj)] at e2
        obtain ⟨u', r', q⟩ := hl j y v' e1 e2 e3
        refine ⟨u', r', ?_⟩
        rcases q with ⟨k, e⟩ | ⟨k, c, e, z⟩
        · refine .inl ⟨k, ?_⟩
          have : y ≠ x := fun e => hj (nodup_ix hN e1 (e ▸ hi))
          simp [this, e]
        · exact .inr ⟨k, c, e, z.sameBut hs (cne y c e)⟩
    · obtain ⟨w', z⟩ := I.cell y c e
      exact ⟨w', z.sameBut hs (cne y c e)⟩
    · obtain ⟨e, n, ne, nf, d⟩ := I.pin p hp
      exact ⟨(hs.2 p.1 ne).trans e, n, ne, nf, d⟩
  · have hfn : X.fn x = true := by
      rcases hf with z | z
      · exact z
      · rw [z] at hk; cases hk
    obtain ⟨c, hc⟩ := I.ok.has x (.inl hk)
    obtain ⟨w', z⟩ := I.cell x c hc
    refine wpAny_storeName_cell I.ok.kind hk hc z (fun h' hc' hs => ?_)
    obtain ⟨oc, hoc, hocd⟩ := id z
    refine h { s with heap := h' } ⟨I.ok, I.os, I.bare, ⟨fun b o e n hb hx => ?_, fun b o e n hb hx => ?_, I.base.free, fun b o e hx => ?_, I.base.tups, I.base.frzs, I.base.tbls⟩, ⟨m, hn.sameBut hs (Ne.symm (cne x c hc)), fun j y v' e1 e2 e3 => ?_⟩, fun y c' e => ?_, I.free, I.freeC, fun p hp => ?_, tracked ⟨oc, hoc, I.freeC x c hc⟩ hs, by simpa using I.len⟩ ⟨c, hs, .inr hc⟩
    · exact (hs.2 b (Nat.ne_of_lt (Nat.lt_of_lt_of_le (Heap.lt_size e) (I.ok.cab x c hfn hc)))).trans (I.base.keep b o e n hb hx)
    · obtain ⟨sl, e1⟩ := I.base.slot b o e n hb hx
      exact ⟨sl, (hs.2 b (Nat.ne_of_lt (Nat.lt_of_lt_of_le (Heap.lt_size e) (I.ok.cab x c hfn hc)))).trans e1⟩
    · obtain ⟨o', e1⟩ := I.base.there b o e hx
      exact ⟨o', (hs.2 b (Nat.ne_of_lt (Nat.lt_of_lt_of_le (Heap.lt_size e) (I.ok.cab x c hfn hc)))).trans e1⟩
    · by_cases hj : j = i
      · subst hj
        rw [hi] at e1; cases e1
        rw [List.getElem?_set_self hiσ] at e2
        cases e2
        exact ⟨u, r, .inr ⟨.inl hk, c, hc, hc'⟩⟩
      · rw [List.getElem?_set_ne (Ne.symm hj)] at e2
        obtain ⟨u', r', q⟩ := hl j y v' e1 e2 e3
        refine ⟨u', r', ?_⟩
        rcases q with q | ⟨k, c', e, z'⟩
        · exact .inl q
        · refine .inr ⟨k, c', e, z'.sameBut hs ?_⟩
          rintro rfl
          exact hj (nodup_ix hN e1 (I.ok.inj _ _ _ e hc ▸ hi))
    · by_cases hcc : c' = c
      · subst hcc; exact ⟨_, hc'⟩
      · obtain ⟨w2, z2⟩ := I.cell y c' e
        exact ⟨w2, z2.sameBut hs hcc⟩
    · obtain ⟨e, n, ne, nf, d⟩ := I.pin p hp
      refine ⟨(hs.2 p.1 ?_).trans e, n, ne, nf, d⟩
      intro q
      rw [q, hoc] at e
      have q' : oc = p.2 := Option.some.inj e
      exact d w' (by rw [← q']; exact hocd)
theorem store_ok {M : Model} {A : Around} {E : Value → Shared → Prop} {i : Nat} {x : Str} {v : V} {u : Value} {Q : Unit → Shared → Prop} (I : Inv X pins σ H s) (hN : X.N.Nodup) (hi : X.N[i]? = some x) (hx : Loc X.env.scope x) (r : RelV v u)
    (h : ∀ s', Inv X pins (σ.set i (some v)) H s' → Q () s') (hf : X.fn x = true ∨ X.env.scope.names.lookup x = some .local := by first | exact .inl rfl | exact .inr rfl | assumption) : wpAny M A (storeName X.env x u) Q E s :=
  store_ok2 I hN hi hx r (fun s' I' _ => h s' I') hf
/-- behind a call or a block, the state as it is -/
theorem Inv.call' {s' : Shared} {ch : List Addr} (I : Inv X pins σ H s) (ho : s'.os = s.os) (u : Un (frs X.stack) ch H H' s.heap s'.heap) (hok : HOk X.prog X.w H' s'.heap) (hg : AllBare s'.gens)
    (hch : ∀ b ∈ ch, (b ∈ X.ex ∨ X.s_0.heap.objs.size ≤ b) ∧ b ≠ X.env.locals ∧ (∀ x c, X.env.cells.lookup x = some c → c ≠ b) ∧ ∀ p ∈ X.pn ++ pins, p.1 ≠ b) : Inv X pins σ H' s' := by
  obtain ⟨h', g', d', t', o'⟩ := s'
  have e : o' = s.os := ho
  subst e
  exact I.call (g' := g') (t' := t') (d' := d') u hok hg hch
end
/-- an exception: its class, its own dict's address (where it has one), the abstract heap behind it -/
abbrev XK := Value → Option Addr → Hp → Prop
abbrev St := List (Option V)
abbrev VK := V → Hp → Prop
/-- an expression's reading; a test's; an argument list's -/
abbrev TE := St → Hp → VK → Prop
abbrev TT := St → Hp → (Bool → Hp → Prop) → Prop
abbrev TA := St → Hp → (List V → Hp → Prop) → Prop
/-- what is wanted behind a statement -/
structure Ends where
  nx : St → Hp → Prop
  rt : VK
  bk : St → Hp → Prop := fun _ _ => False
  ct : St → Hp → Prop := fun _ _ => False
abbrev TS := Ends → St → Hp → Prop
def EP (X : Cx) (pins : List (Addr × Obj)) (σ : St) (Q : VK) (u : Value) (s' : Shared) : Prop := ∃ v H', Inv X pins σ H' s' ∧ RelV v u ∧ Q v H'
def TP (X : Cx) (pins : List (Addr × Obj)) (σ : St) (Q : Bool → Hp → Prop) (b : Bool) (s' : Shared) : Prop := ∃ H', Inv X pins σ H' s' ∧ Q b H'
def AP (X : Cx) (pins : List (Addr × Obj)) (σ : St) (Q : List V → Hp → Prop) (us : List Value) (s' : Shared) : Prop := ∃ vs H', Inv X pins σ H' s' ∧ Vals vs us ∧ Q vs H'
def SP (X : Cx) (pins : List (Addr × Obj)) (D : Ends) (f : Flow) (s' : Shared) : Prop :=
  match f with
  | .next => ∃ σ' H', Inv X pins σ' H' s' ∧ D.nx σ' H'
  | .brk => ∃ σ' H', Inv X pins σ' H' s' ∧ D.bk σ' H'
  | .cont => ∃ σ' H', Inv X pins σ' H' s' ∧ D.ct σ' H'
  | .ret u => ∃ v σ' H', Inv X pins σ' H' s' ∧ RelV v u ∧ D.rt v H'
def PE (X : Cx) (e : Expr) (t : TE) : Prop :=
  ∀ (pins : List (Addr × Obj)) (s : Shared) (σ : St) (H : Hp) (Q : VK), Inv X pins σ H s → t σ H Q → wpAny (model X.prog X.w) X.A (eval e X.env) (EP X pins σ Q) X.xe s
def PT (X : Cx) (e : Expr) (t : TT) : Prop :=
  ∀ (pins : List (Addr × Obj)) (s : Shared) (σ : St) (H : Hp) (Q : Bool → Hp → Prop), Inv X pins σ H s → t σ H Q → wpAny (model X.prog X.w) X.A (isTrue e X.env (eval e X.env)) (TP X pins σ Q) X.xe s
/-- a test whatever its 'whole' is (and, or) -/
def PW (X : Cx) (e : Expr) (t : TT) : Prop :=
  ∀ (whole : Sem Value) (pins : List (Addr × Obj)) (s : Shared) (σ : St) (H : Hp) (Q : Bool → Hp → Prop), Inv X pins σ H s → t σ H Q → wpAny (model X.prog X.w) X.A (isTrue e X.env whole) (TP X pins σ Q) X.xe s
theorem PW.pt {X : Cx} {e : Expr} {t : TT} (h : PW X e t) : PT X e t := h _
/-- an argument list (no star), from the left -/
def PA (X : Cx) (es : List Expr) (t : TA) : Prop :=
  ∀ (pos : Pos) (pins : List (Addr × Obj)) (s : Shared) (σ : St) (H : Hp) (Q : List V → Hp → Prop), Inv X pins σ H s → t σ H Q → wpAny (model X.prog X.w) X.A (spliced (backTo pos (starEach es X.env))) (AP X pins σ Q) X.xe s
def PS (X : Cx) (st : Stmt) (t : TS) : Prop :=
  ∀ (pins : List (Addr × Obj)) (s : Shared) (σ : St) (H : Hp) (D : Ends), Inv X pins σ H s → t D σ H → wpAny (model X.prog X.w) X.A (exec st X.env) (SP X pins D) X.xe s
def PSs (X : Cx) (st : List Stmt) (t : TS) : Prop :=
  ∀ (pins : List (Addr × Obj)) (s : Shared) (σ : St) (H : Hp) (D : Ends), Inv X pins σ H s → t D σ H → wpAny (model X.prog X.w) X.A (execs st X.env) (SP X pins D) X.xe s
/-- weaken the end -/
theorem thn {α : Type} {t : Sem α} {Q Q' : α → Shared → Prop} {M : Model} {A : Around} {E : Value → Shared → Prop} {s : Shared} (h : wpAny M A t Q E s) (hQ : ∀ a s, Q a s → Q' a s) : wpAny M A t Q' E s := wpAny_mono h hQ fun _ _ x => x
end L2
namespace L2
open PySem PySem.Spec PyProof.Rows
section
variable {X : Cx}
def tVar (i : Nat) : TE := fun σ H Q => ∃ v, σ[i]? = some (some v) ∧ Q v H
def tC (v : V) : TE := fun _ H Q => Q v H
theorem pe_var {i : Nat} {x : Str} {pos : Pos} (hN : X.N[i]? = some x) (hv : Vis X.env.scope x) (hd : (x == ("__debug__" : Str)) = false := by decide) (hcd : (x == ("__classdict__" : Str)) = false := by decide) : PE X (.Name x pos) (tVar i) := by
  intro pins s σ H Q I h
  obtain ⟨v, e, h⟩ := h
  obtain ⟨m, hn, hl⟩ := I.loc
  obtain ⟨u, r, l⟩ := hl i x v hN e hv
  have fin : EP X pins σ Q u s := ⟨v, H, I, r, h⟩
  rcases l with ⟨hk, hm⟩ | ⟨hk, c, hc, hcell⟩
  · exact wpAny_Name (wpAny_loadName_local I.ok.kind hk hn hm fin) hd
  · rcases hk with hk | hk
    · exact wpAny_Name (wpAny_loadName_cell I.ok.kind hk hc hcell fin) hd
    · exact wpAny_Name (wpAny_loadName_free I.ok.kind hk hc hcell fin hcd) hd
theorem pe_int {i j pos} : PE X (.Constant (.int i) j pos) (tC (.int i)) := fun _ _ _ H _ I h => wpAny_Constant_int ⟨.int i, H, I.tok _, ⟨_, rfl⟩, h⟩
theorem pe_bl {b j pos} : PE X (.Constant (.bool b) j pos) (tC (.bl b)) := fun _ _ _ H _ I h => Constant_bool ⟨.bl b, H, I, rfl, h⟩
/-- a global name of the def -/
def Gl (X : Cx) (x : Str) : Prop := X.env.kindOf x = some .globalImplicit
theorem ld_glob {E : Value → Shared → Prop} {pins : List (Addr × Obj)} {s : Shared} {σ : St} {H : Hp} {x : Str} {u : Value} {pos : Pos} {Q : Value → Shared → Prop} (I : Inv X pins σ H s) (hg : Gl X x) (hm : X.mg x = some u) (h : Q u s)
    (hd : (x == ("__debug__" : Str)) = false := by decide) : wpAny (model X.prog X.w) X.A (eval (.Name x pos) X.env) Q E s :=
  Calls.Name_function_global I.ok.kind hg (Calls.loadGlobal_global (by rw [I.ok.glob]; exact I.mod.glob.keeps I.bk) hm h) hd
theorem ld_blt {E : Value → Shared → Prop} {pins : List (Addr × Obj)} {s : Shared} {σ : St} {H : Hp} {x : Str} {u : Value} {pos : Pos} {Q : Value → Shared → Prop} (I : Inv X pins σ H s) (hg : Gl X x) (hm : X.mg x = none) (hv : bootBuiltins x = some u) (h : Q u s)
    (hn : x ≠ "__name__" := by decide) (hd : (x == ("__debug__" : Str)) = false := by decide) : wpAny (model X.prog X.w) X.A (eval (.Name x pos) X.env) Q E s := by
  obtain ⟨mb, h1, h2⟩ := I.mod.blt
  exact Calls.Name_function_global I.ok.kind hg (Calls.loadGlobal_builtin (by rw [I.ok.glob]; exact I.mod.glob.keeps I.bk) hm (by rw [I.ok.blt]; exact h1.keeps I.bk) ((h2 x hn).trans hv) h) hd
/-- a module's constant, a class, a function, as a value -/
theorem pe_glob {x : Str} {v : V} {u : Value} {pos : Pos} (hg : Gl X x) (hm : X.mg x = some u) (r : RelV v u) (hd : (x == ("__debug__" : Str)) = false := by decide) : PE X (.Name x pos) (tC v) :=
  fun _ _ _ H _ I h => ld_glob I hg hm ⟨v, H, I, r, h⟩ hd
variable {a b : Expr} {ta tb : TE} {pos : Pos}
/-- a comparison as a value, as a test -/
def tB (t : TE) : TT := fun σ H Q => t σ H fun x H1 => ∃ c, x = .bl c ∧ Q c H1
/-- an expression whose value is a bool, as a test -/
theorem pt_val {e : Expr} {t : TE} (h : PE X e t) (he : ∀ whole, isTrue e X.env whole = (do let v ← whole; standAt e.pos; holding [v] (truthy v)) := by intro _; rfl) : PT X e (tB t) := by
  intro pins s σ H Q I hw
  refine isTrue_plain (thn (h pins s σ H _ I hw) fun v s1 ⟨x, H1, I1, r1, q1⟩ => ?_) (he _)
  obtain ⟨d, rfl, q⟩ := q1
  cases r1
  exact wpAny_truthy_bool ⟨H1, I1, q⟩
variable {tA tB' : TT} {rest : List Expr}
def tAnd (t u : TT) : TT := fun σ H Q => t σ H fun c H1 => if c = true then u σ H1 Q else Q false H1
def tOr (t u : TT) : TT := fun σ H Q => t σ H fun c H1 => if c = true then Q true H1 else u σ H1 Q
def tNot (t : TT) : TT := fun σ H Q => t σ H fun c H1 => Q (!c) H1
theorem pw_and1 (ha : PT X a tA) : PW X (.BoolOp .And [a] pos) tA := by
  intro wh pins s σ H Q I h
  refine isTrue_and (thn (ha pins s σ H Q I h) fun c s1 e => ?_)
  cases c with
  | true => exact isTrue_and_nil e
  | false => exact e
theorem pw_or1 (ha : PT X a tA) : PW X (.BoolOp .Or [a] pos) tA := by
  intro wh pins s σ H Q I h
  refine isTrue_or (thn (ha pins s σ H Q I h) fun c s1 e => ?_)
  cases c with
  | false => exact isTrue_or_nil e
  | true => exact e
theorem pw_and (ha : PT X a tA) (hb : PW X (.BoolOp .And (b :: rest) pos) tB') : PW X (.BoolOp .And (a :: b :: rest) pos) (tAnd tA tB') := by
  intro wh pins s σ H Q I h
  refine isTrue_and (thn (ha pins s σ H _ I h) fun c s1 ⟨H1, I1, q1⟩ => ?_)
  cases c with
  | true => exact hb wh pins s1 σ H1 Q I1 q1
  | false => exact ⟨H1, I1, q1⟩
theorem pw_or (ha : PT X a tA) (hb : PW X (.BoolOp .Or (b :: rest) pos) tB') : PW X (.BoolOp .Or (a :: b :: rest) pos) (tOr tA tB') := by
  intro wh pins s σ H Q I h
  refine isTrue_or (thn (ha pins s σ H _ I h) fun c s1 ⟨H1, I1, q1⟩ => ?_)
  cases c with
  | true => exact ⟨H1, I1, q1⟩
  | false => exact hb wh pins s1 σ H1 Q I1 q1
theorem pt_not (ha : PT X a tA) : PT X (.UnaryOp .Not a pos) (tNot tA) := by
  intro pins s σ H Q I h
  exact isTrue_not (ha pins s σ H (fun c H1 => Q (!c) H1) I h)
/-- .. as values (bools) -/
def tAndV (ta tb : TE) : TE := fun σ H Q => ta σ H fun x H1 => ∃ c, x = .bl c ∧ if c = true then tb σ H1 Q else Q (.bl false) H1
def tOrV (ta tb : TE) : TE := fun σ H Q => ta σ H fun x H1 => ∃ c, x = .bl c ∧ if c = true then Q (.bl true) H1 else tb σ H1 Q
def tNotV (ta : TE) : TE := fun σ H Q => ta σ H fun x H1 => ∃ c, x = .bl c ∧ Q (.bl (!c)) H1
theorem pe_one {op} {t : TE} (h : PE X a t) : PE X (.BoolOp op [a] pos) t := fun pins s σ H Q I hw => BoolOp_one (h pins s σ H Q I hw)
theorem pe_and (ha : PE X a ta) (hb : PE X (.BoolOp .And (b :: rest) pos) tb) : PE X (.BoolOp .And (a :: b :: rest) pos) (tAndV ta tb) := by
  intro pins s σ H Q I h
  refine BoolOp_and (thn (ha pins s σ H _ I h) fun v s1 ⟨x, H1, I1, r1, q1⟩ => ?_)
  obtain ⟨c, rfl, q1⟩ := q1
  cases r1
  refine wpAny_truthy_bool ?_
  cases c with
  | true => exact hb pins s1 σ H1 Q I1 q1
  | false => exact ⟨.bl false, H1, I1, rfl, q1⟩
/-- a if t else b -/
def tIf (t : TT) (ta tb : TE) : TE := fun σ H Q => t σ H fun c H1 => if c = true then ta σ H1 Q else tb σ H1 Q
theorem pe_ifExp {c : Expr} (hc : PT X c tA) (ha : PE X a ta) (hb : PE X b tb) : PE X (.IfExp c a b pos) (tIf tA ta tb) := by
  intro pins s σ H Q I h
  refine wpAny_IfExp (thn (hc pins s σ H _ I h) fun d s1 ⟨H1, I1, q1⟩ => ?_)
  cases d with
  | true => exact ha pins s1 σ H1 Q I1 q1
  | false => exact hb pins s1 σ H1 Q I1 q1
end
end L2
namespace L2
open PySem PySem.Spec PyProof.Rows
def SqL (K : PySem.W.Frag) (H : Hp) (a : Addr) (xs : List V) : Prop :=
  Rd H a (.lst xs) ∨
    ∃ (o : Obj) (its : Array Value) (n : Nat), K.lookup a = some o ∧ o.cls = .type "list" ∧ o.dict = none ∧ o.data = .seq its n ∧ its.size ≤ sizeLine ∧ Vals xs its.toList
def SqT (K : PySem.W.Frag) (H : Hp) (a : Addr) (xs : List V) : Prop :=
  Rd H a (.tup xs) ∨
    ∃ (o : Obj) (its : Array Value) (n : Nat), K.lookup a = some o ∧ o.cls = .type "tuple" ∧ o.data = .seq its n ∧ its.size ≤ sizeLine ∧ Vals xs its.toList
def absV : Value → Option V
  | .none => some .non
  | .bool b => some (.bl b)
  | .int i _ => some (.int i)
  | .str x _ => some (.str x)
  | .bytes b _ => some (.byt b)
  | .float b _ => some (.flt b)
  | .ref a => some (.ref a)
  | .type n => some (.ty n)
  | _ => none
theorem RelV.abs {x : V} {u : Value} (r : RelV x u) : absV u = some x := by
  cases x with
  | non => cases r; rfl
  | bl _ => cases r; rfl
  | int _ => obtain ⟨t, rfl⟩ := r; rfl
  | str _ => obtain ⟨t, rfl⟩ := r; rfl
  | byt _ => obtain ⟨t, rfl⟩ := r; rfl
  | flt _ => obtain ⟨t, rfl⟩ := r; rfl
  | ref _ => cases r; rfl
  | ty _ => cases r; rfl
theorem RelV.inj {x y : V} {u : Value} (r : RelV x u) (q : RelV y u) : x = y := Option.some.inj (r.abs.symm.trans q.abs)
theorem Vals.inj : ∀ {xs ys : List V} {us : List Value}, Vals xs us → Vals ys us → xs = ys
  | _, _, _, .nil, .nil => rfl
  | _, _, _, .cons r t, .cons r' t' => by rw [r.inj r', Vals.inj t t']
section
variable {X : Cx} {pins : List (Addr × Obj)} {σ : St} {H : Hp} {s : Shared} {a : Addr} {xs ys : List V}
theorem SqL.of {K : PySem.W.Frag} (h : H a = some (.lst xs)) : SqL K H a xs := .inl (.inl h)
theorem SqT.of {K : PySem.W.Frag} (h : H a = some (.tup xs)) : SqT K H a xs := .inl (.inl h)
theorem Inv.list (I : Inv X pins σ H s) (h : SqL X.K H a xs) : ∃ its : List Value, Vals xs its ∧ PlainL s.heap a its.toArray ∧ xs.length ≤ sizeLine := by
  rcases h with h | ⟨o, its, n, hk, hc, hd, hs, hz, r⟩
  · obtain ⟨z, its, n, r, e⟩ := h.ok I.hok
    exact ⟨its, r, ⟨_, n, e, rfl, rfl, rfl⟩, z⟩
  · refine ⟨its.toList, r, ⟨o, n, I.kIn a o hk, hc, hd, by simpa using hs⟩, ?_⟩
    have e := r.length
    simp only [Array.length_toList] at e
    omega
theorem Inv.tuple (I : Inv X pins σ H s) (h : SqT X.K H a xs) : ∃ its : List Value, Vals xs its ∧ IsTup s.heap a its.toArray ∧ xs.length ≤ sizeLine := by
  rcases h with h | ⟨o, its, n, hk, hc, hs, hz, r⟩
  · obtain ⟨z, its, r, p⟩ := h.ok I.hok
    exact ⟨its, r, p, z⟩
  · refine ⟨its.toList, r, ⟨o, I.kIn a o hk, hc, n, by simpa using hs⟩, ?_⟩
    have e := r.length
    simp only [Array.length_toList] at e
    omega
theorem Inv.list_inj (I : Inv X pins σ H s) (h : SqL X.K H a xs) (h' : SqL X.K H a ys) : xs = ys := by
  obtain ⟨its, r, ⟨o, n, e, _, _, d⟩, _⟩ := I.list h
  obtain ⟨its', r', ⟨o', n', e', _, _, d'⟩, _⟩ := I.list h'
  rw [e] at e'; cases e'
  rw [d] at d'
  injection d' with d1 _
  have : its = its' := by simpa using congrArg Array.toList d1
  subst this
  exact r.inj r'
end
abbrev Cx.wish (X : Cx) (E : Value → Shared → Prop) : Cx := { X with xe := E }
/-- no exception leaves -/
abbrev Cx.nox (X : Cx) : Cx := X.wish fun _ _ => False
theorem Cx.Ok.wish {X : Cx} (ok : X.Ok) (E : Value → Shared → Prop) : (X.wish E).Ok :=
  ⟨ok.mod, ok.kind, ok.glob, ok.blt, ok.above, ok.inj, ok.has, ok.cab, ok.hd, ok.frames, ok.stk, ok.exf, ok.bs, ok.bsz, ok.noex, ok.exfs, ok.funs, ok.frf⟩
theorem Cx.Ok.unwish {X : Cx} {E : Value → Shared → Prop} (ok : (X.wish E).Ok) : X.Ok :=
  ⟨ok.mod, ok.kind, ok.glob, ok.blt, ok.above, ok.inj, ok.has, ok.cab, ok.hd, ok.frames, ok.stk, ok.exf, ok.bs, ok.bsz, ok.noex, ok.exfs, ok.funs, ok.frf⟩
section
variable {X : Cx} {pins : List (Addr × Obj)} {σ : St} {H : Hp} {s : Shared} {E : Value → Shared → Prop}
theorem Inv.wish (I : Inv X pins σ H s) (E : Value → Shared → Prop) : Inv (X.wish E) pins σ H s := ⟨I.ok.wish E, I.os, I.bare, I.base, I.loc, I.cell, I.free, I.freeC, I.pin, I.hok, I.len⟩
theorem Inv.unwish (I : Inv (X.wish E) pins σ H s) : Inv X pins σ H s := ⟨I.ok.unwish, I.os, I.bare, I.base, I.loc, I.cell, I.free, I.freeC, I.pin, I.hok, I.len⟩
theorem SP.unwish {D : Ends} {f : Flow} {s' : Shared} (h : SP (X.wish E) pins D f s') : SP X pins D f s' := by
  cases f with
  | next => obtain ⟨σ', H', I, q⟩ := h; exact ⟨σ', H', I.unwish, q⟩
  | brk => obtain ⟨σ', H', I, q⟩ := h; exact ⟨σ', H', I.unwish, q⟩
  | cont => obtain ⟨σ', H', I, q⟩ := h; exact ⟨σ', H', I.unwish, q⟩
  | ret u => obtain ⟨v, σ', H', I, r, q⟩ := h; exact ⟨v, σ', H', I.unwish, r, q⟩
theorem PSs.nox {st : List Stmt} {t : TS} (h : PSs X.nox st t) : PSs X st t := fun pins s σ H D I hw =>
  wpAny_mono (h pins s σ H D (I.wish _) hw) (fun _ _ q => q.unwish) fun _ _ z => False.elim z
end
section
variable {X : Cx} {st : Stmt} {rest : List Stmt} {t u : TS} {e : Expr} {te : TE} {pos : Pos}
def tNext : TS := fun D σ H => D.nx σ H
def tSeq (t u : TS) : TS := fun D σ H => t { D with nx := u D } σ H
theorem pss_nil : PSs X [] tNext := fun _ _ σ H _ I h => wpAny_execs_nil ⟨σ, H, I, h⟩
theorem pss_cons (h1 : PS X st t) (h2 : PSs X rest u) : PSs X (st :: rest) (tSeq t u) := by
  intro pins s σ H D I h
  refine wpAny_execs_cons (thn (h1 pins s σ H { D with nx := u D } I h) fun f s1 q => ?_)
  cases f with
  | next =>
    obtain ⟨σ', H', I', q⟩ := q
    exact h2 pins s1 σ' H' D I' q
  | ret v => exact q
  | brk => exact q
  | cont => exact q
theorem pss_one (h1 : PS X st t) : PSs X [st] t := by
  intro pins s σ H D I h
  refine wpAny_execs_cons (thn (h1 pins s σ H D I h) fun f s1 q => ?_)
  cases f with
  | next => exact wpAny_execs_nil q
  | ret v => exact q
  | brk => exact q
  | cont => exact q
def tBreak : TS := fun D σ H => D.bk σ H
def tCont : TS := fun D σ H => D.ct σ H
/-- in a def's body nothing is shown -/
theorem Inv.quiet {pins : List (Addr × Obj)} {σ : St} {H : Hp} {s : Shared} (I : Inv X pins σ H s) : interactive X.env = false := by simp [interactive, I.ok.kind]
/-- an expression whose value is dropped -/
def tDrop (te : TE) : TS := fun D σ H => te σ H fun _ H1 => D.nx σ H1
theorem ps_expr (he : PE X e te) (hs : swapsWith e none pos.line X.env = pure false := by rfl) : PS X (.Expr e pos) (tDrop te) := by
  intro pins s σ H D I h
  exact wpAny_Expr_any (thn (he pins s σ H _ I h) fun v s1 ⟨x, H1, I1, r1, q1⟩ => ⟨σ, H1, I1, q1⟩) I.quiet hs
def tRet (te : TE) : TS := fun D σ H => te σ H D.rt
theorem ps_ret (he : PE X e te) : PS X (.Return (some e) pos) (tRet te) := by
  intro pins s σ H D I h
  exact wpAny_Return_some (thn (he pins s σ H _ I h) fun v s1 ⟨x, H1, I1, r1, q1⟩ => ⟨x, σ, H1, I1, r1, q1⟩)
def tIfS (c : TT) (t u : TS) : TS := fun D σ H => c σ H fun b H1 => if b = true then t D σ H1 else u D σ H1
theorem ps_if {c : Expr} {a b : List Stmt} {tc : TT} (hc : PT X c tc) (ha : PSs X a t) (hb : PSs X b u) : PS X (.If c a b pos) (tIfS tc t u) := by
  intro pins s σ H D I h
  refine wpAny_If (thn (hc pins s σ H _ I h) fun d s1 ⟨H1, I1, q1⟩ => ?_)
  cases d with
  | true => exact ha pins s1 σ H1 D I1 q1
  | false => exact hb pins s1 σ H1 D I1 q1
end
abbrev TG := V → St → Hp → (St → Hp → Prop) → Prop
abbrev TGs := List V → St → Hp → (St → Hp → Prop) → Prop
def PG (X : Cx) (target : Expr) (t : TG) : Prop :=
  ∀ (pins : List (Addr × Obj)) (s : Shared) (σ : St) (H : Hp) (v : V) (u : Value) (Q : St → Hp → Prop), Inv X pins σ H s → RelV v u → t v σ H Q →
    wpAny (model X.prog X.w) X.A (assign target X.env u) (fun _ s' => ∃ σ' H', Inv X pins σ' H' s' ∧ Q σ' H') X.xe s
/-- several targets, one after another -/
def PGs (X : Cx) (ts : List Expr) (t : TGs) : Prop :=
  ∀ (pins : List (Addr × Obj)) (s : Shared) (σ : St) (H : Hp) (vs : List V) (us : List Value) (Q : St → Hp → Prop), Inv X pins σ H s → Vals vs us → t vs σ H Q →
    wpAny (model X.prog X.w) X.A (assignInOrder ((assignEach ts X.env).map (·.2)) us) (fun _ s' => ∃ σ' H', Inv X pins σ' H' s' ∧ Q σ' H') X.xe s
/-- o[i] = v, by values -/
abbrev TSet := V → V → V → Hp → (Hp → Prop) → Prop
def PSet (X : Cx) (t : TSet) : Prop :=
  ∀ (pins : List (Addr × Obj)) (s : Shared) (σ : St) (H : Hp) (o i v : V) (ov iv u : Value) (Q : Hp → Prop), Inv X pins σ H s → RelV o ov → RelV i iv → RelV v u → t o i v H Q →
    wpAny (model X.prog X.w) X.A (setItem ov iv u) (fun _ s' => ∃ H', Inv X pins σ H' s' ∧ Q H') X.xe s
section
variable {X : Cx} {pos : Pos}
def gName (i : Nat) : TG := fun v σ H Q => Q (σ.set i (some v)) H
theorem pg_name {i : Nat} {x : Str} (hN : X.N.Nodup) (hi : X.N[i]? = some x) (hx : Loc X.env.scope x) (hf : X.fn x = true ∨ X.env.scope.names.lookup x = some .local := by first | exact .inl rfl | exact .inr rfl | assumption) : PG X (.Name x pos) (gName i) := by
  intro pins s σ H v u Q I r h
  exact wpAny_assign_Name (store_ok I hN hi hx r (fun s' I' => ⟨_, H, I', h⟩) hf)
def gNil : TGs := fun vs σ H Q => vs = [] ∧ Q σ H
def gCons (t : TG) (u : TGs) : TGs := fun vs σ H Q => ∃ v r, vs = v :: r ∧ t v σ H fun σ' H' => u r σ' H' Q
theorem pgs_nil : PGs X [] gNil := by
  intro pins s σ H vs us Q I r h
  obtain ⟨e, h⟩ := h
  subst e
  cases r
  exact assignInOrder_nil ⟨σ, H, I, h⟩
theorem pgs_cons {e : Expr} {es : List Expr} {t : TG} {u : TGs} (h1 : PG X e t) (h2 : PGs X es u)
    (hs : (assignEach (e :: es) X.env).map (·.2) = assign e X.env :: (assignEach es X.env).map (·.2) := by rfl) : PGs X (e :: es) (gCons t u) := by
  intro pins s σ H vs us Q I r h
  obtain ⟨v, vr, e1, h⟩ := h
  subst e1
  cases r with
  | cons r rr =>
    rw [hs]
    refine assignInOrder_cons (thn (h1 pins s σ H _ _ _ I r h) fun _ s1 ⟨σ1, H1, I1, q1⟩ => ?_)
    exact h2 pins s1 σ1 H1 _ _ Q I1 rr q1
/-- (a, b, ..) = a tuple of that length -/
def gTup (K : PySem.W.Frag) (n : Nat) (t : TGs) : TG := fun v σ H Q => ∃ a xs, v = .ref a ∧ SqT K H a xs ∧ xs.length = n ∧ t xs σ H Q
theorem pg_tup {es : List Expr} {k : Nat} {t : TGs} {n : Nat} (hc : X.calm = true) (h : PGs X es t)
    (hn : (assignEach es X.env).length = n := by rfl) (hst : (assignEach es X.env).findIdx? (·.1) = none := by rfl) : PG X (.Tuple es k pos) (gTup X.K n t) := by
  intro pins s σ H v u Q I r hw
  obtain ⟨a, xs, e1, hq, hl, hw⟩ := hw
  subst e1
  cases r
  obtain ⟨its, rv, ht, hz⟩ := I.tuple hq
  refine assign_Tuple_tuple (I.ok.hd hc) ht (by simp [hn, ← hl, rv.length]) hst fun h' hx => ?_
  have I1 : Inv X pins σ H { s with heap := h' } := I.kept (t' := s.toks) fun b o e => hx b o (Nat.ne_of_lt (Heap.lt_size e)) e
  exact h pins _ σ H xs _ Q I1 (by simpa using rv) hw
/-- o[i] = .. -/
def gSub (to ti : TE) (t : TSet) : TG := fun v σ H Q => to σ H fun o H1 => ti σ H1 fun i H2 => t o i v H2 fun H3 => Q σ H3
theorem pg_sub {o i : Expr} {to ti : TE} {t : TSet} (ho : PE X o to) (hi : PE X i ti) (hs : PSet X t)
    (ha : ∀ v, assign (.Subscript o i pos) X.env v = (do
      let ov ← holding [v] (eval o X.env)
      let iv ← holding [v, ov] (eval i X.env)
      standAt pos
      holding [v, ov, iv] (setItem ov iv v)
      release [v, ov, iv] []) := by intro _; rfl) : PG X (.Subscript o i pos) (gSub to ti t) := by
  intro pins s σ H v u Q I r h
  rw [ha]
  refine wpAny_bind (wpAny_holding (thn (ho pins s σ H _ I h) fun ov s1 ⟨x, H1, I1, r1, q1⟩ => ?_))
  refine wpAny_bind (wpAny_holding (thn (hi pins s1 σ H1 _ I1 q1) fun iv s2 ⟨y, H2, I2, r2, q2⟩ => ?_))
  refine wpAny_bind (wpAny_standAt (wpAny_bind (wpAny_holding (thn (hs pins s2 σ H2 x y v ov iv u _ I2 r1 r2 r q2) fun _ s3 ⟨H3, I3, q3⟩ => ?_))))
  exact wpAny_release ⟨σ, H3, I3, q3⟩
/-- target = value -/
def tAsg (te : TE) (g : TG) : TS := fun D σ H => te σ H fun x H1 => g x σ H1 D.nx
theorem ps_asg {tg e : Expr} {te : TE} {g : TG} (he : PE X e te) (hg : PG X tg g) (hs : swapsWithSole [tg] e pos.line X.env = pure false := by rfl) (hw : swappedStores [tg] e X.env = pure none := by rfl)
    (h1 : (assignEach [tg] X.env).map (·.2) = [assign tg X.env] := by rfl) : PS X (.Assign [tg] e pos) (tAsg te g) := by
  intro pins s σ H D I h
  refine wpAny_Assign_stores (thn (he pins s σ H _ I h) fun v s1 ⟨x, H1, I1, r1, q1⟩ => ?_) hs hw
  rw [h1]
  exact thn (hg pins s1 σ H1 x v _ I1 r1 q1) fun _ s2 q => q
/-- name = value -/
theorem ps_set {i : Nat} {x : Str} {e : Expr} {te : TE} {pos' : Pos} (hN : X.N.Nodup) (hi : X.N[i]? = some x) (hx : Loc X.env.scope x) (he : PE X e te) (hs : swapsWith e (some (.Name x pos')) pos.line X.env = pure false := by rfl) (hf : X.fn x = true ∨ X.env.scope.names.lookup x = some .local := by first | exact .inl rfl | exact .inr rfl | assumption) :
    PS X (.Assign [.Name x pos'] e pos) (tAsg te (gName i)) := by
  intro pins s σ H D I h
  refine wpAny_Assign_Name (thn (he pins s σ H _ I h) fun v s1 ⟨y, H1, I1, r1, q1⟩ => ?_) hs
  exact store_ok I1 hN hi hx r1 (fun s2 I2 => ⟨_, H1, I2, q1⟩) hf
end
section
variable {X : Cx} {pos : Pos}
/-- the invariant W with its measure -/
def tWhile (c : TT) (tb : TS) : TS := fun D σ H => ∃ W : Nat → St → Hp → Prop, (∃ m, W m σ H) ∧ ∀ m σ H, W m σ H →
  c σ H fun b H1 => if b = true then ∃ N : St → Hp → Prop, (∀ σ' H', N σ' H' → ∃ m', m' < m ∧ W m' σ' H') ∧ tb { D with nx := N, ct := N, bk := D.nx } σ H1 else D.nx σ H1
theorem ps_while {c : Expr} {body : List Stmt} {tc : TT} {tb : TS} (hp : PassesOwn (model X.prog X.w) X.A X.env X.xe) (hc : PT X c tc) (hb : PSs X body tb) : PS X (.While c body [] pos) (tWhile tc tb) := by
  intro pins s σ H D I h
  obtain ⟨W, ⟨m0, w0⟩, turn⟩ := h
  refine wpAny_While (codeAny_whileLoop (fun n s' => ∃ σ' H', Inv X pins σ' H' s' ∧ W n σ' H') ?_ m0 ⟨σ, H, I, w0⟩)
  rintro n s1 ⟨σ1, H1, I1, w1⟩
  refine wpAny_passesOwn hp (thn (hc pins s1 σ1 H1 _ I1 (turn n σ1 H1 w1)) fun b s2 ⟨H2, I2, q2⟩ => ?_)
  cases b with
  | true =>
    obtain ⟨N, hN, q2⟩ := q2
    rw [if_pos rfl]
    refine wpAny_passesOwn hp (thn (hb pins s2 σ1 H2 _ I2 q2) fun f s3 q3 => ?_)
    cases f with
    | next =>
      obtain ⟨σ3, H3, I3, n3⟩ := q3
      obtain ⟨m', hm, w3⟩ := hN σ3 H3 n3
      exact ⟨m', hm, σ3, H3, I3, w3⟩
    | cont =>
      obtain ⟨σ3, H3, I3, n3⟩ := q3
      obtain ⟨m', hm, w3⟩ := hN σ3 H3 n3
      exact ⟨m', hm, σ3, H3, I3, w3⟩
    | brk => exact q3
    | ret v => exact q3
  | false =>
    rw [if_neg Bool.false_ne_true]
    exact wpAny_execs_nil ⟨σ1, H2, I2, q2⟩
end
/-- at turn i: it yields x (the heap may grow), or it stops -/
structure It where
  go : Nat → Hp → Prop
  yld : Nat → Hp → V → Hp → Prop
  stop : Nat → Hp → Prop
/-- the iterator's own objects may turn: they are not the frame's, not pinned, younger than the entry (or a comprehension's own) -/
def FpOk (X : Cx) (pins : List (Addr × Obj)) (H : Hp) (b : Addr) : Prop :=
  H b = none ∧ b ≠ X.env.locals ∧ b ∉ X.fs ∧ (b ∈ X.ex ∨ X.s_0.heap.objs.size ≤ b) ∧ (∀ x c, X.env.cells.lookup x = some c → c ≠ b) ∧ ∀ p ∈ X.pn ++ pins, p.1 ≠ b
theorem Inv.fpOk {X : Cx} {pins : List (Addr × Obj)} {σ : St} {H H' : Hp} {s : Shared} {b : Addr} (I : Inv X pins σ H s) (hb : s.heap.objs.size ≤ b) (hn : H' b = none) : FpOk X pins H' b := by
  refine ⟨hn, Nat.ne_of_gt (Nat.lt_of_lt_of_le I.lt hb), I.nofs hb, .inr (Nat.le_trans I.sz hb), fun x c e z => ?_, fun p hp z => ?_⟩
  · obtain ⟨v, q⟩ := I.cell x c e
    exact absurd (Nat.lt_of_lt_of_le q.lt (by rw [z]; exact hb)) (Nat.lt_irrefl _)
  · exact absurd (Nat.lt_of_lt_of_le (Heap.lt_size (I.pin p hp).1) (by rw [z]; exact hb)) (Nat.lt_irrefl _)
structure Turn (P : Program) (w : World) (K : PySem.W.Frag) (tg : Expr) (J : It) (fp : List Addr) (it : Addr) (tn : Nat → Heap → Prop) : Prop where
  mem : it ∈ fp
  obj : ∀ i h, tn i h → ∀ b ∈ fp, ∃ o, h.get? b = some o ∧ ∀ v, o.data ≠ .cell v
  keep : ∀ i h h', tn i h → (∀ b ∈ fp, ∀ o, h.get? b = some o → h'.get? b = some o) → tn i h'
  item : ∀ (X : Cx), X.prog = P → X.w = w → X.K = K → X.calm = true → ∀ (i : Nat) (pins : List (Addr × Obj)) (s : Shared) (σ : St) (H : Hp) (E : Value → Shared → Prop), Inv X pins σ H s → (∀ b ∈ fp, FpOk X pins H b) → tn i s.heap → J.go i H →
    wpAny (model P w) X.A (pyNext (.ref it)) (fun r s1 => ∃ u, r = some u ∧
      wpAny (model P w) X.A (letOwnedTupleGo tg (.ref it) u) (fun _ s2 => ∃ x H', Inv X pins σ H' s2 ∧ RelV x u ∧ J.yld i H x H' ∧ tn (i + 1) s2.heap ∧ ∀ b ∈ fp, H' b = none) E s1) E s
  done : ∀ (X : Cx), X.prog = P → X.w = w → X.K = K → X.calm = true → ∀ (i : Nat) (pins : List (Addr × Obj)) (s : Shared) (σ : St) (H : Hp) (E : Value → Shared → Prop), Inv X pins σ H s → (∀ b ∈ fp, FpOk X pins H b) → tn i s.heap → J.stop i H →
    wpAny (model P w) X.A (pyNext (.ref it)) (fun r s1 => r = none ∧ Inv X pins σ H s1) E s
  self : ∀ (A : Around) (i : Nat) (s : Shared) (Q : Value → Shared → Prop) (E : Value → Shared → Prop), tn i s.heap → Q (.ref it) s → wpAny (model P w) A (pyIter (.ref it)) Q E s
abbrev TI := St → Hp → (It → Hp → Prop) → Prop
/-- an iterator has come -/
def PIE (X : Cx) (pins : List (Addr × Obj)) (σ : St) (tg : Expr) (R : It → Hp → Prop) (itv : Value) (s2 : Shared) : Prop :=
  ∃ (it : Addr) (fp : List Addr) (tn : Nat → Heap → Prop) (J : It) (H' : Hp), itv = .ref it ∧ Inv X pins σ H' s2 ∧ Turn X.prog X.w X.K tg J fp it tn ∧ tn 0 s2.heap ∧ (∀ b ∈ fp, FpOk X pins H' b) ∧ R J H'
def PI (X : Cx) (tg iter : Expr) (wi : TI) : Prop :=
  ∀ (pins : List (Addr × Obj)) (s : Shared) (σ : St) (H : Hp) (R : It → Hp → Prop), Inv X pins σ H s → wi σ H R →
    wpAny (model X.prog X.w) X.A (eval iter X.env) (fun v s1 => wpAny (model X.prog X.w) X.A (pyIter v) (PIE X pins σ tg R) X.xe s1) X.xe s
/-- the step ahead of the store is nothing for an iterator that keeps no tuple -/
theorem go_of {M : Model} {A : Around} {E : Value → Shared → Prop} {s : Shared} {tg : Expr} {it : Addr} {u : Value} {o : Obj} {n : String} {vs : Array Value} {Q : Unit → Shared → Prop} (ho : s.heap.get? it = some o) (hc : o.cls = .type n) (hd : o.data = .fields vs)
    (hn : ["enumerate", "zip", "dict_itemiterator", "dict_reverseitemiterator", "odict_iterator", "itertools.zip_longest", "itertools.pairwise"].contains n = false) (hQ : Q () s) : wpAny M A (letOwnedTupleGo tg (.ref it) u) Q E s := by
  unfold letOwnedTupleGo
  cases tg <;> first
    | exact wpAny_pure hQ
    | (cases u <;> first
        | exact wpAny_pure hQ
        | (refine wpAny_bind (wpAny_load ho ?_)
           rw [hc, hd]
           show wpAny M A (if (["enumerate", "zip", "dict_itemiterator", "dict_reverseitemiterator", "odict_iterator", "itertools.zip_longest", "itertools.pairwise"].contains n && vs[0]? == some (rawInt _)) = true then _ else _) Q E s
           rw [if_neg (by intro h; rw [hn, Bool.false_and] at h; cases h)]
           exact wpAny_pure hQ))
/-- the list at a, as it stands at each turn (a loop may append to it) -/
def Itl (K : PySem.W.Frag) (a : Addr) : It :=
  ⟨fun i H => ∃ xs x, SqL K H a xs ∧ xs[i]? = some x, fun i H x H' => H' = H ∧ ∀ xs, SqL K H a xs → xs[i]? = some x, fun i H => ∃ xs, SqL K H a xs ∧ xs.length ≤ i⟩
/-- lo, lo + 1, .. (n of them) -/
def Itr (lo : Int) (n : Nat) : It := ⟨fun i _ => i < n, fun i H x H' => H' = H ∧ x = .int (lo + i), fun i _ => n ≤ i⟩
theorem turn_range {P : Program} {w : World} {K : PySem.W.Frag} {tg : Expr} (it : Addr) (lo : Int) (n : Nat) : Turn P w K tg (Itr lo n) [it] it (fun i h => IsRangeIter h it (lo + (i : Nat) * 1) ((n : Int) - (i : Nat)) 1) where
  mem := by simp
  obj := fun i h st b hb => by
    have e : b = it := by simpa using hb
    subst e
    exact ⟨_, st, fun v z => by
      have z' : Data.fields _ = Data.cell v := z
      cases z'⟩
  keep := fun i h h' st k => k it (by simp) _ st
  item := by
    intro X hP hw hK hc i pins s σ H E I hf st hg
    subst hP hw hK
    obtain ⟨f0, f1, f2, f3, f4, f5⟩ := hf it (by simp)
    have W := Walks.range (prog := X.prog) (w := X.w) (I.ok.hd hc) it lo 1 n
    refine W.item i s _ _ hg st fun v h' tk hv st' kk => ?_
    obtain ⟨t, rfl⟩ := hv
    have I1 : Inv X pins σ H { s with heap := h', toks := tk } := I.turned (fun b o hb e => kk b o (by simpa using hb) e) f0 f1 f3 f4 f5
    refine ⟨_, rfl, go_of (s := { s with heap := h', toks := tk }) (n := "range_iterator") st' rfl rfl (by decide) ⟨.int (lo + i), H, I1, ⟨t, ?_⟩, ⟨rfl, rfl⟩, st', fun b hb => (hf b hb).1⟩⟩
    rw [Int.mul_one]
  done := by
    intro X hP hw hK hc i pins s σ H E I hf st hg
    subst hP hw hK
    obtain ⟨f0, f1, f2, f3, f4, f5⟩ := hf it (by simp)
    exact wpAny_pyNext_range_end (I.ok.hd hc) st (by have : n ≤ i := hg; omega) fun h' eb => ⟨rfl, I.turned (t' := s.toks) (fun b o hb e => eb b o hb e) f0 f1 f3 f4 f5⟩
  self := fun _ _ _ _ _ st h => wpAny_pyIter_rangeiter st h
end L2
namespace L2
open PySem PySem.Spec PyProof.Rows
section
variable {X : Cx} {tg : Expr}
def iList (K : PySem.W.Frag) (tl : TE) : TI := fun σ H R => tl σ H fun x H1 => ∃ a, x = .ref a ∧ (∃ xs, SqL K H1 a xs) ∧ R (Itl K a) H1
/-- a range object just made, walked -/
theorem range_it {pins : List (Addr × Obj)} {σ : St} {H : Hp} {s : Shared} {R : It → Hp → Prop} {E : Value → Shared → Prop} {lo hi : Int} {t u v : Tok} {tk : Nat} (I : Inv X pins σ H s) (h1 : -(2 ^ 62) ≤ lo) (h2 : lo < 2 ^ 62) (h3 : -(2 ^ 62) ≤ hi) (h4 : hi < 2 ^ 62)
    (q : R (Itr lo (hi - lo).toNat) H) : wpAny (model X.prog X.w) X.A (pyIter (.ref s.heap.objs.size)) (PIE X pins σ tg R) E { s with heap := s.heap.push { cls := .type "range", data := .fields #[.int lo t, .int hi u, .int 1 v] }, toks := tk } := by
  refine wpAny_pyIter_range (IsRange.new ..) (small_one h1 h2 h3 h4) ?_
  have I1 : Inv X pins σ H { s with heap := s.heap.push { cls := .type "range", data := .fields #[.int lo t, .int hi u, .int 1 v] }, toks := tk } := I.kept fun b o e => Heap.get?_push_of_some _ e
  refine ⟨(s.heap.push { cls := .type "range", data := .fields #[.int lo t, .int hi u, .int 1 v] }).objs.size, [(s.heap.push { cls := .type "range", data := .fields #[.int lo t, .int hi u, .int 1 v] }).objs.size], _, _, H, rfl,
    I1.kept (t' := tk) fun b o e => Heap.get?_push_of_some _ e, turn_range _ lo (hi - lo).toNat, ?_, fun b hb => ?_, q⟩
  · have e1 : lo + ((0 : Nat) : Int) * 1 = lo := by simp
    have e2 : (((hi - lo).toNat : Nat) : Int) - ((0 : Nat) : Int) = Builtin.Range.rangeSize lo hi 1 := by rw [rangeSize_one]; split <;> omega
    show IsRangeIter _ _ (lo + ((0 : Nat) : Int) * 1) ((((hi - lo).toNat : Nat) : Int) - ((0 : Nat) : Int)) 1
    rw [e1, e2]
    exact Heap.get?_push_size _ rfl
  · have e : b = (s.heap.push { cls := .type "range", data := .fields #[.int lo t, .int hi u, .int 1 v] }).objs.size := by simpa using hb
    subst e
    exact I1.fpOk (Nat.le_refl _) (I1.hok.fresh (Nat.le_refl _))
def iRng1 (ta : TA) : TI := fun σ H R => ta σ H fun vs H1 => ∃ j : Int, vs = [.int j] ∧ -(2 ^ 62) ≤ j ∧ j < 2 ^ 62 ∧ R (Itr 0 j.toNat) H1
def iRng2 (ta : TA) : TI := fun σ H R => ta σ H fun vs H1 => ∃ i j : Int, vs = [.int i, .int j] ∧ (-(2 ^ 62) ≤ i ∧ i < 2 ^ 62 ∧ -(2 ^ 62) ≤ j ∧ j < 2 ^ 62) ∧ R (Itr i (j - i).toNat) H1
theorem pi_range1 {a : Expr} {ta : TA} {p pos : Pos} (hg : Gl X "range") (hm : X.mg "range" = none) (ha : PA X [a] ta) (hs : starEach [a] X.env = [(false, eval a X.env)] := by rfl) : PI X tg (.Call (.Name "range" p) [a] [] pos) (iRng1 ta) := by
  intro pins s σ H R I h
  refine Call_ (ld_blt I hg hm boot_range (PyProof.Rows.callWith_type1 (thn (ha pos pins s σ H _ I h) fun us s1 ⟨vs, H1, I1, r1, q1⟩ => ?_) hs rfl))
  obtain ⟨j, e, q1, q2, q⟩ := q1
  subst e
  cases r1 with
  | cons r rr =>
    cases rr
    obtain ⟨t, rfl⟩ := r
    exact call_range_1 (range_it I1 (by omega) (by omega) q1 q2 (by simpa using q))
theorem pi_range2 {a b : Expr} {ta : TA} {p pos : Pos} (hg : Gl X "range") (hm : X.mg "range" = none) (ha : PA X [a, b] ta) (hs : starEach [a, b] X.env = [(false, eval a X.env), (false, eval b X.env)] := by rfl) (hs2 : starEach [b] X.env = [(false, eval b X.env)] := by rfl) :
    PI X tg (.Call (.Name "range" p) [a, b] [] pos) (iRng2 ta) := by
  intro pins s σ H R I h
  refine Call_ (ld_blt I hg hm boot_range (PyProof.Rows.callWith_type1 (thn (ha pos pins s σ H _ I h) fun us s1 ⟨vs, H1, I1, r1, q1⟩ => ?_) (by rw [hs, hs2]) (by rw [hs2]; rfl)))
  obtain ⟨i, j, e, ⟨q1, q2, q3, q4⟩, q⟩ := q1
  subst e
  cases r1 with
  | cons r rr =>
    cases rr with
    | cons r' rr =>
      cases rr
      obtain ⟨t, rfl⟩ := r
      obtain ⟨t', rfl⟩ := r'
      exact call_range_2 (range_it I1 q1 q2 q3 q4 q)
/-- W: the invariant by the turn and a measure; N: what the body is to reach -/
def tFor (wi : TI) (g : TG) (tb : TS) : TS := fun D σ H => wi σ H fun J H1 => ∃ W : Nat → Nat → St → Hp → Prop, (∃ m, W 0 m σ H1) ∧ ∀ i m σ H, W i m σ H →
  (J.stop i H ∧ D.nx σ H) ∨ (J.go i H ∧ ∃ N : St → Hp → Prop, (∀ σ' H', N σ' H' → ∃ m', m' < m ∧ W (i + 1) m' σ' H') ∧ ∀ x H', J.yld i H x H' → g x σ H' fun σ2 H2 => tb { D with nx := N, ct := N, bk := D.nx } σ2 H2)
/-- the records at fp as they stand -/
def pinsAt (fp : List Addr) (h : Heap) : List (Addr × Obj) := fp.filterMap fun b => (h.get? b).map fun o => (b, o)
theorem mem_pinsAt {fp : List Addr} {h : Heap} {b : Addr} {o : Obj} (hb : b ∈ fp) (e : h.get? b = some o) : (b, o) ∈ pinsAt fp h := List.mem_filterMap.mpr ⟨b, hb, by rw [e]; rfl⟩
theorem of_pinsAt {fp : List Addr} {h : Heap} {p : Addr × Obj} (hp : p ∈ pinsAt fp h) : p.1 ∈ fp ∧ h.get? p.1 = some p.2 := by
  obtain ⟨b, hb, e⟩ := List.mem_filterMap.mp hp
  cases q : h.get? b with
  | none => rw [q] at e; cases e
  | some o =>
    rw [q] at e
    have e' : (b, o) = p := Option.some.inj e
    subst e'
    exact ⟨hb, q⟩
theorem Inv.pinned {pins : List (Addr × Obj)} {σ : St} {H : Hp} {s : Shared} {fp : List Addr} (I : Inv X pins σ H s) (hf : ∀ b ∈ fp, FpOk X pins H b) (ho : ∀ b ∈ fp, ∃ o, s.heap.get? b = some o ∧ ∀ v, o.data ≠ .cell v) : Inv X (pins ++ pinsAt fp s.heap) σ H s :=
  I.pins_of fun p hp => (List.mem_append.mp hp).elim (fun z => I.pin p (List.mem_append_right _ z)) fun z => by
    obtain ⟨hb, e⟩ := of_pinsAt z
    obtain ⟨f0, f1, f2, _⟩ := hf p.1 hb
    obtain ⟨o, e', d⟩ := ho p.1 hb
    rw [e] at e'; cases e'
    exact ⟨e, f0, f1, f2, d⟩
theorem Inv.unpinned {pins pl : List (Addr × Obj)} {σ : St} {H : Hp} {s : Shared} (I : Inv X (pins ++ pl) σ H s) : Inv X pins σ H s := I.pins_of fun p hp => I.pin p (List.mem_append_right _ (List.mem_append_left _ hp))
theorem ps_for {iter : Expr} {body : List Stmt} {wi : TI} {g : TG} {tb : TS} {pos : Pos} (hp : PassesOwn (model X.prog X.w) X.A X.env X.xe) (hc : X.calm = true) (hi : PI X tg iter wi) (hg : PG X tg g) (hb : PSs X body tb)
    (hs : ∀ x, foldedSetIterable iter X.env x = pure x := by intro _; rfl) : PS X (.For tg iter body [] pos) (tFor wi g tb) := by
  intro pins s σ H D I h
  refine wpAny_For (thn (hi pins s σ H _ I h) fun v s1 h1 => thn h1 fun itv s2 h2 => ?_) hs
  obtain ⟨it, fp, tn, J, H2, e, I2, T, st2, f2, W, ⟨m0, w0⟩, turn⟩ := h2
  subst e
  -- what stays true of the iterator's objects through the loop
  have stat : ∀ {H' : Hp}, (∀ b ∈ fp, H' b = none) → ∀ b ∈ fp, FpOk X pins H' b := fun hn b hb => ⟨hn b hb, (f2 b hb).2⟩
  refine codeAny_forLoop_any (fun n s' => ∃ i σ' H', Inv X pins σ' H' s' ∧ tn i s'.heap ∧ (∀ b ∈ fp, H' b = none) ∧ W i n σ' H') ?_ m0 ⟨0, σ, H2, I2, st2, fun b hb => (f2 b hb).1, w0⟩
  rintro n s3 ⟨i, σ3, H3, I3, st3, fr3, w3⟩
  rcases turn i n σ3 H3 w3 with ⟨stop, qn⟩ | ⟨go, N, hN, step⟩
  · refine wpAny_passesOwn hp (thn (T.done X rfl rfl rfl hc i pins s3 σ3 H3 X.xe I3 (stat fr3) st3 stop) fun r s4 ⟨hr, I4⟩ => ?_)
    subst hr
    exact wpAny_execs_nil ⟨σ3, H3, I4, qn⟩
  · refine wpAny_passesOwn hp (thn (T.item X rfl rfl rfl hc i pins s3 σ3 H3 X.xe I3 (stat fr3) st3 go) fun r s4 ⟨u, hr, h4⟩ => ?_)
    subst hr
    refine wpAny_passesOwn hp (thn h4 fun _ s5 ⟨x, H5, I5, r5, y5, st5, fr5⟩ => ?_)
    have I5' := I5.pinned (stat fr5) (T.obj _ _ st5)
    refine wpAny_passesOwn hp (thn (hg _ s5 σ3 H5 x u _ I5' r5 (step x H5 y5)) fun _ s6 ⟨σ6, H6, I6, q6⟩ => ?_)
    refine wpAny_passesOwn hp (thn (hb _ s6 σ6 H6 _ I6 q6) fun f s7 q7 => ?_)
    have again : ∀ {σ7 : St} {H7 : Hp}, Inv X (pins ++ pinsAt fp s5.heap) σ7 H7 s7 → N σ7 H7 → ∃ m, m < n ∧ ∃ i σ' H', Inv X pins σ' H' s7 ∧ tn i s7.heap ∧ (∀ b ∈ fp, H' b = none) ∧ W i m σ' H' := fun {σ7 H7} I7 n7 => by
      obtain ⟨m', hm, w7⟩ := hN σ7 H7 n7
      refine ⟨m', hm, i + 1, σ7, H7, I7.unpinned, T.keep _ _ _ st5 fun b hb o e => (I7.pin (b, o) (List.mem_append_right _ (List.mem_append_right _ (mem_pinsAt hb e)))).1, fun b hb => ?_, w7⟩
      obtain ⟨o, e, d⟩ := T.obj _ _ st5 b hb
      exact (I7.pin (b, o) (List.mem_append_right _ (List.mem_append_right _ (mem_pinsAt hb e)))).2.1
    cases f with
    | next => obtain ⟨σ7, H7, I7, n7⟩ := q7; exact again I7 n7
    | cont => obtain ⟨σ7, H7, I7, n7⟩ := q7; exact again I7 n7
    | brk => obtain ⟨σ7, H7, I7, q7⟩ := q7; exact ⟨σ7, H7, I7.unpinned, q7⟩
    | ret v => obtain ⟨x7, σ7, H7, I7, r7, q7⟩ := q7; exact ⟨x7, σ7, H7, I7.unpinned, r7, q7⟩
end
/-- over a list that the body leaves as it is -/
theorem for_list {K : PySem.W.Frag} {a : Addr} {xs : List V} {g : TG} {tb : TS} {D : Ends} {σ : St} {H : Hp} (Pv : Nat → St → Hp → Prop) (h0 : Pv 0 σ H) (hl : ∀ i σ H, i ≤ xs.length → Pv i σ H → SqL K H a xs)
    (hs : ∀ i x σ H, xs[i]? = some x → Pv i σ H → g x σ H fun σ2 H2 => tb { D with nx := Pv (i + 1), ct := Pv (i + 1), bk := D.nx } σ2 H2) (hd : ∀ σ H, Pv xs.length σ H → D.nx σ H) :
    ∃ W : Nat → Nat → St → Hp → Prop, (∃ m, W 0 m σ H) ∧ ∀ i m σ H, W i m σ H →
      ((Itl K a).stop i H ∧ D.nx σ H) ∨ ((Itl K a).go i H ∧ ∃ N : St → Hp → Prop, (∀ σ' H', N σ' H' → ∃ m', m' < m ∧ W (i + 1) m' σ' H') ∧ ∀ x H', (Itl K a).yld i H x H' → g x σ H' fun σ2 H2 => tb { D with nx := N, ct := N, bk := D.nx } σ2 H2) := by
  refine ⟨fun i m σ H => m = xs.length - i ∧ i ≤ xs.length ∧ Pv i σ H, ⟨xs.length, by simp, Nat.zero_le _, h0⟩, ?_⟩
  rintro i m σ H ⟨rfl, hi, p⟩
  have q := hl i σ H hi p
  by_cases hlt : i < xs.length
  · refine .inr ⟨⟨xs, xs[i], q, by simp [hlt]⟩, Pv (i + 1), fun σ' H' p' => ⟨xs.length - (i + 1), by omega, rfl, hlt, p'⟩, fun x H' y => ?_⟩
    obtain ⟨e, y⟩ := y
    subst e
    exact hs i x σ _ (y xs q) p
  · have e : i = xs.length := by omega
    subst e
    exact .inl ⟨⟨xs, q, Nat.le_refl _⟩, hd σ H p⟩
theorem for_range {lo : Int} {n : Nat} {g : TG} {tb : TS} {D : Ends} {σ : St} {H : Hp} (Pv : Nat → St → Hp → Prop) (h0 : Pv 0 σ H)
    (hs : ∀ i σ H, i < n → Pv i σ H → g (.int (lo + i)) σ H fun σ2 H2 => tb { D with nx := Pv (i + 1), ct := Pv (i + 1), bk := D.nx } σ2 H2) (hd : ∀ σ H, Pv n σ H → D.nx σ H) :
    ∃ W : Nat → Nat → St → Hp → Prop, (∃ m, W 0 m σ H) ∧ ∀ i m σ H, W i m σ H →
      ((Itr lo n).stop i H ∧ D.nx σ H) ∨ ((Itr lo n).go i H ∧ ∃ N : St → Hp → Prop, (∀ σ' H', N σ' H' → ∃ m', m' < m ∧ W (i + 1) m' σ' H') ∧ ∀ x H', (Itr lo n).yld i H x H' → g x σ H' fun σ2 H2 => tb { D with nx := N, ct := N, bk := D.nx } σ2 H2) := by
  refine ⟨fun i m σ H => m = n - i ∧ i ≤ n ∧ Pv i σ H, ⟨n, by simp, Nat.zero_le _, h0⟩, ?_⟩
  rintro i m σ H ⟨rfl, hi, p⟩
  by_cases hlt : i < n
  · refine .inr ⟨hlt, Pv (i + 1), fun σ' H' p' => ⟨n - (i + 1), by omega, rfl, hlt, p'⟩, fun x H' y => ?_⟩
    obtain ⟨e, y⟩ := y
    subst e y
    exact hs i σ _ hlt p
  · have e : i = n := by omega
    subst e
    exact .inl ⟨Nat.le_refl _, hd σ H p⟩
end L2
namespace L2
open PySem PySem.Spec PyProof.Rows
abbrev R2 := V → V → Hp → VK → Prop
/-- a two-place operation on values: f is binaryOp op, inplaceOp op or compareOp op -/
def OpR (X : Cx) (f : Value → Value → Sem Value) (r : R2) : Prop :=
  ∀ (pins : List (Addr × Obj)) (s : Shared) (σ : St) (H : Hp) (x y : V) (v u : Value) (Q : VK), Inv X pins σ H s → RelV x v → RelV y u → r x y H Q →
    wpAny (model X.prog X.w) X.A (f v u) (EP X pins σ Q) X.xe s
/-- a one-place operation -/
def UnR (X : Cx) (f : Value → Sem Value) (r : V → Hp → VK → Prop) : Prop :=
  ∀ (pins : List (Addr × Obj)) (s : Shared) (σ : St) (H : Hp) (x : V) (v : Value) (Q : VK), Inv X pins σ H s → RelV x v → r x H Q →
    wpAny (model X.prog X.w) X.A (f v) (EP X pins σ Q) X.xe s
/-- a call of a value that is known (a builtin, a type) with values -/
def CallR (X : Cx) (f : Value) (r : List V → Hp → VK → Prop) : Prop :=
  ∀ (pins : List (Addr × Obj)) (s : Shared) (σ : St) (H : Hp) (xs : List V) (us : List Value) (Q : VK), Inv X pins σ H s → Vals xs us → r xs H Q →
    wpAny (model X.prog X.w) X.A (call f us) (EP X pins σ Q) X.xe s
def tOp (r : R2) (ta tb : TE) : TE := fun σ H Q => ta σ H fun x H1 => tb σ H1 fun y H2 => r x y H2 Q
def tUn (r : V → Hp → VK → Prop) (ta : TE) : TE := fun σ H Q => ta σ H fun x H1 => r x H1 Q
/-- ints in, under C, and a value out -/
def rI (C : Int → Int → Prop) (g : Int → Int → V) : R2 := fun x y H Q => ∃ i j, x = .int i ∧ y = .int j ∧ C i j ∧ Q (g i j) H
def rI0 (g : Int → Int → V) : R2 := fun x y H Q => ∃ i j, x = .int i ∧ y = .int j ∧ Q (g i j) H
def rU (g : Int → V) : V → Hp → VK → Prop := fun x H Q => ∃ i, x = .int i ∧ Q (g i) H
section
variable {X : Cx} {a b c : Expr} {ta tb tc : TE} {pos : Pos}
theorem binT (ha : PE X a ta) (hb : PE X b tb) {pins : List (Addr × Obj)} {s : Shared} {σ : St} {H : Hp} {R : V → V → Hp → Prop} (I : Inv X pins σ H s)
    (h : ta σ H fun x H1 => tb σ H1 fun y H2 => R x y H2) {Q : Value → Shared → Prop} {f : Value → Value → Sem Value}
    (hf : ∀ v u s2 x y H2, Inv X pins σ H2 s2 → RelV x v → RelV y u → R x y H2 → wpAny (model X.prog X.w) X.A (f v u) Q X.xe s2) :
    wpAny (model X.prog X.w) X.A (eval a X.env) (fun v s₁ => wpAny (model X.prog X.w) X.A (eval b X.env) (fun u s₂ => wpAny (model X.prog X.w) X.A (f v u) Q X.xe s₂) X.xe s₁) X.xe s := by
  refine thn (ha pins s σ H _ I h) fun v s1 ⟨x, H1, I1, r1, q1⟩ => ?_
  refine thn (hb pins s1 σ H1 _ I1 q1) fun u s2 ⟨y, H2, I2, r2, q2⟩ => ?_
  exact hf v u s2 x y H2 I2 r1 r2 q2
theorem pe_op {op : Operator} {r : R2} (ho : OpR X (binaryOp op) r) (ha : PE X a ta) (hb : PE X b tb) : PE X (.BinOp a op b pos) (tOp r ta tb) := by
  intro pins s σ H Q I h
  exact wpAny_BinOp (binT ha hb I h fun v u s2 x y H2 I2 rx ry q => ho pins s2 σ H2 x y v u Q I2 rx ry q)
theorem pe_un {op : UnaryOp} {r : V → Hp → VK → Prop} (ho : UnR X (unaryOp op) r) (ha : PE X a ta) : PE X (.UnaryOp op a pos) (tUn r ta) := by
  intro pins s σ H Q I h
  exact UnaryOp_ (thn (ha pins s σ H _ I h) fun v s1 ⟨x, H1, I1, r1, q1⟩ => ho pins s1 σ H1 x v Q I1 r1 q1)
theorem opI {f : Value → Value → Sem Value} {C : Int → Int → Prop} {g : Int → Int → Int}
    (rule : ∀ (i j : Int) (t u : Tok) (s : Shared) (Q : Value → Shared → Prop) (E : Value → Shared → Prop), C i j → Q (.int (g i j) s.toks) { s with toks := s.toks + 1 } → wpAny (model X.prog X.w) X.A (f (.int i t) (.int j u)) Q E s) :
    OpR X f (rI C fun i j => .int (g i j)) := by
  intro pins s σ H x y v u Q I rx ry h
  obtain ⟨i, j, rfl, rfl, hc, q⟩ := h
  obtain ⟨t, rfl⟩ := rx
  obtain ⟨t', rfl⟩ := ry
  exact rule i j t t' s _ _ hc ⟨.int (g i j), H, I.tok _, ⟨_, rfl⟩, q⟩
theorem opI0 {f : Value → Value → Sem Value} {g : Int → Int → Int}
    (rule : ∀ (i j : Int) (t u : Tok) (s : Shared) (Q : Value → Shared → Prop) (E : Value → Shared → Prop), Q (.int (g i j) s.toks) { s with toks := s.toks + 1 } → wpAny (model X.prog X.w) X.A (f (.int i t) (.int j u)) Q E s) :
    OpR X f (rI0 fun i j => .int (g i j)) := by
  intro pins s σ H x y v u Q I rx ry h
  obtain ⟨i, j, rfl, rfl, q⟩ := h
  obtain ⟨t, rfl⟩ := rx
  obtain ⟨t', rfl⟩ := ry
  exact rule i j t t' s _ _ ⟨.int (g i j), H, I.tok _, ⟨_, rfl⟩, q⟩
theorem opB0 {f : Value → Value → Sem Value} {g : Int → Int → Bool}
    (rule : ∀ (i j : Int) (t u : Tok) (s : Shared) (Q : Value → Shared → Prop) (E : Value → Shared → Prop), Q (.bool (g i j)) s → wpAny (model X.prog X.w) X.A (f (.int i t) (.int j u)) Q E s) :
    OpR X f (rI0 fun i j => .bl (g i j)) := by
  intro pins s σ H x y v u Q I rx ry h
  obtain ⟨i, j, rfl, rfl, q⟩ := h
  obtain ⟨t, rfl⟩ := rx
  obtain ⟨t', rfl⟩ := ry
  exact rule i j t t' s _ _ ⟨.bl (g i j), H, I, rfl, q⟩
def CMul (i j : Int) : Prop := (-(2 ^ 64) < i ∧ i < 2 ^ 64) ∨ (-(2 ^ 64) < j ∧ j < 2 ^ 64)
theorem CMul.ok {i j : Int} (h : CMul i j) : IntMulOk i j := by
  rcases h with ⟨h1, h2⟩ | ⟨h1, h2⟩
  · exact .of_left (intBits_le_64 h1 h2)
  · exact .of_right (intBits_le_64 h1 h2)
theorem op_add : OpR X (binaryOp .Add) (rI0 fun i j => .int (i + j)) := opI0 fun _ _ _ _ _ _ _ q => add_int q
theorem op_sub : OpR X (binaryOp .Sub) (rI0 fun i j => .int (i - j)) := opI0 fun _ _ _ _ _ _ _ q => sub_int q
theorem op_mul : OpR X (binaryOp .Mult) (rI CMul fun i j => .int (i * j)) := opI fun _ _ _ _ _ _ _ hc q => mul_int q hc.ok
/-- % by a positive divisor of any size -/
theorem op_mod : OpR X (binaryOp .Mod) (rI (fun _ j => 0 < j) fun i j => .int (i % j)) := opI fun i j _ _ _ _ _ hc q => by
  have h1 : (0 : Int) < j := hc
  exact mod_int' (by omega) (by rw [Int.fmod_eq_emod_of_nonneg i (by omega)]; exact q)
theorem unI {f : Value → Sem Value} {g : Int → Int}
    (rule : ∀ (i : Int) (t : Tok) (s : Shared) (Q : Value → Shared → Prop) (E : Value → Shared → Prop), Q (.int (g i) s.toks) { s with toks := s.toks + 1 } → wpAny (model X.prog X.w) X.A (f (.int i t)) Q E s) :
    UnR X f (rU fun i => .int (g i)) := by
  intro pins s σ H x v Q I rx h
  obtain ⟨i, rfl, q⟩ := h
  obtain ⟨t, rfl⟩ := rx
  exact rule i t s _ _ ⟨.int (g i), H, I.tok _, ⟨_, rfl⟩, q⟩
theorem un_neg : UnR X (unaryOp .USub) (rU fun i => .int (-i)) := unI fun _ _ _ _ _ q => neg_int q
end
/-- the scalars that == tells apart as data does -/
def scal : V → V → Bool
  | .non, .non => true | .non, .int _ => true | .int _, .non => true | .non, .bl _ => true | .bl _, .non => true | .non, .str _ => true | .str _, .non => true
  | .int _, .int _ => true | .bl _, .bl _ => true | .str _, .str _ => true | .byt _, .byt _ => true
  | .int _, .str _ => true | .str _, .int _ => true | .bl _, .str _ => true | .str _, .bl _ => true
  | _, _ => false
def rEq : R2 := fun x y H Q => scal x y = true ∧ Q (.bl (decide (x = y))) H
def rNe : R2 := fun x y H Q => scal x y = true ∧ Q (.bl (!decide (x = y))) H
theorem dec_int {i j : Int} : decide (V.int i = V.int j) = (i == j) := by
  rw [Bool.eq_iff_iff]
  simp
theorem dec_bl {i j : Bool} : decide (V.bl i = V.bl j) = (i == j) := by
  rw [Bool.eq_iff_iff]
  simp
theorem dec_str {i j : Str} : decide (V.str i = V.str j) = (i == j) := by
  rw [Bool.eq_iff_iff]
  simp
theorem dec_byt {i j : Array UInt8} : decide (V.byt i = V.byt j) = (i.toList == j.toList) := by
  rw [Bool.eq_iff_iff]
  cases i
  cases j
  simp
section
variable {X : Cx} {a b c : Expr} {ta tb tc : TE} {pos : Pos}
theorem fin_bl {pins : List (Addr × Obj)} {σ : St} {H : Hp} {s : Shared} {Q : VK} {k k' : Bool} (I : Inv X pins σ H s) (q : Q (.bl k) H) (e : k = k') : EP X pins σ Q (.bool k') s := by
  subst e
  exact ⟨.bl k, H, I, rfl, q⟩
theorem op_eq : OpR X (compareOp .Eq) rEq := by
  intro pins s σ H x y v u Q I rx ry h
  obtain ⟨hs, q⟩ := h
  cases x with
  | non =>
    cases rx
    cases y with
    | non => cases ry; exact PySem.EqNone.eq_none_none (fin_bl I q (by simp))
    | bl j => cases ry; exact PySem.EqNone.eq_none_bool (fin_bl I q (by simp))
    | int j => obtain ⟨t', rfl⟩ := ry; exact PySem.EqNone.eq_none_int (fin_bl I q (by simp))
    | str j => obtain ⟨t', rfl⟩ := ry; exact PySem.EqNone.eq_none_str (fin_bl I q (by simp))
    | _ => exact absurd (show false = true from hs) Bool.false_ne_true
  | bl i =>
    cases rx
    cases y with
    | non => cases ry; exact PySem.EqNone.eq_bool_none (fin_bl I q (by simp))
    | bl j => cases ry; exact eq_bool (fin_bl I q dec_bl)
    | str j => obtain ⟨t', rfl⟩ := ry; exact PySem.EqMixed.eq_bool_str (fin_bl I q (by simp))
    | _ => exact absurd (show false = true from hs) Bool.false_ne_true
  | int i =>
    obtain ⟨t, rfl⟩ := rx
    cases y with
    | non => cases ry; exact PySem.EqNone.eq_int_none (fin_bl I q (by simp))
    | int j => obtain ⟨t', rfl⟩ := ry; exact eq_int (fin_bl I q dec_int)
    | str j => obtain ⟨t', rfl⟩ := ry; exact PySem.EqMixed.eq_int_str (fin_bl I q (by simp))
    | _ => exact absurd (show false = true from hs) Bool.false_ne_true
  | str i =>
    obtain ⟨t, rfl⟩ := rx
    cases y with
    | non => cases ry; exact PySem.EqNone.eq_str_none (fin_bl I q (by simp))
    | bl j => cases ry; exact PySem.EqMixed.eq_str_bool (fin_bl I q (by simp))
    | int j => obtain ⟨t', rfl⟩ := ry; exact PySem.EqMixed.eq_str_int (fin_bl I q (by simp))
    | str j => obtain ⟨t', rfl⟩ := ry; exact eq_str (fin_bl I q dec_str)
    | _ => exact absurd (show false = true from hs) Bool.false_ne_true
  | byt i =>
    obtain ⟨t, rfl⟩ := rx
    cases y with
    | byt j => obtain ⟨t', rfl⟩ := ry; exact PySem.W.eq_bytes (fin_bl I q dec_byt)
    | _ => exact absurd (show false = true from hs) Bool.false_ne_true
  | _ => cases y <;> exact absurd (show false = true from hs) Bool.false_ne_true
theorem op_ne : OpR X (compareOp .NotEq) rNe := by
  intro pins s σ H x y v u Q I rx ry h
  obtain ⟨hs, q⟩ := h
  cases x with
  | non =>
    cases rx
    cases y with
    | non => cases ry; exact PySem.EqNone.ne_none_none (fin_bl I q (by simp))
    | bl j => cases ry; exact PySem.EqNone.ne_none_bool (fin_bl I q (by simp))
    | int j => obtain ⟨t', rfl⟩ := ry; exact PySem.EqNone.ne_none_int (fin_bl I q (by simp))
    | str j => obtain ⟨t', rfl⟩ := ry; exact PySem.EqNone.ne_none_str (fin_bl I q (by simp))
    | _ => exact absurd (show false = true from hs) Bool.false_ne_true
  | bl i =>
    cases rx
    cases y with
    | non => cases ry; exact PySem.EqNone.ne_bool_none (fin_bl I q (by simp))
    | bl j => cases ry; exact ne_bool (fin_bl I q (congrArg not dec_bl))
    | str j => obtain ⟨t', rfl⟩ := ry; exact PySem.EqMixed.ne_bool_str (fin_bl I q (by simp))
    | _ => exact absurd (show false = true from hs) Bool.false_ne_true
  | int i =>
    obtain ⟨t, rfl⟩ := rx
    cases y with
    | non => cases ry; exact PySem.EqNone.ne_int_none (fin_bl I q (by simp))
    | int j => obtain ⟨t', rfl⟩ := ry; exact ne_int (fin_bl I q (congrArg not dec_int))
    | str j => obtain ⟨t', rfl⟩ := ry; exact PySem.EqMixed.ne_int_str (fin_bl I q (by simp))
    | _ => exact absurd (show false = true from hs) Bool.false_ne_true
  | str i =>
    obtain ⟨t, rfl⟩ := rx
    cases y with
    | non => cases ry; exact PySem.EqNone.ne_str_none (fin_bl I q (by simp))
    | bl j => cases ry; exact PySem.EqMixed.ne_str_bool (fin_bl I q (by simp))
    | int j => obtain ⟨t', rfl⟩ := ry; exact PySem.EqMixed.ne_str_int (fin_bl I q (by simp))
    | str j => obtain ⟨t', rfl⟩ := ry; exact ne_str (fin_bl I q (congrArg not dec_str))
    | _ => exact absurd (show false = true from hs) Bool.false_ne_true
  | byt i =>
    obtain ⟨t, rfl⟩ := rx
    cases y with
    | byt j => obtain ⟨t', rfl⟩ := ry; exact PySem.W.ne_bytes (fin_bl I q (congrArg not dec_byt))
    | _ => exact absurd (show false = true from hs) Bool.false_ne_true
  | _ => cases y <;> exact absurd (show false = true from hs) Bool.false_ne_true
theorem op_lt : OpR X (compareOp .Lt) (rI0 fun i j => .bl (decide (i < j))) := opB0 fun _ _ _ _ _ _ _ q => lt_int q
theorem op_le : OpR X (compareOp .LtE) (rI0 fun i j => .bl (decide (i ≤ j))) := opB0 fun _ _ _ _ _ _ _ q => le_int q
theorem op_gt : OpR X (compareOp .Gt) (rI0 fun i j => .bl (decide (j < i))) := opB0 fun _ _ _ _ _ _ _ q => gt_int q
theorem op_ge : OpR X (compareOp .GtE) (rI0 fun i j => .bl (decide (j ≤ i))) := opB0 fun _ _ _ _ _ _ _ q => ge_int q
theorem nomark (b : Expr) {op : CmpOp} (h : op ≠ .In := by decide) (h2 : op ≠ .NotIn := by decide) : behindInMarks op b = false := by
  have e1 : (op == CmpOp.In) = false := by cases op <;> first | rfl | exact absurd rfl h
  have e2 : (op == CmpOp.NotIn) = false := by cases op <;> first | rfl | exact absurd rfl h2
  cases b <;> simp [behindInMarks, e1, e2]
/-- a comparison as a value; hm: nomark b, or (for in, not in) by with_unfolding_all rfl -/
theorem pe_cmpR {op : CmpOp} {r : R2} (ho : OpR X (compareOp op) r) (ha : PE X a ta) (hb : PE X b tb) (hm : behindInMarks op b = false) : PE X (.Compare a [op] [b] pos) (tOp r ta tb) := by
  intro pins s σ H Q I h
  exact wpAny_Compare1 (binT ha hb I h fun v u s2 x y H2 I2 rx ry q => ho pins s2 σ H2 x y v u Q I2 rx ry q) hm
/-- a reading of a value as a test -/
def tTest (t : TE) : TT := fun σ H Q => t σ H fun x H' => ∃ k, x = .bl k ∧ Q k H'
theorem pt_cmpR {op : CmpOp} {r : R2} (ho : OpR X (compareOp op) r) (ha : PE X a ta) (hb : PE X b tb) (hm : behindInMarks op b = false) : PT X (.Compare a [op] [b] pos) (tTest (tOp r ta tb)) := by
  intro pins s σ H Q I h
  refine wpAny_isTrue_Compare1 (thn (ha pins s σ H _ I h) fun v s1 ⟨x, H1, I1, r1, q1⟩ => thn (hb pins s1 σ H1 _ I1 q1) fun u s2 ⟨y, H2, I2, r2, q2⟩ =>
    thn (ho pins s2 σ H2 x y v u _ I2 r1 r2 q2) fun c s3 ⟨z, H3, I3, r3, k, e, q3⟩ => ?_) hm
  subst e
  cases r3
  exact wpAny_truthy_bool ⟨H3, I3, q3⟩
/-- a op1 b op2 c -/
def tChain (r r' : R2) (ta tb tc : TE) : TE := fun σ H Q => ta σ H fun x H1 => tb σ H1 fun y H2 => r x y H2 fun z H3 => ∃ k, z = .bl k ∧
  (if k = true then tc σ H3 fun w' H4 => r' y w' H4 Q else Q (.bl false) H3)
theorem pe_chain {op op' : CmpOp} {r r' : R2} (ho : OpR X (compareOp op) r) (ho' : OpR X (compareOp op') r') (ha : PE X a ta) (hb : PE X b tb) (hc : PE X c tc)
    (hm : lastMarks [op, op'] [b, c] = false := by with_unfolding_all rfl) : PE X (.Compare a [op, op'] [b, c] pos) (tChain r r' ta tb tc) := by
  intro pins s σ H Q I h
  refine Compare_chain (thn (ha pins s σ H _ I h) fun v s1 ⟨x, H1, I1, r1, q1⟩ => chain_link (thn (hb pins s1 σ H1 _ I1 q1) fun u s2 ⟨y, H2, I2, r2, q2⟩ =>
    thn (ho pins s2 σ H2 x y v u _ I2 r1 r2 q2) fun d s3 ⟨z, H3, I3, r3, k, e, q3⟩ => ?_)) hm
  subst e
  cases r3
  refine wpAny_truthy_bool ?_
  cases k with
  | false => exact ite_ff ⟨.bl false, H3, I3, rfl, q3⟩
  | true => exact ite_tt (chain_last (thn (hc pins s3 σ H3 _ I3 q3) fun w' s4 ⟨z', H4, I4, r4, q4⟩ => ho' pins s4 σ H4 y z' u w' Q I4 r2 r4 q4))
theorem line63 : (sizeLine : Nat) < 2 ^ 63 := by rw [sizeLine_eq]; decide
theorem vals1 {x : V} {us : List Value} (r : Vals [x] us) : ∃ u, us = [u] ∧ RelV x u := by
  cases r with
  | cons r1 r2 => cases r2; exact ⟨_, rfl, r1⟩
theorem vals2 {x y : V} {us : List Value} (r : Vals [x, y] us) : ∃ u w', us = [u, w'] ∧ RelV x u ∧ RelV y w' := by
  cases r with
  | cons r1 r2 =>
    cases r2 with
    | cons r3 r4 => cases r4; exact ⟨_, _, rfl, r1, r3⟩
theorem call_max2 (hc : X.calm = true) : CallR X (.builtin "max") (fun xs H Q => ∃ i j, xs = [.int i, .int j] ∧ Q (.int (if j > i then j else i)) H) := by
  intro pins s σ H xs us Q I r h
  obtain ⟨i, j, rfl, q⟩ := h
  obtain ⟨u, w', rfl, ⟨t, rfl⟩, ⟨t', rfl⟩⟩ := vals2 r
  refine max_two_ints (I.ok.hd hc) fun h' tk k => ⟨_, H, I.kept k, ?_, q⟩
  by_cases hj : j > i
  · rw [if_pos hj, if_pos hj]; exact ⟨_, rfl⟩
  · rw [if_neg hj, if_neg hj]; exact ⟨_, rfl⟩
theorem call_min2 (hc : X.calm = true) : CallR X (.builtin "min") (fun xs H Q => ∃ i j, xs = [.int i, .int j] ∧ Q (.int (if j < i then j else i)) H) := by
  intro pins s σ H xs us Q I r h
  obtain ⟨i, j, rfl, q⟩ := h
  obtain ⟨u, w', rfl, ⟨t, rfl⟩, ⟨t', rfl⟩⟩ := vals2 r
  refine min_two_ints (I.ok.hd hc) fun h' tk k => ⟨_, H, I.kept k, ?_, q⟩
  by_cases hj : j < i
  · rw [if_pos hj, if_pos hj]; exact ⟨_, rfl⟩
  · rw [if_neg hj, if_neg hj]; exact ⟨_, rfl⟩
end
end L2
namespace L2
open PySem PySem.Spec PyProof.Rows
structure ObjM (h : Heap) (x dx C : Addr) (mA : Str → Option Value) : Prop where
  obj : h.get? x = some (PySem.W.instObj C dx)
  ns : h.Ns1 dx mA
  ne : dx ≠ x
theorem lookIn_ns {h : Heap} {dx : Addr} {mA : Str → Option Value} (n : h.Ns1 dx mA) : ∃ od, h.get? dx = some od ∧ ∀ name, PySem.W.lookIn name od = some (mA name) := by
  obtain ⟨o, es, ep, ho, hd, hk, _, hm⟩ := n
  refine ⟨o, ho, fun name => ?_⟩
  have e := hm name
  unfold nsFind findBy at e
  rw [← Array.find?_toList] at e
  unfold PySem.W.lookIn
  rw [hd]
  dsimp only
  split
  · rename_i y q
    rw [q] at e
    exact congrArg some e
  · rename_i q
    rw [q] at e
    have a : es.toList.any (·.refKey) = false := by
      rw [List.any_eq_false]
      intro y hy
      obtain ⟨z, t, hkey⟩ := hk y (Array.mem_toList_iff.mp hy)
      simp [DictEntry.refKey, hkey]
    have a' : ¬ es.toList.any (·.refKey) = true := by rw [a]; exact Bool.false_ne_true
    rw [if_neg a']
    exact congrArg some e
theorem ObjM.look {h : Heap} {x dx C : Addr} {mA : Str → Option Value} (I : ObjM h x dx C mA) : ∃ od, PySem.W.InstAt h x (PySem.W.instObj C dx) C (some od) ∧ ∀ name, PySem.W.lookIn name od = some (mA name) :=
  let ⟨od, ho, hl⟩ := lookIn_ns I.ns
  ⟨od, ⟨I.obj, rfl, rfl, ho⟩, hl⟩
section
variable {prog : Program} {w : World} {A : Around} {E : Value → Shared → Prop} {s : Shared} {K : PySem.W.Frag} {x dx C f : Addr} {mA : Str → Option Value} {name : Str} {v : Value}
theorem get_map {expr : Bool} {Q : Value → Shared → Prop} (X : K.In s.heap) (I : ObjM s.heap x dx C mA) (hg : PySem.W.plainGet K C name = true) (hh : PySem.W.hasDictIn K C = true)
    (ha : PySem.W.findIn K (.ref C) name = some none) (hv : mA name = some v) (hv' : PySem.W.handedIn v = true) (h : Q v { s with toks := s.toks + 1 }) :
    wpAny (model prog w) A (getAttr (.ref x) name expr) Q E s := by
  obtain ⟨od, J, hl⟩ := I.look
  exact PySem.W.get_value X J (PySem.W.plainGet_of hg).1 (PySem.W.findObj_own hh ha rfl (by rw [hl, hv])) hv' h
theorem set_map {ns : List Str} {Q : Unit → Shared → Prop} (X : K.In s.heap) (I : ObjM s.heap x dx C mA)
    (hs : PySem.W.findIn K (.ref C) "__setattr__" = some (some (.builtin "object.__setattr__"))) (hp : PySem.W.plainOver K C = true) (ht : PySem.W.takerIn K C name = some none) (hh : PySem.W.hasDictIn K C = true)
    (hw : PySem.Within mA ns) (hsz : ns.length ≤ sizeLine)
    (h : ∀ h', ObjM h' x dx C (fun y => if y = name then some v else mA y) → Heap.SameBut dx s.heap h' → Q () { s with heap := h', toks := s.toks + 2 }) :
    wpAny (model prog w) A (setAttr (.ref x) name v) Q E s := by
  obtain ⟨od, J, hl⟩ := I.look
  refine PySem.W.set_plain X J hs (PySem.W.osa_open (s := { s with toks := s.toks + 1 }) (r := none) X J hp ht fun b => ?_)
  obtain ⟨cd, hc, hd'⟩ := PySem.W.any_some hh
  have hx : s.heap.get? x = some ⟨.ref C, some dx, .plain, #[]⟩ := I.obj
  refine wpAny_bind (wpAny_pure (wpAny_bind (wpAny_bind (wpAny_loadPart hx (wpAny_bind (PySem.W.Looks.here (s := { s with toks := s.toks + 1 }) (PySem.W.looks_clsIn X hc) ?_))))))
  rw [hd']
  refine wpAny_pure (a := some dx) (wpAny_bind (wpAny_pure (wpAny_bind ?_)))
  refine wpAny_nsSet1 (s := { s with toks := s.toks + 1 }) I.ns fun h' hn2 hs2 => ?_
  obtain ⟨oD, esD, epD, hoD, hdD, hcD⟩ := hn2.count (PySem.Within.cons name v hw)
  refine wpAny_bind (wpAny_lookBehind hoD (by rw [hdD]; exact pastItsLine_dict (Nat.le_trans hcD (by rw [List.length_cons]; omega))) ?_)
  exact wpAny_pure (h _ ⟨(hs2.2 _ (Ne.symm I.ne)).trans I.obj, hn2, I.ne⟩ hs2)
/-- C(..): the dict at the heap's end, the instance behind it; then its __init__ -/
theorem make_map {R : Result → Shared → Prop} {vs : List Value} {kw : List (Str × Value)} (X : K.In s.heap) (hm : PySem.W.makesIn K C = true)
    (hi : PySem.W.findIn K (.ref C) "__init__" = some (some (.ref f))) (hf : PySem.W.typeIn K (.ref f) = some (.type "function"))
    (h : codeAny (model prog w) (A.under (.builtin "type.__call__" ⟨.ref C :: vs, kw⟩)) (.call (.ref f) ⟨.ref (s.heap.objs.size + 1) :: vs, kw⟩) (PySem.W.InitBack (s.heap.objs.size + 1) R)
      { s with heap := (s.heap.push PySem.W.emptyDict).push (PySem.W.instObj C s.heap.objs.size) }) :
    codeAny (model prog w) A (.call (.ref C) ⟨vs, kw⟩) R s := by
  obtain ⟨hh, g, d, t, os⟩ := s
  exact PySem.W.make_core (PySem.W.makes_of X hm) (PySem.W.looks_findIn X hi) (fun self => PySem.W.bind_fn X self hf) (.inl rfl) h
end
def putF (f : Str) (v : V) : List (Str × V) → List (Str × V)
  | [] => [(f, v)]
  | (g, x) :: r => if g = f then (g, v) :: r else (g, x) :: putF f v r
theorem lookup_putF (f g : Str) (v : V) : ∀ fs : List (Str × V), (putF f v fs).lookup g = if g = f then some v else fs.lookup g
  | [] => by
    show List.lookup g [(f, v)] = _
    by_cases h : g = f
    · have hb : (g == f) = true := beq_iff_eq.mpr h
      simp only [List.lookup, hb, if_pos h]
    · have hb : (g == f) = false := beq_eq_false_iff_ne.mpr h
      simp only [List.lookup, hb, if_neg h]
  | (k, x) :: r => by
    have ih := lookup_putF f g v r
    rw [show putF f v ((k, x) :: r) = (if k = f then (k, v) :: r else (k, x) :: putF f v r) from rfl]
    by_cases hk : k = f
    · rw [if_pos hk]
      by_cases h : g = k
      · have hb : (g == k) = true := beq_iff_eq.mpr h
        simp only [List.lookup, hb, if_pos (h.trans hk)]
      · have hb : (g == k) = false := beq_eq_false_iff_ne.mpr h
        simp only [List.lookup, hb, if_neg (fun e : g = f => h (e.trans hk.symm))]
    · rw [if_neg hk]
      by_cases h : g = k
      · have hb : (g == k) = true := beq_iff_eq.mpr h
        simp only [List.lookup, hb, if_neg (fun e : g = f => hk (h.symm.trans e))]
      · have hb : (g == k) = false := beq_eq_false_iff_ne.mpr h
        simp only [List.lookup, hb]
        exact ih
theorem keys_putF (f : Str) (v : V) : ∀ fs : List (Str × V), f ∈ (putF f v fs).map (·.1) ∧ ∀ g, g ∈ fs.map (·.1) → g ∈ (putF f v fs).map (·.1)
  | [] => ⟨by simp [putF], fun g h => by simp at h⟩
  | (k, x) :: r => by
    obtain ⟨i1, i2⟩ := keys_putF f v r
    rw [show putF f v ((k, x) :: r) = (if k = f then (k, v) :: r else (k, x) :: putF f v r) from rfl]
    by_cases hk : k = f
    · rw [if_pos hk]
      subst hk
      exact ⟨by simp, fun g h => by simpa using h⟩
    · rw [if_neg hk]
      refine ⟨?_, fun g h => ?_⟩
      · rw [List.map_cons]
        exact List.mem_cons_of_mem _ i1
      · rw [List.map_cons] at h ⊢
        rcases List.mem_cons.mp h with e | e
        · exact List.mem_cons.mpr (.inl e)
        · exact List.mem_cons_of_mem _ (i2 g e)
theorem length_putF (f : Str) (v : V) : ∀ fs : List (Str × V), (putF f v fs).length ≤ fs.length + 1
  | [] => by simp [putF]
  | (k, x) :: r => by
    have ih := length_putF f v r
    rw [show putF f v ((k, x) :: r) = (if k = f then (k, v) :: r else (k, x) :: putF f v r) from rfl]
    by_cases hk : k = f
    · rw [if_pos hk, List.length_cons, List.length_cons]; omega
    · rw [if_neg hk, List.length_cons, List.length_cons]; omega
theorem RelO.some_of {v : V} {o : Option Value} (r : RelO (some v) o) : ∃ u, o = some u ∧ RelV v u := by
  cases o with
  | none => exact (show False from r).elim
  | some u => exact ⟨u, rfl, r⟩
theorem handed_of {v : V} {u : Value} (r : RelV v u) : PySem.W.handedIn u = true := by
  cases v with
  | non => cases (show u = Value.none from r); rfl
  | bl b => cases (show u = Value.bool b from r); rfl
  | int i => obtain ⟨t, e⟩ := (show ∃ t, u = Value.int i t from r); cases e; rfl
  | str x => obtain ⟨t, e⟩ := (show ∃ t, u = Value.str x t from r); cases e; rfl
  | byt b => obtain ⟨t, e⟩ := (show ∃ t, u = Value.bytes b t from r); cases e; rfl
  | flt b => obtain ⟨t, e⟩ := (show ∃ t, u = Value.float b t from r); cases e; rfl
  | ref a => cases (show u = Value.ref a from r); rfl
  | ty n => cases (show u = Value.type n from r); rfl
section
variable {P : Program} {w : World} {H H' : Hp} {h h' : Heap} {a C dx : Addr} {fs fs' : List (Str × V)}
theorem ins_get (hok : HOk P w H h) (e : H a = some (.ins C dx fs)) : ∃ mA, ObjM h a dx C mA ∧ (∀ f, RelO (fs.lookup f) (mA f)) ∧ PySem.Within mA (fs.map (·.1)) ∧ fs.length ≤ 1000 ∧ H dx = some (.own a) := by
  obtain ⟨d, z, ne, ob, mA, n, r, q⟩ := (show ObjOk P w H h a (.ins C dx fs) from hok a _ e)
  exact ⟨mA, ⟨ob, n, ne⟩, r, q, z, d⟩
end
structure Cls (K : PySem.W.Frag) (C : Addr) : Prop where
  pg : PySem.W.plainGet K C Str.empty = true
  hd : PySem.W.hasDictIn K C = true
  po : PySem.W.plainOver K C = true
  sa : PySem.W.findIn K (.ref C) "__setattr__" = some (some (.builtin "object.__setattr__"))
theorem Cls.get {K : PySem.W.Frag} {C : Addr} (c : Cls K C) (f : Str) : PySem.W.plainGet K C f = true := c.pg
/-- no class of it has the name -/
def NoAttr (K : PySem.W.Frag) (C : Addr) (f : Str) : Prop := PySem.W.findIn K (.ref C) f = some none
theorem NoAttr.taker {K : PySem.W.Frag} {C : Addr} {f : Str} (n : NoAttr K C f) : PySem.W.takerIn K C f = some none := by
  unfold PySem.W.takerIn
  rw [show PySem.W.findIn K (.ref C) f = some none from n]
  rfl
section
variable {X : Cx} {pins : List (Addr × Obj)} {σ : St} {H : Hp} {s : Shared} {a C dx : Addr} {fs : List (Str × V)} {f : Str} {v : V} {A : Around} {E : Value → Shared → Prop}
theorem getattr_ok {b : Bool} {Q : Value → Shared → Prop} (I : Inv X pins σ H s) (e : H a = some (.ins C dx fs)) (c : Cls X.K C) (n : NoAttr X.K C f) (l : fs.lookup f = some v)
    (h : ∀ u s', Inv X pins σ H s' → RelV v u → Q u s') : wpAny (model X.prog X.w) A (getAttr (.ref a) f b) Q E s := by
  obtain ⟨mA, O, r, _, _, _⟩ := ins_get I.hok e
  obtain ⟨u, hu, ru⟩ := RelO.some_of (v := v) (o := mA f) (by rw [← l]; exact r f)
  exact get_map I.kIn O (c.get f) c.hd n hu (handed_of ru) (h u _ (I.tok _) ru)
theorem setattr_ok {y : V} {u : Value} {Q : Unit → Shared → Prop} (I : Inv X pins σ H s) (e : H a = some (.ins C dx fs)) (c : Cls X.K C) (n : NoAttr X.K C f) (hl : fs.length < 1000) (ry : RelV y u)
    (h : ∀ s', Inv X pins σ (upd H a (.ins C dx (putF f y fs))) s' → Q () s') : wpAny (model X.prog X.w) A (setAttr (.ref a) f u) Q E s := by
  obtain ⟨mA, O, r, wi, _, ho⟩ := ins_get I.hok e
  have hz : (fs.map (·.1)).length ≤ sizeLine := by rw [List.length_map, sizeLine_eq]; omega
  refine set_map I.kIn O c.sa c.po n.taker c.hd wi hz fun h' O' sb => h _ ?_
  have hd : ∃ o, h'.get? dx = some o := let ⟨o, _, _, e', _⟩ := O'.ns; ⟨o, e'⟩
  refine I.write (x := a) (e := dx) (by rw [e]; exact True.intro) (.inr ho) (fun b q hb z => (sb.2 b hb).trans z) hd ?_
  refine ⟨by rw [upd_ne O.ne]; exact ho, ?_, O.ne, O'.obj, _, O'.ns, fun g => ?_, fun g hg => ?_⟩
  · have := length_putF f y fs; omega
  · show RelO ((putF f y fs).lookup g) (if g = f then some u else mA g)
    rw [lookup_putF]
    by_cases q : g = f
    · rw [if_pos q, if_pos q]; exact ry
    · rw [if_neg q, if_neg q]; exact r g
  · by_cases q : g = f
    · rw [q]; exact (keys_putF f y fs).1
    · refine (keys_putF f y fs).2 g (wi g fun z => hg ?_)
      show (if g = f then some u else mA g) = none
      rw [if_neg q]; exact z
/-- a new instance, tracked, without attributes -/
theorem Inv.made (I : Inv X pins σ H s) : Inv X pins σ (upd (upd H s.heap.objs.size (.own (s.heap.objs.size + 1))) (s.heap.objs.size + 1) (.ins C s.heap.objs.size []))
    { s with heap := (s.heap.push PySem.W.emptyDict).push (PySem.W.instObj C s.heap.objs.size) } := by
  have e1 : (s.heap.push PySem.W.emptyDict).get? s.heap.objs.size = some PySem.W.emptyDict := Heap.get?_push_size s.heap rfl
  have e2 : ((s.heap.push PySem.W.emptyDict).push (PySem.W.instObj C s.heap.objs.size)).get? (s.heap.objs.size + 1) = some (PySem.W.instObj C s.heap.objs.size) := by
    have := Heap.get?_push_size (s.heap.push PySem.W.emptyDict) (o := PySem.W.instObj C s.heap.objs.size) rfl
    rwa [Heap.size_push] at this
  have e3 : (s.heap.push PySem.W.emptyDict).Ns s.heap.objs.size (fun _ => none) := ⟨PySem.W.emptyDict, #[], _, e1, rfl, (fun e he => absurd he (by simp)), fun _ => rfl⟩
  have I1 := I.laid (a := s.heap.objs.size) (o := .own (s.heap.objs.size + 1)) (h' := s.heap.push PySem.W.emptyDict) (t' := s.toks) (fun b u q => Heap.get?_push_of_some _ q) (Nat.le_refl _) ⟨_, e1⟩
  refine I1.laid (a := s.heap.objs.size + 1) (o := .ins C s.heap.objs.size []) (t' := s.toks) (fun b u q => Heap.get?_push_of_some _ q) (Nat.le_of_eq (Heap.size_push _ _)) ?_
  have ne : s.heap.objs.size ≠ s.heap.objs.size + 1 := Nat.ne_of_lt (Nat.lt_succ_self _)
  refine ⟨by rw [upd_ne ne, upd_same], Nat.zero_le _, ne, e2, fun _ => none, (Heap.Ns1.of_empty e3).at fun o q => Heap.get?_push_of_some _ q, fun _ => True.intro, fun y hy => absurd rfl hy⟩
/-- e.f where nothing but the object is asked: through attributeBase (super) and the last hold -/
theorem attr_of {prog : Program} {w : World} {env : Env} {e : Expr} {f : Str} {pos : Pos} {s : Shared} {Q : Value → Shared → Prop} (hb : attributeBase e f env (eval e env) = eval e env)
    (h : wpAny (model prog w) A (eval e env) (fun o s₁ => wpAny (model prog w) A (getAttr o f true) Q E s₁) E s) : wpAny (model prog w) A (eval (.Attribute e f pos) env) Q E s :=
  Attribute_any_ h (by rw [arm_eval_Attribute, hb])
end
/-- e.f, an attribute of the instance -/
def tFld (K : PySem.W.Frag) (ta : TE) (f : Str) : TE := fun σ H Q => ta σ H fun x H1 => ∃ a C dx fs v, x = .ref a ∧ H1 a = some (.ins C dx fs) ∧ Cls K C ∧ NoAttr K C f ∧ fs.lookup f = some v ∧ Q v H1
/-- e.f = value -/
def sFld (K : PySem.W.Frag) (ta tv : TE) (f : Str) : TS := fun D σ H => tv σ H fun y H1 => ta σ H1 fun x H2 => ∃ a C dx fs, x = .ref a ∧ H2 a = some (.ins C dx fs) ∧ Cls K C ∧ NoAttr K C f ∧ fs.length < 1000 ∧
  D.nx σ (upd H2 a (.ins C dx (putF f y fs)))
section
variable {X : Cx} {o e value : Expr} {f : Str} {pos pos' tpos : Pos} {ta tv : TE}
theorem pe_fld (he : PE X e ta) (hb : attributeBase e f X.env (eval e X.env) = eval e X.env) : PE X (.Attribute e f pos) (tFld X.K ta f) := by
  intro pins s σ H Q I h
  refine attr_of hb (thn (he pins s σ H _ I h) fun u s1 ⟨x, H1, I1, rx, a, C, dx, fs, v, ex, ea, c, n, l, q⟩ => ?_)
  subst ex
  obtain rfl : u = Value.ref a := rx
  exact getattr_ok I1 ea c n l fun u' s2 I2 ru => ⟨v, H1, I2, ru, q⟩
theorem ps_fld (ha : PE X o ta) (hv : PE X value tv) (hs : swapsWith value (some (.Attribute o f pos')) pos.line X.env = pure false) : PS X (.Assign [.Attribute o f pos'] value pos) (sFld X.K ta tv f) := by
  intro pins s σ H D I h
  refine plainObj_wpAny_Assign_Attribute (thn (hv pins s σ H _ I h) fun u s1 ⟨y, H1, I1, ry, q⟩ => thn (ha pins s1 σ H1 _ I1 q) fun ov s2 ⟨x, H2, I2, rx, a, C, dx, fs, ex, ea, c, n, l, q2⟩ => ?_) hs
  subst ex
  obtain rfl : ov = Value.ref a := rx
  exact setattr_ok I2 ea c n l ry fun s3 I3 => ⟨σ, _, I3, q2⟩
end
section
variable {X : Cx} {pins : List (Addr × Obj)} {σ : St} {H : Hp} {s : Shared} {A : Around} {E : Value → Shared → Prop} {Q : Value → Shared → Prop} {c : Value} {b : Bool}
end
end L2
namespace L2
open PySem PySem.Spec PyProof.Rows
structure Room (k : Nat) (A : Around) : Prop where
  hd : A.handled = none
  dp : A.depth + 3 * k + 5 < recursionLimit
  un : A.units + 16 * k + 200 < cLine
theorem Room.mono {j k : Nat} {A : Around} (r : Room k A) (h : j ≤ k) : Room j A := ⟨r.hd, by have := r.dp; omega, by have := r.un; omega⟩
theorem Room.deeper {k : Nat} {A : Around} (r : Room (k + 1) A) (env : Env) : Room k (A.deeper env) :=
  ⟨r.hd, by have := r.dp; show A.depth + 1 + 3 * k + 5 < _; omega, by have := r.un; show A.units + 3 + 16 * k + 200 < _; omega⟩
theorem make_depth {A : Around} {C : Addr} {us : List Value} {kw : List (Str × Value)} : (A.under (.builtin "type.__call__" ⟨.ref C :: us, kw⟩)).depth = A.depth + 1 := by
  first | rfl | simp [Around.under, Code.weight, Code.isCreation, Code.isGuard, Code.isCaller, Code.frames, Code.isFrame, guardIds]
theorem make_units {A : Around} {C : Addr} {us : List Value} {kw : List (Str × Value)} : (A.under (.builtin "type.__call__" ⟨.ref C :: us, kw⟩)).units = A.units + 1 := by
  first | rfl | simp [Around.under, Code.cUnits, Code.frames, Code.isFrame]
theorem Room.make {k : Nat} {A : Around} (r : Room (k + 1) A) (C : Addr) (us : List Value) (kw : List (Str × Value)) : Room k (A.under (.builtin "type.__call__" ⟨.ref C :: us, kw⟩)) :=
  ⟨r.hd, by have := r.dp; rw [make_depth]; omega, by have := r.un; rw [make_units]; omega⟩
theorem Room.depth {k : Nat} {A : Around} (r : Room k A) : A.depth < recursionLimit := by have := r.dp; omega
def tNil : TA := fun _ H Q => Q [] H
def tCons (ta : TE) (tr : TA) : TA := fun σ H Q => ta σ H fun x H1 => tr σ H1 fun xs H2 => Q (x :: xs) H2
section
variable {X : Cx} {e : Expr} {es : List Expr} {te : TE} {t : TA} {pos : Pos}
theorem pa_nil : PA X [] tNil := fun _ _ _ _ H Q I h => Calls.spliced_nil ⟨[], H, I, .nil, h⟩
theorem pa_cons (ha : PE X e te) (hr : PA X es t) (hs : starEach (e :: es) X.env = (false, eval e X.env) :: starEach es X.env := by rfl) : PA X (e :: es) (tCons te t) := by
  intro pos pins s σ H Q I h
  rw [hs]
  show wpAny _ _ (spliced ((false, eval e X.env) :: backTo pos (starEach es X.env))) _ _ s
  refine Calls.spliced_cons (thn (ha pins s σ H _ I h) fun u s1 ⟨x, H1, I1, r1, q1⟩ => ?_)
  exact thn (hr pos pins s1 σ H1 _ I1 q1) fun us s2 ⟨xs, H2, I2, r2, q2⟩ => ⟨x :: xs, H2, I2, .cons r1 r2, q2⟩
def tLst (t : TA) : TE := fun σ H Q => t σ H fun xs H1 => xs.length ≤ sizeLine ∧ ∀ p, H1 p = none → Q (.ref p) (upd H1 p (.lst xs))
theorem pe_lst (h : PA X es t) : PE X (.List es pos) (tLst t) := by
  intro pins s σ H Q I hq
  refine wpAny_List_spliced (thn (h pos pins s σ H _ I hq) fun us s1 ⟨xs, H1, I1, r, z, q⟩ => ⟨by rw [← r.length]; exact z, ?_⟩)
  have hf : H1 s1.heap.objs.size = none := I1.hok.fresh (Nat.le_refl _)
  refine ⟨.ref s1.heap.objs.size, upd H1 s1.heap.objs.size (.lst xs), I1.laid (t' := s1.toks) (fun b u e => Heap.get?_push_of_some _ e) (Nat.le_refl _) ?_, rfl, q _ hf⟩
  exact ⟨z, us, 0, r, Heap.get?_push_size _ rfl⟩
end
/-- a def's promise: the bound arguments in the parameters' order, the heap, the wanted end, the wanted exception -/
abbrev Sp := List V → Hp → VK → XK → Prop
/-- how an exception lies behind a call (file 08 gives it): the callers' frames, abstract heap and state ahead of the call, the wish, the exception, the state -/
abbrev CXT := List Env → Hp → Shared → XK → Value → Shared → Prop
/-- the state at a call -/
structure Env0 (P : Program) (w : World) (K : PySem.W.Frag) (mg : Str → Option Value) (base : Heap) (A : Around) (outer : List Env) (s : Shared) (H : Hp) : Prop where
  frames : A.frames = some outer
  mod : Mod K mg base
  bs : ∀ b o, base.get? b = some o → s.heap.get? b = some o ∧ H b = none
  bsz : base.objs.size ≤ s.heap.objs.size
  funs : s.heap.FunFrames base outer
  frf : ∀ b ∈ frs outer, H b = none
  hok : HOk P w H s.heap
  bare : AllBare s.gens
/-- a call's end -/
def CE (outer : List Env) (P : Program) (w : World) (H : Hp) (s : Shared) (Q : VK) (u : Value) (s' : Shared) : Prop :=
  ∃ v H', s'.os = s.os ∧ AllBare s'.gens ∧ Un (frs outer) [] H H' s.heap s'.heap ∧ HOk P w H' s'.heap ∧ RelV v u ∧ Q v H'
def CR (CX : CXT) (outer : List Env) (P : Program) (w : World) (H : Hp) (s : Shared) (Q : VK) (E : XK) (r : Result) (s' : Shared) : Prop :=
  match r with
  | .ok (.ret u) => CE outer P w H s Q u s'
  | .ok _ => False
  | .error e => CX outer H s E e s'
structure FnOk (P : Program) (w : World) (K : PySem.W.Frag) (mg : Str → Option Value) (base : Heap) (CX : CXT) (k : Nat) (f : Addr) (fd : FuncData) (ps : List Str) (sp : Sp) : Prop where
  len : ∀ vs H Q E, sp vs H Q E → vs.length = ps.length
  run : ∀ (A : Around) (outer : List Env) (s : Shared) (H : Hp) (args : Args) (us : List Value) (vs : List V) (Q : VK) (E : XK), Room k A → Env0 P w K mg base A outer s H → BindsTo s fd args (ps.zip us) → Vals vs us → sp vs H Q E →
    codeAny (model P w) A (.call (.ref f) args) (CR CX outer P w H s Q E) s
theorem Env0.make {P : Program} {w : World} {K : PySem.W.Frag} {mg : Str → Option Value} {base : Heap} {A : Around} {outer : List Env} {s : Shared} {H : Hp} (e : Env0 P w K mg base A outer s H) (C : Addr) (us : List Value) (kw : List (Str × Value)) :
    Env0 P w K mg base (A.under (.builtin "type.__call__" ⟨.ref C :: us, kw⟩)) outer s H := ⟨by first | exact e.frames | (simpa [Around.under, Code.envs, Code.isFrame, pushEnvs] using e.frames), e.mod, e.bs, e.bsz, e.funs, e.frf, e.hok, e.bare⟩
section
variable {X : Cx} {pins : List (Addr × Obj)} {σ : St} {H : Hp} {s s' : Shared}
/-- from a body: what a callee wants -/
theorem Inv.env0 (I : Inv X pins σ H s) : Env0 X.prog X.w X.K X.mg X.base X.A X.stack s H :=
  ⟨I.ok.frames, I.ok.mod, I.bs, Nat.le_trans I.ok.bsz I.sz, I.stack, I.stkFree, I.hok, I.bare⟩
/-- behind a call -/
theorem Inv.after {Q : VK} {u : Value} (I : Inv X pins σ H s) (h : CE X.stack X.prog X.w H s Q u s') : EP X pins σ Q u s' := by
  obtain ⟨v, H', os, bare, un, hok, r, q⟩ := h
  obtain ⟨hh, g, d, t, os'⟩ := s'
  obtain rfl : os' = s.os := os
  exact ⟨v, H', I.call (h' := hh) (g' := g) (d' := d) (t' := t) (ch := []) un hok bare (fun b z => absurd z (by simp)), r, q⟩
end
/-- f(..): the written arguments, then the defaults dvs; E: what is wanted of an exception -/
def tCall (sp : Sp) (dvs : List V) (E : XK) (t : TA) : TE := fun σ H Q => t σ H fun vs H1 => sp (vs ++ dvs) H1 Q E
/-- C(..): a new instance and its dict, then __init__ -/
def tMake (C : Addr) (sp : Sp) (dvs : List V) (E : XK) (t : TA) : TE := fun σ H Q => t σ H fun vs H1 => ∀ x dx, H1 x = none → H1 dx = none → dx ≠ x →
  sp (.ref x :: (vs ++ dvs)) (upd (upd H1 dx (.own x)) x (.ins C dx [])) (fun v H2 => v = .non ∧ Q (.ref x) H2) E
/-- how the parameters are bound: us the positional arguments, kw the keywords' values by name, ds the defaults that fill up -/
def Binds (K : PySem.W.Frag) (fd : FuncData) (ps : List Str) (ds : List Value) : Prop :=
  ∀ (s : Shared) (us : List Value), K.In s.heap → (us ++ ds).length = ps.length → BindsTo s fd ⟨us, []⟩ (ps.zip (us ++ ds))
/-- every parameter is given -/
theorem Binds.all {K : PySem.W.Frag} {fd : FuncData} {ps : List Str} (h : ∀ us : List Value, us.length = ps.length → bindArgs fd ⟨us, []⟩ = pure (ps.zip us)) : Binds K fd ps [] := fun s us _ hl => by
  rw [List.append_nil] at hl ⊢
  exact .of_eq (h us hl)
/-- an exception of a callee reaches what this body wants of exceptions -/
def Passes (CX : CXT) (X : Cx) (E : XK) : Prop := ∀ (pins : List (Addr × Obj)) (σ : St) (H : Hp) (s : Shared) (e : Value) (s' : Shared), Inv X pins σ H s → CX X.stack H s E e s' → X.xe e s'
section
variable {X : Cx} {CX : CXT} {k : Nat} {f C : Addr} {fd : FuncData} {ps : List Str} {sp : Sp} {dvs : List V} {ds : List Value} {E : XK} {x m : Str} {p pos apos : Pos} {e o : Expr} {es : List Expr} {ta : TE} {t : TA}
/-- the callee runs -/
theorem run_fn {pins : List (Addr × Obj)} {σ : St} {H : Hp} {s : Shared} {Q : VK} {us : List Value} {vs : List V} (F : FnOk X.prog X.w X.K X.mg X.base CX k f fd ps sp) (hr : Room k X.A) (hb : Binds X.K fd ps ds) (hd : Vals dvs ds) (hx : Passes CX X E)
    (I : Inv X pins σ H s) (r : Vals vs us) (h : sp (vs ++ dvs) H Q E) : wpAny (model X.prog X.w) X.A (call (.ref f) us) (EP X pins σ Q) X.xe s := by
  have r2 : Vals (vs ++ dvs) (us ++ ds) := r.append hd
  have hl : (us ++ ds).length = ps.length := by rw [← r2.length]; exact F.len _ _ _ _ h
  refine wpAny_call (codeAny_mono (F.run X.A X.stack s H ⟨us, []⟩ (us ++ ds) (vs ++ dvs) Q E hr I.env0 (hb s us I.kIn hl) r2 h) fun r s' hq => ?_)
  cases r with
  | error e => exact hx pins σ H s e s' I hq
  | ok fl =>
    cases fl with
    | ret u => exact I.after hq
    | next => exact False.elim hq
    | brk => exact False.elim hq
    | cont => exact False.elim hq
theorem pe_call (F : FnOk X.prog X.w X.K X.mg X.base CX k f fd ps sp) (hr : Room k X.A) (hg : Gl X x) (hm : X.mg x = some (.ref f)) (hk : PySem.W.keepIn X.K (.ref f) = true) (hb : Binds X.K fd ps ds) (hd : Vals dvs ds) (hx : Passes CX X E)
    (ha : PA X (e :: es) t) (hdb : (x == ("__debug__" : Str)) = false := by decide) (he : starEach (e :: es) X.env = (false, eval e X.env) :: starEach es X.env := by rfl) (hpl : (backTo pos (starEach es X.env)).any (·.1) = false := by rfl) :
    PE X (.Call (.Name x p) (e :: es) [] pos) (tCall sp dvs E t) := by
  intro pins s σ H Q I h
  refine wpAny_Call_Name_kw (ld_glob I hg hm ?_ hdb)
  refine PySem.W.callWith_K (h₀ := X.base) I.ok.mod.kin hk (thn (ha pos pins s σ H _ I h) fun us s1 ⟨vs, H1, I1, r, q⟩ => ⟨I1.kIn, ?_⟩) he hpl
  exact run_fn F hr hb hd hx I1 r q
/-- what a class must have to be made -/
structure Mk (K : PySem.W.Frag) (C f : Addr) : Prop where
  makes : PySem.W.makesIn K C = true
  init : PySem.W.findIn K (.ref C) "__init__" = some (some (.ref f))
  fn : PySem.W.isFn K (.ref f) = true
  kp : PySem.W.keepIn K (.ref C) = true
theorem run_make {pins : List (Addr × Obj)} {σ : St} {H : Hp} {s : Shared} {Q : VK} {us : List Value} {vs : List V} (M : Mk X.K C f) (F : FnOk X.prog X.w X.K X.mg X.base CX k f fd ps sp) (hr : Room (k + 1) X.A) (hb : Binds X.K fd ps ds) (hd : Vals dvs ds)
    (hx : Passes CX X E) (I : Inv X pins σ H s) (r : Vals vs us)
    (h : ∀ x dx, H x = none → H dx = none → dx ≠ x → sp (.ref x :: (vs ++ dvs)) (upd (upd H dx (.own x)) x (.ins C dx [])) (fun v H2 => v = .non ∧ Q (.ref x) H2) E) :
    wpAny (model X.prog X.w) X.A (call (.ref C) us) (EP X pins σ Q) X.xe s := by
  have hq := h (s.heap.objs.size + 1) s.heap.objs.size (I.hok.fresh (Nat.le_succ _)) (I.hok.fresh (Nat.le_refl _)) (Nat.ne_of_lt (Nat.lt_succ_self _))
  have I2 := Inv.made (C := C) I
  have r2 : Vals (V.ref (s.heap.objs.size + 1) :: (vs ++ dvs)) (Value.ref (s.heap.objs.size + 1) :: (us ++ ds)) := .cons rfl (r.append hd)
  have hl : (Value.ref (s.heap.objs.size + 1) :: us ++ ds).length = ps.length := by
    have e := r2.length
    rw [F.len _ _ _ _ hq] at e
    exact e.symm
  refine wpAny_call (make_map (f := f) I.kIn M.makes M.init (beq_iff_eq.mp M.fn) (codeAny_mono (F.run _ X.stack _ _ ⟨Value.ref (s.heap.objs.size + 1) :: us, []⟩ (Value.ref (s.heap.objs.size + 1) :: (us ++ ds)) _ _ E (hr.make C us [])
    (I2.env0.make C us []) (hb _ (Value.ref (s.heap.objs.size + 1) :: us) I2.kIn hl) r2 hq) fun r s' hq' => ?_))
  cases r with
  | error e => exact hx pins σ _ _ e s' I2 hq'
  | ok fl =>
    cases fl with
    | ret u =>
      obtain ⟨v, H', I3, rv, ev, q3⟩ := I2.after hq'
      subst ev
      exact ⟨rv, ⟨V.ref (s.heap.objs.size + 1), H', I3, rfl, q3⟩⟩
    | next => exact False.elim hq'
    | brk => exact False.elim hq'
    | cont => exact False.elim hq'
theorem pe_make0 (M : Mk X.K C f) (F : FnOk X.prog X.w X.K X.mg X.base CX k f fd ps sp) (hr : Room (k + 1) X.A) (hg : Gl X x) (hm : X.mg x = some (.ref C)) (hb : Binds X.K fd ps ds) (hd : Vals dvs ds) (hx : Passes CX X E)
    (hdb : (x == ("__debug__" : Str)) = false := by decide) : PE X (.Call (.Name x p) [] [] pos) (tMake C sp dvs E tNil) := by
  intro pins s σ H Q I h
  refine wpAny_Call_Name_kw (ld_glob I hg hm ?_ hdb)
  exact PySem.W.callWith_K0 I.kIn M.kp (run_make (us := []) M F hr hb hd hx I .nil h)
end
section
variable {X : Cx} {CX : CXT} {k : Nat} {f C : Addr} {fd : FuncData} {ps ks : List Str} {sp : Sp} {E : XK} {x m : Str} {p pos apos kpos : Pos} {e o : Expr} {es : List Expr} {kws : List Keyword} {te ta : TE} {t tk : TA} {nm : Option Str}
variable {g : List Value → List Value → List Value} {gV : List V → List V → List V}
end
/-- names: the parameters first -/
structure FnScope (N P : List Str) (sc : Scope) : Prop where
  kind : sc.kind = .function
  co : sc.isCoroutine = false
  gen : sc.isGenerator = false
  nd : N.Nodup
  pre : N.take P.length = P
  par : ∀ x ∈ P, sc.names.lookup x = some .local ∨ sc.names.lookup x = some .cell
  nofree : ∀ y ∈ sc.names, y.2 ≠ .free
theorem bindL_out {kindOf : Str → Option NameKind} {x : Str} : ∀ {binds : List (Str × Value)} {m : Str → Option Value}, (∀ v, (x, v) ∉ binds) → bindL kindOf binds m x = m x
  | [], _, _ => rfl
  | (n, v) :: r, m, h => by
    unfold bindL
    rw [bindL_out fun w hw => h w (List.mem_cons_of_mem _ hw)]
    split
    · have : x ≠ n := by rintro rfl; exact h v List.mem_cons_self
      simp [this]
    · rfl
theorem bindC_out {kindOf : Str → Option NameKind} {x : Str} : ∀ {binds : List (Str × Value)} {m : Str → Option Value}, (∀ v, (x, v) ∉ binds) → bindC kindOf binds m x = m x
  | [], _, _ => rfl
  | (n, v) :: r, m, h => by
    unfold bindC
    rw [bindC_out fun w hw => h w (List.mem_cons_of_mem _ hw)]
    split
    · rfl
    · have : x ≠ n := by rintro rfl; exact h v List.mem_cons_self
      simp [this]
theorem bindL_get {kindOf : Str → Option NameKind} {x : Str} {v : Value} : ∀ {P : List Str} {vs : List Value} {i : Nat} {m : Str → Option Value}, P.Nodup → P[i]? = some x → vs[i]? = some v → kindOf x = some .local →
    bindL kindOf (P.zip vs) m x = some v
  | [], _, _, _, _, h, _, _ => by simp at h
  | _ :: _, [], _, _, _, _, h, _ => by simp at h
  | p :: P, w :: vs, 0, m, nd, h1, h2, hk => by
    simp at h1 h2; subst h1; subst h2
    show bindL kindOf ((p, w) :: P.zip vs) m p = _
    unfold bindL
    rw [bindL_out fun v hv => (List.nodup_cons.mp nd).1 (List.of_mem_zip hv).1, if_pos hk]
    simp
  | p :: P, w :: vs, i + 1, m, nd, h1, h2, hk => by
    show bindL kindOf ((p, w) :: P.zip vs) m x = _
    unfold bindL
    exact bindL_get (i := i) (List.nodup_cons.mp nd).2 (by simpa using h1) (by simpa using h2) hk
theorem bindC_get {kindOf : Str → Option NameKind} {x : Str} {v : Value} : ∀ {P : List Str} {vs : List Value} {i : Nat} {m : Str → Option Value}, P.Nodup → P[i]? = some x → vs[i]? = some v → kindOf x ≠ some .local →
    bindC kindOf (P.zip vs) m x = some v
  | [], _, _, _, _, h, _, _ => by simp at h
  | _ :: _, [], _, _, _, _, h, _ => by simp at h
  | p :: P, w :: vs, 0, m, nd, h1, h2, hk => by
    simp at h1 h2; subst h1; subst h2
    show bindC kindOf ((p, w) :: P.zip vs) m p = _
    unfold bindC
    rw [bindC_out fun v hv => (List.nodup_cons.mp nd).1 (List.of_mem_zip hv).1, if_neg hk]
    simp
  | p :: P, w :: vs, i + 1, m, nd, h1, h2, hk => by
    show bindC kindOf ((p, w) :: P.zip vs) m x = _
    unfold bindC
    exact bindC_get (i := i) (List.nodup_cons.mp nd).2 (by simpa using h1) (by simpa using h2) hk
/-- the names' values at the entry -/
def start (N : List Str) (vs : List V) : St := vs.map some ++ List.replicate (N.length - vs.length) none
/-- the context of a def's body, at its entry; an exception leaves the frame, then lies as CX says -/
def cxOf (CX : CXT) (P : Program) (w : World) (K : PySem.W.Frag) (mg : Str → Option Value) (base : Heap) (N : List Str) (qual : Str) (scope : Scope) (f : Addr) (cd : Value) (A : Around) (outer : List Env) (s : Shared) (H : Hp) (E : XK) : Cx where
  prog := P
  w := w
  K := K
  mg := mg
  base := base
  A := A.deeper (envOfC qual scope s.heap.objs.size f cd)
  N := N
  s_0 := s
  H_0 := H
  env := envOfC qual scope s.heap.objs.size f cd
  outer := outer
  stack := envOfC qual scope s.heap.objs.size f cd :: outer
  ex := []
  calm := true
  fn := fun _ => true
  pn := []
  xe := fun e s' => wpAny (model P w) (A.deeper (envOfC qual scope s.heap.objs.size f cd)) (leaving (envOfC qual scope s.heap.objs.size f cd) e) (fun _ s'' => CX outer H s E e s'') (fun e' s'' => CX outer H s E e' s'') s'
theorem cell_has {sc : Scope} {n : Nat} {x : Str} (h : sc.names.lookup x = some .cell) : ∃ c, (cellsFrom n sc.names []).lookup x = some c := by
  have q := PySem.W.cellsFrom_some sc.names n [] (.inl h)
  exact Option.isSome_iff_exists.mp q
theorem inv_start {CX : CXT} {P : Program} {w : World} {K : PySem.W.Frag} {mg : Str → Option Value} {base : Heap} {N ps : List Str} {qual : Str} {scope : Scope} {f : Addr} {cd : Value} {A : Around} {outer : List Env} {s s1 : Shared} {H : Hp} {E : XK} {us : List Value} {vs : List V}
    (S : FnScope N ps scope) (hd : A.handled = none) (e0 : Env0 P w K mg base A outer s H) (hl : vs.length = ps.length) (r : Vals vs us)
    (x : InCallC s s.heap.objs.size (bindL (envOfC qual scope s.heap.objs.size f cd).kindOf (ps.zip us) fun _ => none) (cellsFrom (s.heap.objs.size + 1) scope.names []) (bindC (envOfC qual scope s.heap.objs.size f cd).kindOf (ps.zip us) fun _ => none) s1) :
    Inv (cxOf CX P w K mg base N qual scope f cd A outer s H E) [] (start N vs) H s1 := by
  have hpl : ps.length ≤ N.length := by have := congrArg List.length S.pre; rw [List.length_take] at this; omega
  obtain ⟨h1, tk, rfl, hk⟩ := x.done
  have noA : ∀ b : Addr, b ∉ (cxOf CX P w K mg base N qual scope f cd A outer s H E).ex := fun b z => absurd (show b ∈ ([] : List Addr) from z) (by simp)
  refine ⟨⟨e0.mod, S.kind, rfl, rfl, Nat.le_refl _, fun y z c h1 h2 => ?_, fun y hy => ?_, fun y c _ h => ?_, fun _ => hd, Around.frames_deeper e0.frames, .inr ⟨rfl, rfl⟩, fun b z => absurd z (noA b), e0.bs, e0.bsz, fun b _ _ => noA b, fun b z => absurd z (noA b), e0.funs, e0.frf⟩,
    rfl, e0.bare, Un.kept hk, ⟨_, x.toInCall.ns, fun i y v h1 h2 h3 => ?_⟩, fun y c h => ⟨_, x.cell y c h⟩, e0.hok.fresh (Nat.le_refl _), fun y c h => ?_, fun p hp => absurd (show p ∈ ([] : List (Addr × Obj)) from hp) (by simp), e0.hok.kept hk, ?_⟩
  · exact name_of_addr x.apart (PySem.mem_of_lookup h1) (PySem.mem_of_lookup h2)
  · have hy : scope.names.lookup y = some .cell ∨ scope.names.lookup y = some .free := hy
    rcases hy with hy | hy
    · exact cell_has hy
    · exact absurd rfl (S.nofree _ (PySem.mem_of_lookup hy))
  · exact Nat.le_of_lt (x.above y c (PySem.mem_of_lookup h))
  · have hi : i < vs.length := by
      unfold start at h2
      by_cases hi : i < vs.length
      · exact hi
      · rw [List.getElem?_append_right (by simpa using hi)] at h2
        rw [List.getElem?_replicate] at h2
        split at h2 <;> cases h2
    have ha : vs[i]? = some v := by
      unfold start at h2
      rw [List.getElem?_append_left (by simpa using hi), List.getElem?_map] at h2
      cases e : vs[i]? with
      | none => rw [e] at h2; cases h2
      | some a => rw [e] at h2; cases h2; rfl
    obtain ⟨u, hu, rv⟩ := r.get ha
    have hp : ps[i]? = some y := by
      rw [← S.pre, List.getElem?_take_of_lt (by omega)]; exact h1
    have ndP : ps.Nodup := by rw [← S.pre]; exact S.nd.sublist (List.take_sublist _ _)
    refine ⟨u, rv, ?_⟩
    rcases S.par y (List.mem_of_getElem? hp) with k | k
    · exact .inl ⟨k, bindL_get ndP hp hu k⟩
    · obtain ⟨c, e⟩ := cell_has (n := s.heap.objs.size + 1) k
      refine .inr ⟨.inl k, c, e, ?_⟩
      have q := x.cell y c e
      rw [bindC_get ndP hp hu (by show scope.names.lookup y ≠ _; rw [k]; decide)] at q
      exact q
  · exact e0.hok.fresh (Nat.le_of_lt (x.above y c (PySem.mem_of_lookup h)))
  · unfold start
    show _ = N.length
    rw [List.length_append, List.length_map, List.length_replicate]
    omega
/-- THE RULE: a def (or a method) of the text, by its body. The body's reading t is chosen for each entry; it is run at the parameters' values -/
theorem fn_of {CX : CXT} {P : Program} {w : World} {K : PySem.W.Frag} {mg : Str → Option Value} {base : Heap} {k : Nat} {f : Addr} {name qual : Str} {params : Arguments} {body : List Stmt} {scope : Scope} {dV kV doc pm cdv ct oc : Value} {an od : Option Addr}
    {osl : Array (Option Value)} {N ps : List Str} {sp : Sp} (lk : K.lookup f = some ⟨oc, od, .func (PySem.W.fnOf name qual params body scope dV kV doc pm an cdv ct), osl⟩) (hcd : PySem.W.codeIn K cdv qual = true) (S : FnScope N ps scope)
    (len : ∀ vs H Q E, sp vs H Q E → vs.length = ps.length)
    (hbody : ∀ (A : Around) (outer : List Env) (s : Shared) (H : Hp) (vs : List V) (Q : VK) (E : XK), Room k (A.deeper (envOfC qual scope s.heap.objs.size f cdv)) → sp vs H Q E →
      ∃ t, PSs (cxOf CX P w K mg base N qual scope f cdv A outer s H E) body t ∧ t { nx := fun _ H' => Q .non H', rt := Q } (start N vs) H) :
    FnOk P w K mg base CX (k + 1) f (PySem.W.fnOf name qual params body scope dV kV doc pm an cdv ct) ps sp := by
  refine ⟨len, fun A outer s H args us vs Q E hr e0 hb r hsp => ?_⟩
  have hl := len _ _ _ _ hsp
  have KX : K.In s.heap := e0.mod.kin.keeps fun b o e => (e0.bs b o e).1
  have lim : s.heap.NoLimit := e0.mod.nolimit.keeps fun b o e => (e0.bs b o e).1
  have hkind : ∀ y ∈ ps.zip us, scope.names.lookup y.1 = some .local ∨ (scope.names.lookup y.1 = some .cell ∧ ((cellsFrom (s.heap.objs.size + 1) scope.names []).lookup y.1).isSome = true) := fun ⟨n, v⟩ hy => by
    rcases S.par n (List.of_mem_zip hy).1 with q | q
    · exact .inl q
    · exact .inr ⟨q, PySem.W.cellsFrom_some _ _ _ (.inl q)⟩
  refine codeAny_call_function hr.depth (KX _ _ lk) rfl S.co S.gen rfl (PySem.W.codeRec_of KX hcd) (hb _ _ _ _ ?_)
  refine wpAny_newFunctionEnv_cells S.kind hkind fun env he s1 x => ?_
  subst he
  refine ⟨lim.keeps x.toInCall.keep, codeAny_func ?_⟩
  obtain ⟨t, ht, hq⟩ := hbody A outer s H vs Q E (hr.deeper _) hsp
  have I : Inv (cxOf CX P w K mg base N qual scope f cdv A outer s H E) [] (start N vs) H s1 := inv_start S hr.hd e0 hl r x
  refine wpAny_mono (ht [] s1 (start N vs) H _ I hq) (fun fl s' hs => ?_) fun e s' hs => hs
  have fin : ∀ {σ' : St} {H' : Hp} {v : V} {u : Value}, Inv (cxOf CX P w K mg base N qual scope f cdv A outer s H E) [] σ' H' s' → RelV v u → Q v H' → CE outer P w H s Q u s' :=
    fun {σ' H' v u} J rv q => ⟨v, H', J.os, J.bare, J.base, J.hok, rv, q⟩
  cases fl with
  | ret u =>
    obtain ⟨v, σ', H', J, rv, q⟩ := hs
    exact fin J rv q
  | next =>
    obtain ⟨σ', H', J, q⟩ := hs
    exact fin (v := V.non) (u := Value.none) J rfl q
  | brk =>
    obtain ⟨_, _, _, q⟩ := hs
    exact False.elim q
  | cont =>
    obtain ⟨_, _, _, q⟩ := hs
    exact False.elim q
end L2
namespace L2
open PySem PySem.Spec PyProof.Rows
section
variable {X : Cx} {x : Str} {p pos : Pos} {e : Expr} {es : List Expr} {t : TA} {id T : String} {r : List V → Hp → VK → Prop}
def tCB (r : List V → Hp → VK → Prop) (t : TA) : TE := fun σ H Q => t σ H fun vs H1 => r vs H1 Q
/-- f(e, ..), f a built-in function -/
theorem pe_callB (hc : CallR X (.builtin id) r) (hg : Gl X x) (hm : X.mg x = none) (hv : bootBuiltins x = some (.builtin id)) (ha : PA X (e :: es) t) (hn : x ≠ "__name__" := by decide) (hdb : (x == ("__debug__" : Str)) = false := by decide)
    (he : starEach (e :: es) X.env = (false, eval e X.env) :: starEach es X.env := by rfl) (hpl : (backTo pos (starEach es X.env)).any (·.1) = false := by rfl) : PE X (.Call (.Name x p) (e :: es) [] pos) (tCB r t) := by
  intro pins s σ H Q I h
  refine wpAny_Call_Name_kw (ld_blt I hg hm hv ?_ hn hdb)
  exact PyProof.Rows.callWith_builtin1 (thn (ha pos pins s σ H _ I h) fun us s1 ⟨vs, H1, I1, r1, q1⟩ => hc pins s1 σ H1 vs us Q I1 r1 q1) he hpl
/-- T(e, ..), T a built-in type -/
theorem pe_callTy (hc : CallR X (.type T) r) (hg : Gl X x) (hm : X.mg x = none) (hv : bootBuiltins x = some (.type T)) (ha : PA X (e :: es) t) (hn : x ≠ "__name__" := by decide) (hdb : (x == ("__debug__" : Str)) = false := by decide)
    (he : starEach (e :: es) X.env = (false, eval e X.env) :: starEach es X.env := by rfl) (hpl : (backTo pos (starEach es X.env)).any (·.1) = false := by rfl) : PE X (.Call (.Name x p) (e :: es) [] pos) (tCB r t) := by
  intro pins s σ H Q I h
  refine wpAny_Call_Name_kw (ld_blt I hg hm hv ?_ hn hdb)
  exact PyProof.Rows.callWith_type1 (thn (ha pos pins s σ H _ I h) fun us s1 ⟨vs, H1, I1, r1, q1⟩ => hc pins s1 σ H1 vs us Q I1 r1 q1) he hpl
end
end L2
namespace HT
open PySem PyProof.Rows
section
open PySem.SeqAt
open PySem.AutoSeq1 (wpAny_loadPart')
open PySem.MeetsSeq PySem.MeetsSeq2 PySem.MeetsSeq3
end
section
variable {prog : Program} {w : World} {A : Around} {E : Value → Shared → Prop} {s : Shared}
/-- a slice's bound as a place among n (d where it is left out) -/
def sIx (n d : Nat) : Option Int → Nat
  | none => d
  | some v => if v < 0 then (v + (n : Int)).toNat else min v.toNat n
theorem sIx_none (n d : Nat) : sIx n d none = d := rfl
theorem sIx_nat (n d k : Nat) : sIx n d (some (k : Int)) = min k n := by
  show (if (k : Int) < 0 then ((k : Int) + (n : Int)).toNat else min (k : Int).toNat n) = min k n
  rw [if_neg (by omega), Int.toNat_natCast]
end
end HT
namespace L2
open PySem PySem.Spec PyProof.Rows
abbrev TO := St → Hp → (Option Int → Hp → Prop) → Prop
/-- a slice's part (left out, or an int) -/
def PO (X : Cx) (e : Option Expr) (t : TO) : Prop :=
  ∀ (pins : List (Addr × Obj)) (s : Shared) (σ : St) (H : Hp) (Q : Option Int → Hp → Prop), Inv X pins σ H s → t σ H Q →
    wpAny (model X.prog X.w) X.A (evalPart e X.env) (fun u s' => ∃ o H', Inv X pins σ H' s' ∧ IsPart u o ∧ Q o H') X.xe s
def tNoPart : TO := fun _ H Q => Q none H
def tPart (t : TE) : TO := fun σ H Q => t σ H fun x H1 => ∃ i, x = .int i ∧ Q (some i) H1
section
variable {X : Cx} {e : Expr} {te : TE} {lo hi : Option Expr} {tl th : TO} {pos p2 : Pos}
theorem po_none : PO X none tNoPart := by
  intro pins s σ H Q I h
  rw [evalPart_none]
  exact wpAny_pure ⟨none, H, I, .none, h⟩
theorem po_some (h : PE X e te) : PO X (some e) (tPart te) := by
  intro pins s σ H Q I hw
  rw [evalPart_some]
  refine thn (h pins s σ H _ I hw) fun u s1 ⟨x, H1, I1, r1, q1⟩ => ?_
  obtain ⟨i, rfl, q⟩ := q1
  obtain ⟨t, rfl⟩ := r1
  exact ⟨some i, H1, I1, .int i t, q⟩
/-- what a slice of a value is, by values: the slice object stands at sl -/
def SlR (X : Cx) (r : V → Option Int → Option Int → Hp → VK → Prop) : Prop :=
  ∀ (pins : List (Addr × Obj)) (s : Shared) (σ : St) (H : Hp) (x : V) (v vl vu : Value) (lo hi : Option Int) (sl : Addr) (Q : VK), Inv X pins σ H s → RelV x v → s.heap.IsSliceOf sl vl vu .none → IsPart vl lo → IsPart vu hi → r x lo hi H Q →
    ∃ T id, typeLookup (.type T) "__getitem__" = pure (some (.builtin id)) ∧ s.TypeIs v T ∧ wpAny (model X.prog X.w) X.A (getItem v (.ref sl)) (EP X pins σ Q) X.xe s
def tSl (r : V → Option Int → Option Int → Hp → VK → Prop) (te : TE) (tl th : TO) : TE := fun σ H Q => te σ H fun x H1 => tl σ H1 fun l H2 => th σ H2 fun u H3 => r x l u H3 Q
/-- a[lo:hi], any a -/
theorem pe_slice {r : V → Option Int → Option Int → Hp → VK → Prop} (hr : SlR X r) (he : PE X e te) (hl : PO X lo tl) (hu : PO X hi th) : PE X (.Subscript e (.Slice lo hi none p2) pos) (tSl r te tl th) := by
  intro pins s σ H Q I h
  refine Subscript_ (thn (he pins s σ H _ I h) fun v s1 ⟨x, H1, I1, r1, q1⟩ => ?_)
  refine wpAny_Slice (thn (hl pins s1 σ H1 _ I1 q1) fun vl s2 ⟨l, H2, I2, pl, q2⟩ => thn (hu pins s2 σ H2 _ I2 q2) fun vu s3 ⟨u, H3, I3, pu, q3⟩ => ?_)
  rw [evalPart_none]
  refine wpAny_pure ?_
  have I4 : Inv X pins σ H3 { s3 with heap := s3.heap.push { cls := .type "slice", data := .fields #[vl, vu, .none] } } := I3.kept (t' := s3.toks) fun b ob q => Heap.get?_push_of_some _ q
  obtain ⟨T, id, hT, ht, hg⟩ := hr pins { s3 with heap := s3.heap.push { cls := .type "slice", data := .fields #[vl, vu, .none] } } σ H3 x v vl vu l u s3.heap.objs.size Q I4 r1 (Heap.IsSliceOf.new ..) pl pu q3
  show wpAny (model X.prog X.w) X.A (subscriptTail e (.Slice lo hi none p2) v (.ref s3.heap.objs.size)) (EP X pins σ Q) X.xe { s3 with heap := s3.heap.push { cls := .type "slice", data := .fields #[vl, vu, .none] } }
  exact tail_any (ops := [.ref s3.heap.objs.size, v]) ht hT hg (by with_unfolding_all rfl)
/-- the items of xs[lo:hi] -/
def cutV (xs : List V) (lo hi : Option Int) : List V := (xs.drop (HT.sIx xs.length 0 lo)).take (HT.sIx xs.length xs.length hi - HT.sIx xs.length 0 lo)
theorem cutV_length (xs : List V) (lo hi : Option Int) : (cutV xs lo hi).length ≤ xs.length := by
  unfold cutV
  rw [List.length_take, List.length_drop]
  omega
end
end L2
namespace L2
open PySem PySem.Spec PyProof.Rows
/-- the place that an index of any sign means -/
def ixN (n : Nat) (i : Int) : Option Nat := if 0 ≤ i then (if i < n then some i.toNat else none) else if -(n : Int) ≤ i then some (i + n).toNat else none
def atI {α : Type} (xs : List α) (i : Int) : Option α := (ixN xs.length i).bind fun j => xs[j]?
theorem ixN_seq {n : Nat} {i : Int} {j : Nat} (h : ixN n i = some j) : seqIndex? i n = some j ∧ j < n ∧ -(n : Int) ≤ i ∧ i < n := by
  unfold ixN at h
  by_cases h0 : 0 ≤ i
  · rw [if_pos h0] at h
    by_cases h1 : i < n
    · rw [if_pos h1] at h
      have e : i.toNat = j := Option.some.inj h
      exact ⟨by rw [seqIndex_of h0 h1, e], by omega, by omega, h1⟩
    · rw [if_neg h1] at h; cases h
  · rw [if_neg h0] at h
    by_cases h1 : -(n : Int) ≤ i
    · rw [if_pos h1] at h
      have e : (i + n).toNat = j := Option.some.inj h
      exact ⟨by rw [seqIndex_neg (by omega) h1, e], by omega, h1, by omega⟩
    · rw [if_neg h1] at h; cases h
theorem atI_get {α : Type} {xs : List α} {i : Int} {v : α} (h : atI xs i = some v) : ∃ j, seqIndex? i xs.length = some j ∧ xs[j]? = some v ∧ j < xs.length ∧ -(xs.length : Int) ≤ i ∧ i < xs.length := by
  unfold atI at h
  cases e : ixN xs.length i with
  | none => rw [e] at h; cases h
  | some j =>
    rw [e] at h
    obtain ⟨h1, h2, h3, h4⟩ := ixN_seq e
    exact ⟨j, h1, h, h2, h3, h4⟩
theorem atI_nat {α : Type} {xs : List α} {j : Nat} {v : α} (h : xs[j]? = some v) : atI xs (j : Int) = some v := by
  have hj : j < xs.length := (List.getElem?_eq_some_iff.mp h).1
  have e : ixN xs.length (j : Int) = some j := by
    unfold ixN
    rw [if_pos (by omega), if_pos (by omega)]; simp
  unfold atI; rw [e]; exact h
/-- what stands as an index of a plain subscript -/
def PlainIx (b : Expr) : Prop := ∀ o i, subscripted b false o i = operate [o, i] (getItem o i)
/-- a subscript by values -/
def IxR (X : Cx) (r : R2) : Prop :=
  ∀ (value slice : Expr) (pins : List (Addr × Obj)) (s : Shared) (σ : St) (H : Hp) (x y : V) (v u : Value) (Q : VK), Inv X pins σ H s → RelV x v → RelV y u → r x y H Q →
    subscripted slice false v u = operate [v, u] (getItem v u) → wpAny (model X.prog X.w) X.A (subscriptTail value slice v u) (EP X pins σ Q) X.xe s
/-- a call of a builtin's method by values: the receiver, the arguments -/
def MtR (X : Cx) (id : String) (r : V → List V → Hp → VK → Prop) : Prop :=
  ∀ (pins : List (Addr × Obj)) (s : Shared) (σ : St) (H : Hp) (x : V) (xs : List V) (v : Value) (us : List Value) (Q : VK), Inv X pins σ H s → RelV x v → Vals xs us → r x xs H Q →
    wpAny (model X.prog X.w) X.A (call (.builtin id) (v :: us)) (EP X pins σ Q) X.xe s
section
variable {X : Cx} {a b : Expr} {ta tb : TE} {pos : Pos}
/-- a[b] -/
theorem pe_ix {r : R2} (hr : IxR X r) (ha : PE X a ta) (hb : PE X b tb) (hs : PlainIx b) : PE X (.Subscript a b pos) (tOp r ta tb) := by
  intro pins s σ H Q I h
  exact Subscript_ (binT ha hb I h fun v u s2 x y H2 I2 rx ry q => hr a b pins s2 σ H2 x y v u Q I2 rx ry q (hs _ _))
def rIxL (K : PySem.W.Frag) : R2 := fun x y H Q => ∃ p xs i v, x = .ref p ∧ y = .int i ∧ SqL K H p xs ∧ atI xs i = some v ∧ Q v H
def rIxT (K : PySem.W.Frag) : R2 := fun x y H Q => ∃ p xs i v, x = .ref p ∧ y = .int i ∧ SqT K H p xs ∧ atI xs i = some v ∧ Q v H
theorem ix_list : IxR X (rIxL X.K) := by
  intro value slice pins s σ H x y v u Q I rx ry h hs
  obtain ⟨p, xs, i, z, rfl, rfl, hq, he, q⟩ := h
  cases rx
  obtain ⟨t, rfl⟩ := ry
  obtain ⟨its, r, pl, hz⟩ := I.list hq
  obtain ⟨j, h1, h2, h3, h4, h5⟩ := atI_get he
  obtain ⟨w, ew, rw'⟩ := r.get h2
  have hl := r.length
  have hn := line63
  have fin : EP X pins σ Q w s := ⟨z, H, I, rw', q⟩
  by_cases h0 : 0 ≤ i
  · have hj : i.toNat = j := by
      rw [seqIndex_of h0 h5] at h1
      exact Option.some.inj h1
    exact item_listR pl.isList h0 (by omega) (by rw [hj]; simpa using ew) fin hs
  · have hj : (i + (its.toArray.size : Int)).toNat = j := by
      rw [seqIndex_neg (by omega) h4] at h1
      rw [List.size_toArray, ← hl]
      exact Option.some.inj h1
    exact subscriptTail_builtinR (x := w) pl.isList.typeIs slot_list_getitem.lookup
      (wpAny_getItem_list_neg (Q := fun r s' => r = w ∧ EP X pins σ Q r s') pl.isList (by omega) (by rw [List.size_toArray] <;> omega) (by omega) (by rw [hj]; simpa using ew) ⟨rfl, fin⟩) hs
theorem ix_tup : IxR X (rIxT X.K) := by
  intro value slice pins s σ H x y v u Q I rx ry h hs
  obtain ⟨p, xs, i, z, rfl, rfl, hq, he, q⟩ := h
  cases rx
  obtain ⟨t, rfl⟩ := ry
  obtain ⟨its, r, pl, hz⟩ := I.tuple hq
  obtain ⟨j, h1, h2, h3, h4, h5⟩ := atI_get he
  obtain ⟨w, ew, rw'⟩ := r.get h2
  have hl := r.length
  have hn := line63
  have fin : EP X pins σ Q w s := ⟨z, H, I, rw', q⟩
  exact subscriptTail_builtinR (x := w) pl.typeIs slot_tuple_getitem.lookup
    (getItem_tuple (j := j) (Q := fun r s' => r = w ∧ EP X pins σ Q r s') pl (by omega) (by omega) (by rw [List.size_toArray, ← hl]; exact h1) (by simpa using ew) ⟨rfl, fin⟩) hs
/-- the list's object behind a store -/
theorem mapSeq_set (its : List Value) (n j : Nat) (u : Value) : Obj.mapSeq (·.setIfInBounds j u) { cls := .type "list", data := .seq its.toArray n } = { cls := .type "list", data := .seq (its.set j u).toArray n } := by
  simp [Obj.mapSeq]
theorem Inv.lst {pins : List (Addr × Obj)} {σ : St} {H : Hp} {s : Shared} {p : Addr} {xs : List V} (I : Inv X pins σ H s) (h : H p = some (.lst xs)) :
    ∃ (its : List Value) (n : Nat), Vals xs its ∧ s.heap.get? p = some { cls := .type "list", data := .seq its.toArray n } ∧ xs.length ≤ sizeLine := by
  obtain ⟨z, its, n, r, e⟩ := I.hok p _ h
  exact ⟨its, n, r, e, z⟩
/-- the list at p is written by an update of its object -/
theorem Inv.lstUpd {pins : List (Addr × Obj)} {σ : St} {H : Hp} {s : Shared} {p : Addr} {xs ys : List V} {its its' : List Value} {n n' : Nat} {f : Obj → Obj} (I : Inv X pins σ H s) (h : H p = some (.lst xs))
    (ho : s.heap.get? p = some { cls := .type "list", data := .seq its.toArray n }) (hf : f { cls := .type "list", data := .seq its.toArray n } = { cls := .type "list", data := .seq its'.toArray n' }) (r : Vals ys its') (hz : ys.length ≤ sizeLine) (t : Nat) :
    Inv X pins σ (upd H p (.lst ys)) { s with heap := s.heap.update p f, toks := t } := by
  have e : (s.heap.update p f).get? p = some { cls := .type "list", data := .seq its'.toArray n' } := by
    rw [Heap.get?_update_self f ho (by rw [hf] <;> rfl), hf]
  refine I.write (x := p) (e := p) (by rw [h]; trivial) (.inl rfl) (fun b u hb q => (Heap.get?_update_other _ _ (Ne.symm hb)).trans q) ⟨_, e⟩ ?_
  exact ⟨hz, its', n', r, e⟩
def rSetL : V → V → V → Hp → (Hp → Prop) → Prop := fun o i v H Q => ∃ p xs k j, o = .ref p ∧ i = .int k ∧ H p = some (.lst xs) ∧ ixN xs.length k = some j ∧ Q (upd H p (.lst (xs.set j v)))
theorem set_list : PSet X rSetL := by
  intro pins s σ H o i v ov iv u Q I ro ri rv h
  obtain ⟨p, xs, k, j, rfl, rfl, hp, hj, q⟩ := h
  cases ro
  obtain ⟨t, rfl⟩ := ri
  obtain ⟨its, n, r, ho, hz⟩ := I.lst hp
  obtain ⟨h1, h2, h3, h4⟩ := ixN_seq hj
  have hl := r.length
  have hn := line63
  have I' : Inv X pins σ (upd H p (.lst (xs.set j v))) { s with heap := s.heap.update p (Obj.mapSeq (·.setIfInBounds j u)) } :=
    I.lstUpd hp ho (mapSeq_set its n j u) (r.set rv j) (by rw [List.length_set]; exact hz) s.toks
  by_cases h0 : 0 ≤ k
  · have hk : k.toNat = j := by
      rw [seqIndex_of h0 h4] at h1
      exact Option.some.inj h1
    exact PySem.W.ki_setAt ho h0 (by omega) (by rw [List.size_toArray, ← hl]; exact h4) (by rw [hk]; exact ⟨_, I', q⟩)
  · have hk : (k + (its.toArray.size : Int)).toNat = j := by
      rw [seqIndex_neg (by omega) h3] at h1
      rw [List.size_toArray, ← hl]
      exact Option.some.inj h1
    exact PySem.W.ki_setBack ho (by omega) (by rw [List.size_toArray, ← hl]; exact h3) (by omega) (by rw [hk]; exact ⟨_, I', q⟩)
theorem slice_bounds (lo hi : Option Int) (n : Nat) : (sliceBounds lo hi none n).1 = ((HT.sIx n 0 lo : Nat) : Int) ∧ (sliceBounds lo hi none n).2.1 = ((HT.sIx n n hi : Nat) : Int) ∧ (sliceBounds lo hi none n).2.2 = 1 := by
  refine ⟨?_, ?_, rfl⟩
  · cases lo with
    | none => simp [sliceBounds, HT.sIx]
    | some i =>
      simp only [sliceBounds, HT.sIx, Option.getD_none, show (1 : Int) > 0 by decide, if_true]
      by_cases h : i < 0
      · simp only [h, if_true] <;> omega
      · simp only [h, if_false] <;> omega
  · cases hi with
    | none => simp [sliceBounds, HT.sIx]
    | some i =>
      simp only [sliceBounds, HT.sIx, Option.getD_none, show (1 : Int) > 0 by decide, if_true]
      by_cases h : i < 0
      · simp only [h, if_true] <;> omega
      · simp only [h, if_false] <;> omega
theorem slicePick_cut (its : List Value) (lo hi : Option Int) : slicePick its.toArray lo hi none = ((its.drop (HT.sIx its.length 0 lo)).take (HT.sIx its.length its.length hi - HT.sIx its.length 0 lo)).toArray := by
  obtain ⟨h1, h2, h3⟩ := slice_bounds lo hi its.toArray.size
  unfold slicePick
  rw [h1, h2, h3]
  simp only [sliceRange_one, pick_run, List.size_toArray] <;> rfl
/-- xs[lo:hi] of a list: a new list -/
def rSlL (K : PySem.W.Frag) : V → Option Int → Option Int → Hp → VK → Prop := fun x lo hi H Q => ∃ a xs, x = .ref a ∧ SqL K H a xs ∧ ∀ p, H p = none → Q (.ref p) (upd H p (.lst (cutV xs lo hi)))
theorem sl_list : SlR X (rSlL X.K) := by
  intro pins s σ H x v vl vu lo hi sl Q I rx hs pl pu h
  obtain ⟨a, xs, rfl, hx, q⟩ := h
  cases rx
  obtain ⟨its, r, ht, hz⟩ := I.list hx
  have hlen := r.length
  refine ⟨"list", _, slot_list_getitem.lookup, ht.isList.typeIs, ?_⟩
  refine wpAny_getItem_list_slice ht.isList hs pl pu .none (by simp) ?_ (by rw [List.size_toArray] <;> omega)
  rw [slicePick_cut, ← hlen]
  refine ⟨.ref s.heap.objs.size, _, I.laid (t' := s.toks) (o := .lst (cutV xs lo hi)) (fun b ob q => Heap.get?_push_of_some _ q) (Nat.le_refl _) ?_, rfl, q _ (I.hok.fresh (Nat.le_refl _))⟩
  exact ⟨Nat.le_trans (cutV_length xs lo hi) hz, _, 0, (r.drop (HT.sIx xs.length 0 lo)).take (HT.sIx xs.length xs.length hi - HT.sIx xs.length 0 lo), Heap.get?_push_size _ rfl⟩
theorem call_len_seq : CallR X (.builtin "len") (fun xs H Q => ∃ p ys, xs = [.ref p] ∧ (SqL X.K H p ys ∨ SqT X.K H p ys) ∧ Q (.int ys.length) H) := by
  intro pins s σ H xs us Q I r h
  obtain ⟨p, ys, rfl, hq, q⟩ := h
  obtain ⟨u, rfl, rx⟩ := vals1 r
  cases rx
  have hn := line63
  rcases hq with hq | hq
  · obtain ⟨its, r', pl, hz⟩ := I.list hq
    have hlen := r'.length
    exact Calls.call_len_list pl.isList (by simp only [List.size_toArray] <;> omega) ⟨.int ys.length, H, I.tok _, ⟨s.toks + 1, by rw [List.size_toArray, hlen]⟩, q⟩
  · obtain ⟨its, r', pl, hz⟩ := I.tuple hq
    have hlen := r'.length
    exact len_tuple pl (by simp only [List.size_toArray] <;> omega) ⟨.int ys.length, H, I.tok _, ⟨s.toks + 1, by rw [List.size_toArray, hlen]⟩, q⟩
theorem call_list_of : CallR X (.type "list") (fun xs H Q => ∃ p ys, xs = [.ref p] ∧ (SqL X.K H p ys ∨ SqT X.K H p ys) ∧ ∀ l, H l = none → Q (.ref l) (upd H l (.lst ys))) := by
  intro pins s σ H xs us Q I r h
  obtain ⟨p, ys, rfl, hq, q⟩ := h
  obtain ⟨u, rfl, rx⟩ := vals1 r
  cases rx
  have fin : ∀ (its : List Value), Vals ys its → ys.length ≤ sizeLine → ∀ (h' : Heap) (c' : Nat), (∀ b o', s.heap.get? b = some o' → h'.get? b = some o') →
      h'.get? s.heap.objs.size = some { cls := .type "list", dict := none, data := .seq its.toArray c', slots := #[] } → EP X pins σ Q (.ref s.heap.objs.size) { s with heap := h' } := fun its r' hz h' c' kp e =>
    ⟨.ref s.heap.objs.size, _, I.laid (t' := s.toks) kp (Nat.le_refl _) (show ObjOk X.prog X.w _ h' _ (.lst ys) from ⟨hz, its, c', r', e⟩), rfl, q _ (I.hok.fresh (Nat.le_refl _))⟩
  rcases hq with hq | hq
  · obtain ⟨its, r', pl, hz⟩ := I.list hq
    have hlen := r'.length
    obtain ⟨o, ho, hc, n, hd⟩ := pl.isList
    exact call_list_seq p (.inl rfl) ho hc hd (fun h' c' kp e => fin its r' hz h' c' kp e) (by simp only [List.size_toArray] <;> omega)
  · obtain ⟨its, r', pl, hz⟩ := I.tuple hq
    have hlen := r'.length
    obtain ⟨o, ho, hc, n, hd⟩ := pl
    exact call_list_seq p (.inr rfl) ho hc hd (fun h' c' kp e => fin its r' hz h' c' kp e) (by simp only [List.size_toArray] <;> omega)
/-- the value is of that builtin type -/
def tyV (K : PySem.W.Frag) (T : String) (x : V) (H : Hp) : Prop := match x with
  | .str _ => T = "str"
  | .int _ => T = "int"
  | .ref p => (T = "list" ∧ ∃ xs, SqL K H p xs) ∨ (T = "tuple" ∧ ∃ o, K.lookup p = some o ∧ o.cls = .type "tuple" ∧ o.dict = none) ∨
      (T = "dict" ∧ ((∃ kvs, H p = some (.dK kvs)) ∨ ∃ kvs, H p = some (.dT kvs))) ∨ (T = "set" ∧ ∃ S n, H p = some (.set S n))
  | _ => False
theorem tyV_is {pins : List (Addr × Obj)} {σ : St} {H : Hp} {s : Shared} {T : String} {x : V} {v : Value} (I : Inv X pins σ H s) (r : RelV x v) (ty : tyV X.K T x H) :
    s.TypeIs v T ∧ ∀ a, v = .ref a → ∃ ob, s.heap.get? a = some ob ∧ ob.dict = none := by
  cases x with
  | str z =>
    obtain ⟨t, rfl⟩ := r
    cases (show T = "str" from ty)
    exact ⟨typeIs_str s z t, fun _ e => nomatch e⟩
  | int i =>
    obtain ⟨t, rfl⟩ := r
    cases (show T = "int" from ty)
    exact ⟨typeIs_int s i t, fun _ e => nomatch e⟩
  | ref p =>
    cases r
    rcases ty with ⟨rfl, xs, hq⟩ | ⟨rfl, o, hk, hc, hd⟩ | ⟨rfl, hk⟩ | ⟨rfl, S, n, hk⟩
    · obtain ⟨its, _, pl, _⟩ := I.list hq
      refine ⟨pl.isList.typeIs, fun a e => ?_⟩
      cases e
      obtain ⟨o, n, e, c, hd, _⟩ := pl
      exact ⟨o, e, hd⟩
    · refine ⟨⟨o, I.kIn p o hk, hc⟩, fun a e => ?_⟩
      cases e
      exact ⟨o, I.kIn _ o hk, hd⟩
    · have z : ∃ o, s.heap.get? p = some o ∧ o.ExactDict := by
        rcases hk with ⟨kvs, hk⟩ | ⟨kvs, hk⟩
        · obtain ⟨_, _, _, _, o, _, _, e, ex, _⟩ := I.hok p _ hk
          exact ⟨o, e, ex⟩
        · obtain ⟨_, _, _, _, o, _, _, e, ex, _⟩ := I.hok p _ hk
          exact ⟨o, e, ex⟩
      obtain ⟨o, e, ex⟩ := z
      refine ⟨⟨o, e, ex.1⟩, fun a e2 => ?_⟩
      cases e2
      exact ⟨o, e, ex.2.1⟩
    · obtain ⟨o, _, _, _, e, ex, _⟩ := I.hok p _ hk
      refine ⟨⟨o, e, ex.1⟩, fun a e2 => ?_⟩
      cases e2
      exact ⟨o, e, ex.2.1⟩
  | _ => exact False.elim ty
def tBM0 (K : PySem.W.Frag) (T : String) (r : V → List V → Hp → VK → Prop) (to : TE) : TE := fun σ H Q => to σ H fun x H1 => tyV K T x H1 ∧ r x [] H1 Q
def tBM (K : PySem.W.Frag) (T : String) (r : V → List V → Hp → VK → Prop) (to : TE) (t : TA) : TE := fun σ H Q => to σ H fun x H1 => tyV K T x H1 ∧ t σ H1 fun xs H2 => r x xs H2 Q
variable {o e : Expr} {es : List Expr} {to : TE} {t : TA} {name : Str} {apos cpos : Pos} {T id : String} {r : V → List V → Hp → VK → Prop}
theorem pe_bm0 (pa : PlainAttrs T) (slot : Slot T name id) (hty : typeOf (.builtin id) = pure (.type "method_descriptor")) (hm : MtR X id r) (ho : PE X o to)
    (hbase : attributeBase o name X.env (eval o X.env) = eval o X.env := by rfl) (hline : (apos.endLine == cpos.line) = true := by rfl) : PE X (.Call (.Attribute o name apos) [] [] cpos) (tBM0 X.K T r to) := by
  intro pins s σ H Q I h
  refine wpAny_Call_method0_late hbase hline (thn (ho pins s σ H _ I h) fun v s1 ⟨x, H1, I1, r1, ty, q1⟩ => ?_)
  obtain ⟨h1, h2⟩ := tyV_is I1 r1 ty
  exact ⟨T, id, pa, slot, hty, h1, h2, Calls.callWith_builtin rfl (PySem.evalArgs_none (hm pins s1 σ H1 x [] v [] Q I1 r1 .nil q1))⟩
theorem pe_bm (pa : PlainAttrs T) (slot : Slot T name id) (hty : typeOf (.builtin id) = pure (.type "method_descriptor")) (hm : MtR X id r) (ho : PE X o to) (ha : PA X (e :: es) t)
    (hbase : attributeBase o name X.env (eval o X.env) = eval o X.env := by rfl)
    (hfew : ((backTo cpos (starEach (e :: es) X.env)).all (fun x => !x.1) && (backToKw cpos (keywordEach [] X.env)).all (fun x => x.1.isSome)
      && decide ((e :: es).length + ([] : List Keyword).length + (if ([] : List Keyword).isEmpty then 0 else 1) < 30)) = true := by rfl)
    (hline : (apos.endLine == cpos.line) = true := by rfl) (hs : starEach (e :: es) X.env = (false, eval e X.env) :: starEach es X.env := by rfl) (hplain : (backTo cpos (starEach es X.env)).any (·.1) = false := by rfl) :
    PE X (.Call (.Attribute o name apos) (e :: es) [] cpos) (tBM X.K T r to t) := by
  intro pins s σ H Q I h
  refine wpAny_Call_method_late hbase hfew hline rfl (thn (ho pins s σ H _ I h) fun v s1 ⟨x, H1, I1, r1, ty, q1⟩ => ?_)
  obtain ⟨h1, h2⟩ := tyV_is I1 r1 ty
  refine ⟨T, id, pa, slot, hty, h1, h2, ?_⟩
  have hA := ha cpos pins s1 σ H1 _ I1 q1
  rw [hs] at hA ⊢
  refine Calls.callWith_builtin (by show (false || (backTo cpos (starEach es X.env)).any (·.1)) = false; rw [hplain] <;> rfl) (Calls.evalArgs_plain ?_)
  exact thn hA fun us s2 ⟨vs, H2, I2, r2, q2⟩ => hm pins s2 σ H2 x vs v us Q I2 r1 r2 q2
end
end L2
namespace L2
open PySem PySem.Spec PyProof.Rows
def MtM (X : Cx) (id : String) (r : V → List V → Hp → VK → Prop) : Prop :=
  ∀ (pins : List (Addr × Obj)) (s : Shared) (σ : St) (H : Hp) (x : V) (xs : List V) (v : Value) (us : List Value) (Q : VK), Inv X pins σ H s → RelV x v → Vals xs us → r x xs H Q →
    wpAny (model X.prog X.w) X.A (call (.builtin id) (v :: us)) (EP X pins σ Q) X.xe s
theorem Vals.one : ∀ {x : V} {us : List Value}, Vals [x] us → ∃ u, us = [u] ∧ RelV x u
  | _, _, .cons r .nil => ⟨_, rfl, r⟩
theorem Vals.zero : ∀ {us : List Value}, Vals [] us → us = []
  | _, .nil => rfl
theorem Vals.dropLast {xs : List V} {us : List Value} (h : Vals xs us) : Vals xs.dropLast us.dropLast := by
  induction h with
  | nil => exact .nil
  | cons r t ih =>
    cases t with
    | nil => exact .nil
    | cons q t' => exact .cons r ih
theorem Vals.reverse {xs : List V} {us : List Value} (h : Vals xs us) : Vals xs.reverse us.reverse := by
  induction h with
  | nil => exact .nil
  | cons r t ih => rw [List.reverse_cons, List.reverse_cons]; exact Vals.append ih (.cons r .nil)
theorem erase_last {α : Type} (l : List α) : l.eraseIdx (l.length - 1) = l.dropLast := by
  induction l with
  | nil => rfl
  | cons a r ih =>
    cases r with
    | nil => rfl
    | cons b r =>
      have e : (a :: b :: r).length - 1 = ((b :: r).length - 1) + 1 := by
        have h1 : (a :: b :: r).length = r.length + 2 := rfl
        have h2 : (b :: r).length = r.length + 1 := rfl
        omega
      rw [e, List.eraseIdx_cons_succ, ih]
      all_goals rfl
section
variable {X : Cx} {pins : List (Addr × Obj)} {σ : St} {H : Hp} {s : Shared} {l b : Addr} {xs ys zs : List V}
theorem Inv.lset {its its' : List Value} {n : Nat} {f : Array Value → Array Value} {t' : Nat} (I : Inv X pins σ H s) (hH : H l = some (.lst xs))
    (e : s.heap.get? l = some { cls := .type "list", data := .seq its.toArray n }) (hf : f its.toArray = its'.toArray) (hv : Vals ys its') (hz : ys.length ≤ sizeLine) :
    Inv X pins σ (upd H l (.lst ys)) { s with heap := s.heap.update l (Obj.mapSeq f), toks := t' } := by
  have q := PySem.IsL.update e f
  rw [hf] at q
  refine I.write (x := l) (e := l) (by rw [hH]; exact trivial) (.inl rfl) (fun b' u hb hu => (Heap.get?_update_other s.heap (Obj.mapSeq f) (Ne.symm hb)).trans hu) ⟨_, q⟩ ?_
  exact ⟨hz, its', _, hv, q⟩
theorem Inv.lnew {its : List Value} {t' : Nat} (I : Inv X pins σ H s) (hv : Vals ys its) (hz : ys.length ≤ sizeLine) :
    Inv X pins σ (upd H s.heap.objs.size (.lst ys)) { s with heap := s.heap.push { cls := .type "list", data := .seq its.toArray }, toks := t' } :=
  I.laid (fun _ _ q => Heap.get?_push_of_some _ q) (Nat.le_refl _) ⟨hz, its, 0, hv, Heap.get?_push_size _ rfl⟩
theorem Inv.fresh (I : Inv X pins σ H s) : H s.heap.objs.size = none := I.hok.fresh (Nat.le_refl _)
theorem Inv.lstM (I : Inv X pins σ H s) (hH : H l = some (.lst xs)) : xs.length ≤ sizeLine ∧ ∃ (its : List Value) (n : Nat), Vals xs its ∧ xs.length = its.length ∧ s.heap.get? l = some { cls := .type "list", data := .seq its.toArray n } := by
  obtain ⟨z, its, n, r, e⟩ := I.hok l _ hH
  exact ⟨z, its, n, r, r.length, e⟩
theorem notLongL {n : Nat} (h : n ≤ sizeLine) : Builtin.List.listTooLong n = false := by
  unfold Builtin.List.listTooLong
  exact decide_eq_false (by omega)
end
section
variable {X : Cx}
def rAppend : V → List V → Hp → VK → Prop := fun x vs H Q => ∃ l xs y, x = .ref l ∧ vs = [y] ∧ H l = some (.lst xs) ∧ xs.length < sizeLine ∧ Q .non (upd H l (.lst (xs ++ [y])))
theorem mt_append : MtM X "list.append" rAppend := by
  intro pins s σ H x vs v us Q I rx rv h
  obtain ⟨l, xs, y, rfl, rfl, hH, hz, q⟩ := h
  cases rx
  obtain ⟨u, rfl, ru⟩ := rv.one
  obtain ⟨z, its, n, r, hl, e⟩ := I.lstM hH
  refine call_meets F.slot_list_append ⟨_, e, rfl⟩ F.entry_list_append (F.args_list_append_2 _ _) (PySem.list_append l its.toArray n u (by rw [List.size_toArray]; omega)) ⟨e, ?_⟩
  refine ⟨.non, _, I.lset (its' := its ++ [u]) hH e (by simp) (r.append (.cons ru .nil)) ?_, rfl, q⟩
  rw [List.length_append, List.length_singleton]
  omega
def rExtend : V → List V → Hp → VK → Prop := fun x vs H Q => ∃ l b xs zs, x = .ref l ∧ vs = [.ref b] ∧ H l = some (.lst xs) ∧ H b = some (.lst zs) ∧ xs.length + zs.length ≤ sizeLine ∧ Q .non (upd H l (.lst (xs ++ zs)))
theorem mt_extend : MtM X "list.extend" rExtend := by
  intro pins s σ H x vs v us Q I rx rv h
  obtain ⟨l, b, xs, zs, rfl, rfl, hH, hB, hz, q⟩ := h
  cases rx
  obtain ⟨u, rfl, ru⟩ := rv.one
  cases ru
  obtain ⟨z, its, n, r, hl, e⟩ := I.lstM hH
  obtain ⟨z2, its2, n2, r2, hl2, e2⟩ := I.lstM hB
  have hsz : its.toArray.size + its2.toArray.size ≤ sizeLine := by rw [List.size_toArray, List.size_toArray]; omega
  have hlong : ¬ (!its.toArray.isEmpty && Builtin.List.listTooLong (its.toArray.size + its2.toArray.size)) = true := by
    rw [notLongL hsz, Bool.and_false]
    exact Bool.false_ne_true
  refine call_meets F.slot_list_extend ⟨_, e, rfl⟩ F.entry_list_extend (F.args_list_extend_2 _ _)
    (AutoSeq1.list_extend_list_list_0 l its.toArray n b its2.toArray n2 hlong (by rw [List.size_toArray]; omega) (by omega)) ⟨e, e2, ?_⟩
  refine ⟨.non, _, I.lset (its' := its ++ its2) hH e (by simp) (r.append r2) ?_, rfl, q⟩
  rw [List.length_append]
  omega
def rPop : V → List V → Hp → VK → Prop := fun x vs H Q => ∃ l xs y, x = .ref l ∧ vs = [] ∧ H l = some (.lst xs) ∧ xs[xs.length - 1]? = some y ∧ Q y (upd H l (.lst xs.dropLast))
theorem mt_pop : MtM X "list.pop" rPop := by
  intro pins s σ H x vs v us Q I rx rv h
  obtain ⟨l, xs, y, rfl, rfl, hH, hy, q⟩ := h
  cases rx
  have hus := rv.zero
  subst hus
  obtain ⟨z, its, n, r, hl, e⟩ := I.lstM hH
  obtain ⟨u, hu, ru⟩ := r.get hy
  have hy' : its.toArray[its.toArray.size - 1]? = some u := by
    show its.toArray[its.length - 1]? = some u
    rw [← Array.getElem?_toList, ← hl]
    exact hu
  refine call_meets F.slot_list_pop ⟨_, e, rfl⟩ F.entry_list_pop (F.args_list_pop_1 _) (MeetsSeq.list_pop_last l its.toArray n u hy' (by rw [List.size_toArray]; omega)) ⟨e, ?_⟩
  refine ⟨y, _, I.lset (its' := its.dropLast) hH e ?_ r.dropLast ?_, ru, q⟩
  · show its.toArray.eraseIdxIfInBounds (its.toArray.size - 1) = its.dropLast.toArray
    rw [List.size_toArray, List.eraseIdxIfInBounds_toArray, erase_last]
  · rw [List.length_dropLast]
    omega
def rCat : R2 := fun x y H Q => ∃ l b xs zs, x = .ref l ∧ y = .ref b ∧ H l = some (.lst xs) ∧ H b = some (.lst zs) ∧ xs.length + zs.length ≤ sizeLine ∧ ∀ p, H p = none → Q (.ref p) (upd H p (.lst (xs ++ zs)))
theorem op_cat : OpR X (binaryOp .Add) rCat := by
  intro pins s σ H x y v u Q I rx ry h
  obtain ⟨l, b, xs, zs, rfl, rfl, hH, hB, hz, q⟩ := h
  cases rx
  cases ry
  obtain ⟨z, its, n, r, hl, e⟩ := I.lstM hH
  obtain ⟨z2, its2, n2, r2, hl2, e2⟩ := I.lstM hB
  refine PySem.P.add_list e e2 ?_ (by rw [List.size_toArray, List.size_toArray]; omega)
  have ea : its.toArray ++ its2.toArray = (its ++ its2).toArray := by simp
  rw [ea]
  exact ⟨.ref _, _, I.lnew (t' := s.toks) (r.append r2) (by rw [List.length_append]; omega), rfl, q _ I.fresh⟩
end
section
variable {prog : Program} {w : World} {A : Around} {E : Value → Shared → Prop} {s : Shared}
end
section
variable {X : Cx}
end
end L2
namespace L2
open PySem PySem.Spec PyProof.Rows
section
variable {prog : Program} {w : World} {A : Around} {E : Value → Shared → Prop} {s : Shared} {l : Addr} {its : List Value} {ns : List Int} {Q : Value → Shared → Prop}
end
section
variable {X : Cx}
end
section
variable {X : Cx}
end
section
variable {X : Cx}
end
section
variable {X : Cx}
end
mutual
inductive Dp (K : PySem.W.Frag) (H : Hp) : V → PyData → Prop
  | non : Dp K H .non .none
  | bl (b : Bool) : Dp K H (.bl b) (.bool b)
  | int (i : Int) : Dp K H (.int i) (.int i)
  | str (x : Str) : Dp K H (.str x) (.str x)
  | lst {a : Addr} {xs : List V} {ds : List PyData} : SqL K H a xs → DpAll K H xs ds → Dp K H (.ref a) (.list ds)
  | tup {a : Addr} {xs : List V} {ds : List PyData} : SqT K H a xs → DpAll K H xs ds → Dp K H (.ref a) (.tuple ds)
inductive DpAll (K : PySem.W.Frag) (H : Hp) : List V → List PyData → Prop
  | nil : DpAll K H [] []
  | cons {v : V} {vs : List V} {d : PyData} {ds : List PyData} : Dp K H v d → DpAll K H vs ds → DpAll K H (v :: vs) (d :: ds)
end
section
variable {X : Cx} {pins : List (Addr × Obj)} {σ : St} {H : Hp} {s : Shared}
mutual
theorem Dp.reads (I : Inv X pins σ H s) : ∀ (d : PyData) (v : V) (u : Value), Dp X.K H v d → RelV v u → ∃ as, Reads s.heap u d as
  | .none, _, _, h, r => by
    cases h
    cases r
    exact ⟨_, Reads.none⟩
  | .bool b, _, _, h, r => by
    cases h
    cases r
    exact ⟨_, Reads.bool b⟩
  | .int i, _, _, h, r => by
    cases h
    obtain ⟨t, rfl⟩ := r
    exact ⟨_, Reads.int i t⟩
  | .str x, _, _, h, r => by
    cases h
    obtain ⟨t, rfl⟩ := r
    exact ⟨_, Reads.str x t⟩
  | .list ds, _, _, h, r => by
    cases h with
    | lst hs ha =>
      cases r
      obtain ⟨its, rv, ⟨o, n, ho, hc, _, hd⟩, _⟩ := I.list hs
      obtain ⟨as, hr⟩ := Dp.readsAll I ds _ its ha rv
      exact ⟨_, Reads.list ho hc hd hr⟩
  | .tuple ds, _, _, h, r => by
    cases h with
    | tup hs ha =>
      cases r
      obtain ⟨its, rv, ⟨o, ho, hc, n, hd⟩, _⟩ := I.tuple hs
      obtain ⟨as, hr⟩ := Dp.readsAll I ds _ its ha rv
      exact ⟨_, Reads.tuple ho hc hd hr⟩
  | .dict _, _, _, h, _ => by cases h
theorem Dp.readsAll (I : Inv X pins σ H s) : ∀ (ds : List PyData) (vs : List V) (us : List Value), DpAll X.K H vs ds → Vals vs us → ∃ as, ReadsAll s.heap us ds as
  | [], _, _, h, r => by
    cases h
    cases r
    exact ⟨_, ReadsAll.nil⟩
  | d :: ds, _, _, h, r => by
    cases h with
    | cons h1 h2 =>
      cases r with
      | cons r1 r2 =>
        obtain ⟨as, q1⟩ := Dp.reads I d _ _ h1 r1
        obtain ⟨bs, q2⟩ := Dp.readsAll I ds _ _ h2 r2
        exact ⟨_, ReadsAll.cons q1 q2⟩
end
end
section
variable {X : Cx}
end
end L2
namespace L2
open PySem PySem.Spec PyProof.Rows
abbrev CellAt (h : Heap) (c : Addr) (v : Option Value) : Prop := h.IsCell c v
def relS (scope sc : Scope) : Scope :=
  { scope with names := scope.names.map fun (n, k) => if (k == .free && sc.kind == .function && sc.names.lookup n == some .cell) then (n, .cell) else (n, k) }
def cloFrom (cells : List (Str × Addr)) : List (Str × NameKind) → List (Str × Addr) → List (Str × Addr)
  | [], acc => acc
  | (n, k) :: r, acc => if k == .free then cloFrom cells r ((n, (cells.lookup n).getD 0) :: acc) else cloFrom cells r acc
theorem closure_loop (env : Env) (f : Str × NameKind → List (Str × Addr) → Sem (ForInStep (List (Str × Addr))))
    (hf : ∀ n k c, f (n, k) c = if k == .free then (do let a ← cellOf env n; pure (.yield ((n, a) :: c))) else pure (.yield c)) :
    ∀ (names : List (Str × NameKind)) (acc : List (Str × Addr)), (∀ y ∈ names, y.2 = .free → ∃ c, env.cells.lookup y.1 = some c) → forIn names acc f = pure (cloFrom env.cells names acc)
  | [], acc, _ => by rw [List.forIn_nil]; rfl
  | (n, k) :: r, acc, h => by
    rw [List.forIn_cons, hf]
    have ih := fun acc => closure_loop env f hf r acc fun y hy => h y (List.mem_cons_of_mem _ hy)
    unfold cloFrom
    by_cases hk : (k == NameKind.free) = true
    · rw [if_pos hk, if_pos hk]
      obtain ⟨c, hc⟩ := h (n, k) List.mem_cons_self (by simpa using hk)
      have e : cellOf env n = pure c := by unfold cellOf; rw [hc]
      rw [e]
      have e2 : (env.cells.lookup n).getD 0 = c := by rw [hc]; rfl
      rw [e2]
      exact ih _
    · rw [if_neg hk, if_neg hk]
      exact ih _
theorem closure_ok {scope : Scope} {env : Env} (h : ∀ y ∈ scope.names, y.2 = .free → ∃ c, env.cells.lookup y.1 = some c) : closureFor scope env = pure (cloFrom env.cells scope.names []) := by
  simp only [closureFor]
  rw [closure_loop env _ (fun n k c => rfl) scope.names [] h]
  rfl
theorem mem_lookup {α : Type} : ∀ {l : List (Str × α)} {n : Str} {c : α}, (n, c) ∈ l → ∃ c', l.lookup n = some c'
  | (k, v) :: r, n, c, h => by
    rw [List.lookup_cons]
    cases hb : n == k with
    | true => exact ⟨_, rfl⟩
    | false =>
      rcases List.mem_cons.mp h with e | h
      · cases e; simp at hb
      · exact mem_lookup h
theorem cloFrom_mem {cells : List (Str × Addr)} : ∀ {names : List (Str × NameKind)} {acc : List (Str × Addr)} {n : Str} {c : Addr}, (n, c) ∈ cloFrom cells names acc → (n, c) ∈ acc ∨ ((n, .free) ∈ names ∧ c = (cells.lookup n).getD 0)
  | [], _, _, _, h => .inl h
  | (m, k) :: r, acc, n, c, h => by
    unfold cloFrom at h
    split at h
    · rename_i hk
      have hk : k = .free := by simpa using hk
      rcases cloFrom_mem h with h | ⟨h1, h2⟩
      · rcases List.mem_cons.mp h with e | h
        · cases e; exact .inr ⟨hk ▸ List.mem_cons_self, rfl⟩
        · exact .inl h
      · exact .inr ⟨List.mem_cons_of_mem _ h1, h2⟩
    · rcases cloFrom_mem h with h | ⟨h1, h2⟩
      · exact .inl h
      · exact .inr ⟨List.mem_cons_of_mem _ h1, h2⟩
theorem cloFrom_acc {cells : List (Str × Addr)} : ∀ {names : List (Str × NameKind)} {acc : List (Str × Addr)} {p : Str × Addr}, p ∈ acc → p ∈ cloFrom cells names acc
  | [], _, _, h => h
  | (m, k) :: r, acc, p, h => by
    unfold cloFrom
    split
    · exact cloFrom_acc (List.mem_cons_of_mem _ h)
    · exact cloFrom_acc h
theorem cloFrom_has {cells : List (Str × Addr)} : ∀ {names : List (Str × NameKind)} {acc : List (Str × Addr)} {n : Str}, (n, .free) ∈ names → (n, (cells.lookup n).getD 0) ∈ cloFrom cells names acc
  | (m, k) :: r, acc, n, h => by
    unfold cloFrom
    rcases List.mem_cons.mp h with e | h
    · cases e
      exact cloFrom_acc List.mem_cons_self
    · split
      · exact cloFrom_has h
      · exact cloFrom_has h
theorem cells_mem : ∀ {names : List (Str × NameKind)} {h : Heap} {acc : List (Str × Addr)} {x : Str} {c : Addr}, (x, c) ∈ cellsFrom h.objs.size names acc →
    (x, c) ∈ acc ∨ ((x, .cell) ∈ names ∧ h.objs.size ≤ c ∧ CellAt (pushCells h names) c none)
  | [], _, _, _, _, h => .inl h
  | (n, k) :: r, h, acc, x, c, hm => by
    unfold cellsFrom at hm
    unfold pushCells
    split at hm
    · rename_i hk
      rw [if_pos hk]
      have hk : k = .cell := by simpa using hk
      rw [← Heap.size_push h { cls := .type "cell", data := .cell none }] at hm
      rcases cells_mem hm with hm | ⟨h1, h2, h3⟩
      · rcases List.mem_cons.mp hm with e | hm
        · cases e
          exact .inr ⟨hk ▸ List.mem_cons_self, Nat.le_refl _, _, pushCells_keeps r _ _ _ (Heap.get?_push_size _ rfl), rfl⟩
        · exact .inl hm
      · rw [Heap.size_push] at h2
        exact .inr ⟨List.mem_cons_of_mem _ h1, Nat.le_of_succ_le h2, h3⟩
    · rename_i hk
      rw [if_neg hk]
      rcases cells_mem hm with hm | ⟨h1, h2, h3⟩
      · exact .inl hm
      · exact .inr ⟨List.mem_cons_of_mem _ h1, h2, h3⟩
theorem cells_acc : ∀ {names : List (Str × NameKind)} {n : Nat} {acc : List (Str × Addr)} {p : Str × Addr}, p ∈ acc → p ∈ cellsFrom n names acc
  | [], _, _, _, h => h
  | (m, k) :: r, n, acc, p, h => by
    unfold cellsFrom
    split
    · exact cells_acc (List.mem_cons_of_mem _ h)
    · exact cells_acc h
theorem cells_has : ∀ {names : List (Str × NameKind)} {n : Nat} {acc : List (Str × Addr)} {x : Str}, (x, .cell) ∈ names → ∃ c, (x, c) ∈ cellsFrom n names acc
  | (m, k) :: r, n, acc, x, h => by
    unfold cellsFrom
    rcases List.mem_cons.mp h with e | h
    · cases e
      exact ⟨n, cells_acc List.mem_cons_self⟩
    · split
      · exact cells_has h
      · exact cells_has h
theorem cells_inj : ∀ {names : List (Str × NameKind)} {h : Heap} {acc : List (Str × Addr)} {x y : Str} {c : Addr}, (∀ p ∈ acc, p.2 < h.objs.size) → (∀ x y c, (x, c) ∈ acc → (y, c) ∈ acc → x = y) →
    (x, c) ∈ cellsFrom h.objs.size names acc → (y, c) ∈ cellsFrom h.objs.size names acc → x = y
  | [], _, _, _, _, _, _, hi, h1, h2 => hi _ _ _ h1 h2
  | (n, k) :: r, h, acc, x, y, c, hl, hi, h1, h2 => by
    unfold cellsFrom at h1 h2
    split at h1
    · rename_i hk
      rw [if_pos hk] at h2
      rw [← Heap.size_push h { cls := .type "cell", data := .cell none }] at h1 h2
      refine cells_inj (h := h.push _) (fun p hp => ?_) (fun x y c a b => ?_) h1 h2
      · rw [Heap.size_push]
        rcases List.mem_cons.mp hp with rfl | hp
        · exact Nat.lt_succ_self _
        · exact Nat.lt_succ_of_lt (hl p hp)
      · rcases List.mem_cons.mp a with e | a <;> rcases List.mem_cons.mp b with e' | b
        · cases e; cases e'; rfl
        · cases e; exact absurd (hl _ b) (Nat.lt_irrefl _)
        · cases e'; exact absurd (hl _ a) (Nat.lt_irrefl _)
        · exact hi _ _ _ a b
    · rename_i hk
      rw [if_neg hk] at h2
      exact cells_inj hl hi h1 h2
theorem newEnv_comp {M : Model} {A : Around} {E : Value → Shared → Prop} {s : Shared} {scope : Scope} {globals : Addr} {closure : List (Str × Addr)} {qual : Str} {func : Option Addr} {code : Value} {around : Env} {builtins : Addr} {Q : Env → Shared → Prop}
    (h : Q (newEnv scope s.heap.objs.size globals (cellsFrom (s.heap.objs.size + 1) scope.names closure) qual func code (some around) builtins)
      { s with heap := pushCells (s.heap.push { cls := .type "dict", data := .dict #[] }) scope.names }) :
    wpAny M A (newFunctionEnv scope globals closure [] qual func code (some around) builtins) Q E s := by
  simp only [newFunctionEnv, Option.isSome_some, if_true]
  refine wpAny_bind (wpAny_alloc ?_)
  refine wpAny_bind (wpAny_layCells _ (fun n k c => rfl) scope.names closure _ _ ?_)
  rw [show ({ s with heap := s.heap.push { cls := .type "dict", data := .dict #[] } } : Shared).heap.objs.size = s.heap.objs.size + 1 from Heap.size_push ..]
  rw [List.forIn_nil]
  exact wpAny_bind (wpAny_pure (wpAny_pure h))
/-- every name of the written scope, in the scope that runs -/
theorem lookup_relS {sc : Scope} : ∀ {names : List (Str × NameKind)} {x : Str} {k : NameKind},
    (names.map fun (n, k) => if (k == NameKind.free && sc.kind == .function && sc.names.lookup n == some .cell) then (n, NameKind.cell) else (n, k)).lookup x = some k →
    ∃ k', names.lookup x = some k' ∧ (k = k' ∨ (k' = .free ∧ k = .cell))
  | [], _, _, h => by simp at h
  | (n, k₀) :: r, x, k, h => by
    have ih := @lookup_relS sc r x k
    have h' : List.lookup x ((if (k₀ == NameKind.free && sc.kind == .function && sc.names.lookup n == some .cell) = true then (n, NameKind.cell) else (n, k₀)) :: (r.map _)) = some k := h
    cases hx : x == n with
    | true =>
      simp only [List.lookup_cons, hx]
      by_cases hc : (k₀ == NameKind.free && sc.kind == .function && sc.names.lookup n == some .cell) = true
      · rw [if_pos hc] at h'
        simp only [List.lookup_cons, hx] at h'
        cases h'
        simp only [Bool.and_eq_true, beq_iff_eq] at hc
        exact ⟨k₀, rfl, .inr ⟨hc.1.1, rfl⟩⟩
      · rw [if_neg hc] at h'
        simp only [List.lookup_cons, hx] at h'
        cases h'
        exact ⟨_, rfl, .inl rfl⟩
    | false =>
      simp only [List.lookup_cons, hx]
      by_cases hc : (k₀ == NameKind.free && sc.kind == .function && sc.names.lookup n == some .cell) = true
      · rw [if_pos hc] at h'
        simp only [List.lookup_cons, hx] at h'
        exact ih h'
      · rw [if_neg hc] at h'
        simp only [List.lookup_cons, hx] at h'
        exact ih h'
/-- the names of a comprehension's block: its own (with their places in N), or captured -/
structure BlkOk (N : List Str) (sc scope : Scope) (own : List (Str × Nat)) : Prop where
  kind : scope.kind = .function
  uniq : ∀ y ∈ scope.names, scope.names.lookup y.1 = some y.2
  ix : ∀ p ∈ own, N[p.2]? = some p.1
  free : ∀ y ∈ scope.names, y.2 = .free → sc.names.lookup y.1 = some .cell ∨ sc.names.lookup y.1 = some .free
  own : ∀ y ∈ scope.names, y.2 = .local ∨ y.2 = .cell → y.1 ∈ own.map (·.1) ∨ y.1 ∉ N
/-- the slots of the block's own names forgotten -/
def wipe (σ : St) : List Nat → St
  | [] => σ
  | v :: vs => (wipe σ vs).set v none
theorem wipe_length (σ : St) : ∀ vs : List Nat, (wipe σ vs).length = σ.length
  | [] => rfl
  | v :: vs => by unfold wipe; rw [List.length_set, wipe_length σ vs]
theorem wipe_some {σ : St} {i : Nat} {x : V} : ∀ {vs : List Nat}, (wipe σ vs)[i]? = some (some x) → σ[i]? = some (some x) ∧ i ∉ vs
  | [], h => ⟨h, by simp⟩
  | v :: vs, h => by
    unfold wipe at h
    by_cases hi : v = i
    · subst hi
      by_cases hv : v < (wipe σ vs).length
      · rw [List.getElem?_set_self hv] at h; cases h
      · rw [List.getElem?_eq_none (by simpa using hv)] at h; cases h
    · rw [List.getElem?_set_ne hi] at h
      obtain ⟨h1, h2⟩ := wipe_some h
      exact ⟨h1, by simp only [List.mem_cons, not_or]; exact ⟨fun e => hi e.symm, h2⟩⟩
/-- the context of a block that starts at s, its iterator's objects at fp -/
abbrev Cx.blk (X : Cx) (s : Shared) (H : Hp) (scope : Scope) (cenv : Env) (fp : List Addr) : Cx := { X with s_0 := s, H_0 := H, env := cenv, outer := X.stack, ex := fp, fn := fun x => scope.names.lookup x == some .cell, pn := [], xe := fun _ _ => False }
section
variable {X : Cx} {pins : List (Addr × Obj)} {σ : St} {H : Hp} {s : Shared}
theorem block_start {scope : Scope} {own : List (Str × Nat)} {fp : List Addr} (I : Inv X pins σ H s) (ok : BlkOk X.N X.env.scope scope own) (hN : X.N.Nodup) (hfp : ∀ b ∈ fp, FpOk X pins H b ∧ b < s.heap.objs.size) :
    Inv (X.blk s H scope (compEnvC scope (cellsFrom (s.heap.objs.size + 1) scope.names (cloFrom X.env.cells scope.names [])) s.heap.objs.size X.env) fp) [] (wipe σ (own.map (·.2))) H { s with heap := pushCells (s.heap.push { cls := .type "dict", data := .dict #[] }) scope.names } := by
  have hfree : ∀ y ∈ scope.names, y.2 = .free → ∃ c, X.env.cells.lookup y.1 = some c := fun y hy e => by
    rcases ok.free y hy e with k | k
    · exact I.ok.has _ (.inl k)
    · exact I.ok.has _ (.inr k)
  generalize hcenv : compEnvC scope (cellsFrom (s.heap.objs.size + 1) scope.names (cloFrom X.env.cells scope.names [])) s.heap.objs.size X.env = cenv
  have kp : ∀ b o, s.heap.get? b = some o → (pushCells (s.heap.push { cls := .type "dict", data := .dict #[] }) scope.names).get? b = some o := fun b o e => pushCells_keeps _ _ _ _ (Heap.get?_push_of_some _ e)
  have hL : cenv.locals = s.heap.objs.size := by rw [← hcenv]; rfl
  have hcl : cenv.cells = cellsFrom (s.heap.objs.size + 1) scope.names (cloFrom X.env.cells scope.names []) := by rw [← hcenv]; rfl
  have hsc : cenv.scope = relS scope X.env.scope := by rw [← hcenv]; rfl
  rw [← Heap.size_push s.heap { cls := .type "dict", data := .dict #[] }] at hcl
  have cm : ∀ {y c}, (y, c) ∈ cloFrom X.env.cells scope.names [] → X.env.cells.lookup y = some c ∧ c < s.heap.objs.size := fun {y c} hm => by
    rcases cloFrom_mem hm with hm | ⟨h1, rfl⟩
    · cases hm
    · obtain ⟨c, hc⟩ := hfree _ h1 rfl
      rw [hc]
      obtain ⟨w, z⟩ := I.cell _ _ hc
      exact ⟨rfl, z.lt⟩
  have mem : ∀ {y c}, cenv.cells.lookup y = some c → (X.env.cells.lookup y = some c ∧ c < s.heap.objs.size) ∨ (s.heap.objs.size + 1 ≤ c ∧ CellAt (pushCells (s.heap.push { cls := .type "dict", data := .dict #[] }) scope.names) c none) := fun {y c} e => by
    rw [hcl] at e
    rcases cells_mem (PySem.mem_of_lookup e) with hm | ⟨_, h2, h3⟩
    · exact .inl (cm hm)
    · rw [Heap.size_push] at h2; exact .inr ⟨h2, h3⟩
  have look : ∀ {y}, scope.names.lookup y = some .free → ∃ c, cenv.cells.lookup y = some c ∧ X.env.cells.lookup y = some c := fun {y} hl => by
    have hy : (y, NameKind.free) ∈ scope.names := PySem.mem_of_lookup hl
    obtain ⟨c', e'⟩ := mem_lookup (cells_acc (names := scope.names) (n := (s.heap.push { cls := .type "dict", data := .dict #[] }).objs.size) (cloFrom_has (cells := X.env.cells) (acc := []) hy))
    rw [← hcl] at e'
    refine ⟨c', e', ?_⟩
    rw [hcl] at e'
    rcases cells_mem (PySem.mem_of_lookup e') with hm | ⟨h1, _, _⟩
    · exact (cm hm).1
    · have := ok.uniq _ h1
      rw [hl] at this; cases this
  have okB : (X.blk s H scope cenv fp).Ok := by
    refine ⟨I.ok.mod, by show cenv.scope.kind = _; rw [hsc]; exact ok.kind, by show cenv.globals = _; rw [← hcenv]; exact I.ok.glob, by show cenv.builtins = _; rw [← hcenv]; exact I.ok.blt, by show s.heap.objs.size ≤ cenv.locals; rw [hL]; exact Nat.le_refl _,
      fun y z c e1 e2 => ?_, fun y hy => ?_, fun y c z e => ?_, I.ok.hd, I.ok.frames, .inl rfl, fun b hb => ⟨?_, fun y c e z => ?_⟩, I.bs, Nat.le_trans I.ok.bsz I.sz, fun b o e hb => ?_, fun b hb z => ?_, I.stack, I.stkFree⟩
    · have e1 : cenv.cells.lookup y = some c := e1
      have e2 : cenv.cells.lookup z = some c := e2
      rw [hcl] at e1 e2
      refine cells_inj (fun p hp => ?_) (fun y z c a b => I.ok.inj y z c (cm a).1 (cm b).1) (PySem.mem_of_lookup e1) (PySem.mem_of_lookup e2)
      rw [Heap.size_push]
      exact Nat.lt_succ_of_lt (cm (y := p.1) (c := p.2) hp).2
    · show ∃ c, cenv.cells.lookup y = some c
      have key : ∀ k, cenv.kindOf y = some k → (k = .cell ∨ k = .free) → ∃ c, cenv.cells.lookup y = some c := fun k hk hk' => by
        unfold Env.kindOf at hk
        rw [hsc] at hk
        obtain ⟨k', e, r⟩ := lookup_relS hk
        have : k' = .cell ∨ k' = .free := by
          rcases r with rfl | ⟨rfl, _⟩
          · exact hk'
          · exact .inr rfl
        rcases this with rfl | rfl
        · obtain ⟨c, hm⟩ := cells_has (n := (s.heap.push { cls := .type "dict", data := .dict #[] }).objs.size) (acc := cloFrom X.env.cells scope.names []) (PySem.mem_of_lookup e)
          obtain ⟨c', e'⟩ := mem_lookup hm
          exact ⟨c', by rw [hcl]; exact e'⟩
        · obtain ⟨c, h1, _⟩ := look e
          exact ⟨c, h1⟩
      rcases hy with hy | hy
      · exact key _ hy (.inl rfl)
      · exact key _ hy (.inr rfl)
    · have z : (scope.names.lookup y == some NameKind.cell) = true := z
      have z : scope.names.lookup y = some .cell := by simpa using z
      have e : cenv.cells.lookup y = some c := e
      rw [hcl] at e
      rcases cells_mem (PySem.mem_of_lookup e) with hm | ⟨_, h2, _⟩
      · rcases cloFrom_mem hm with hm | ⟨h1, _⟩
        · cases hm
        · have q := ok.uniq _ h1
          rw [z] at q; cases q
      · rw [Heap.size_push] at h2
        exact Nat.le_of_succ_le h2
    · show b ≠ cenv.locals
      rw [hL]; exact Nat.ne_of_lt (hfp b hb).2
    · have e : cenv.cells.lookup y = some c := e
      rcases mem e with ⟨h1, _⟩ | ⟨h1, _⟩
      · exact (hfp b hb).1.2.2.2.2.1 y c h1 z
      · have h2 : s.heap.objs.size + 1 ≤ b := by rw [← z]; exact h1
        exact absurd (Nat.lt_of_lt_of_le (hfp b hb).2 (Nat.le_of_succ_le h2)) (Nat.lt_irrefl _)
    · rcases (hfp b hb).1.2.2.2.1 with z | z
      · exact I.ok.noex b o e z
      · exact absurd (Nat.lt_of_lt_of_le (Heap.lt_size e) (Nat.le_trans I.ok.bsz z)) (Nat.lt_irrefl _)
    · rcases List.mem_cons.mp (I.stkSub b z) with z | z
      · exact (hfp b hb).1.2.1 z
      · exact (hfp b hb).1.2.2.1 z
  refine ⟨okB, rfl, I.bare, Un.kept kp, ⟨fun _ => none, ?_, fun i y av e1 e2 e3 => ?_⟩, fun y c e => ?_, ?_, fun y c e => ?_, fun p hp => ?_, I.hok.kept kp, by rw [wipe_length]; exact I.len⟩
  · show Heap.Ns _ cenv.locals _
    rw [hL]
    exact Heap.Ns.keeps (Heap.Ns.new ..) fun b o e => pushCells_keeps _ _ _ _ e
  · obtain ⟨e2, hne⟩ := wipe_some e2
    have hfr : scope.names.lookup y = some .free ∧ (cenv.kindOf y = some .cell ∨ cenv.kindOf y = some .free) := by
      have key : ∀ k, cenv.scope.names.lookup y = some k → k = .local ∨ k = .cell ∨ k = .free → scope.names.lookup y = some .free ∧ (cenv.kindOf y = some .cell ∨ cenv.kindOf y = some .free) := fun k hk hk' => by
        have hk0 := hk
        rw [hsc] at hk
        obtain ⟨k', e, r⟩ := lookup_relS hk
        have no : ¬ (k' = .local ∨ k' = .cell) := fun hh => by
          rcases ok.own _ (PySem.mem_of_lookup e) hh with e' | e'
          · obtain ⟨p, hp, hpy⟩ := List.mem_map.mp e'
            have e3 := ok.ix p hp
            have : p.1 = y := hpy
            rw [this] at e3
            exact hne (List.mem_map.mpr ⟨p, hp, nodup_ix hN e3 e1⟩)
          · exact e' (List.mem_of_getElem? e1)
        rcases r with rfl | ⟨rfl, rfl⟩
        · rcases hk' with rfl | rfl | rfl
          · exact absurd (.inl rfl) no
          · exact absurd (.inr rfl) no
          · exact ⟨e, .inr hk0⟩
        · exact ⟨e, .inl hk0⟩
      have e3 : Vis cenv.scope y := e3
      rcases e3 with e3 | e3 | e3
      · exact key _ e3 (.inl rfl)
      · exact key _ e3 (.inr (.inl rfl))
      · exact key _ e3 (.inr (.inr rfl))
    obtain ⟨m, hn, hl⟩ := I.loc
    have hvis : Vis X.env.scope y := (ok.free _ (PySem.mem_of_lookup hfr.1) rfl).elim (fun k => .inr (.inl k)) (fun k => .inr (.inr k))
    obtain ⟨w, r, q⟩ := hl i y av e1 e2 hvis
    refine ⟨w, r, .inr ⟨hfr.2, ?_⟩⟩
    obtain ⟨c, h1, h2⟩ := look hfr.1
    rcases q with ⟨k, _⟩ | ⟨_, c', e', z⟩
    · have k : X.env.scope.names.lookup y = some .local := k
      rcases ok.free _ (PySem.mem_of_lookup hfr.1) rfl with k' | k' <;> rw [show X.env.scope.names.lookup y = _ from k'] at k <;> cases k
    · rw [h2] at e'; cases e'
      exact ⟨c, h1, z.keeps kp⟩
  · have e : cenv.cells.lookup y = some c := e
    rcases mem e with ⟨h1, _⟩ | ⟨_, z⟩
    · obtain ⟨w, z⟩ := I.cell y c h1
      exact ⟨w, z.keeps kp⟩
    · exact ⟨_, z⟩
  · show H cenv.locals = none
    rw [hL]; exact I.hok.fresh (Nat.le_refl _)
  · have e : cenv.cells.lookup y = some c := e
    rcases mem e with ⟨h1, _⟩ | ⟨h1, _⟩
    · exact I.freeC y c h1
    · exact I.hok.fresh (Nat.le_of_succ_le h1)
  · exact absurd (show p ∈ ([] : List (Addr × Obj)) ++ [] from hp) (by simp)
/-- an item appended to a tracked list -/
theorem app_ok {E : Value → Shared → Prop} {D : Addr} {xs : List V} {y : V} {v : Value} {Q : Value → Shared → Prop} (I : Inv X pins σ H s) (hD : H D = some (.lst xs)) (hz : xs.length < sizeLine) (r : RelV y v)
    (h : ∀ s', Inv X pins σ (upd H D (.lst (xs ++ [y]))) s' → Q .none s') : wpAny (model X.prog X.w) X.A (call (.builtin "list.append") [.ref D, v]) Q E s := by
  obtain ⟨hz', its, n, ri, e⟩ := I.hok D _ hD
  have hl := ri.length
  refine append_at (hsz := by rw [List.size_toArray]; omega) e fun h' sb ho' => ?_
  refine h { s with heap := h' } (I.write (t' := s.toks) (by rw [hD]; trivial) (.inl rfl) (fun b u hb q => (sb.2 b hb).trans q) ⟨_, ho'⟩ ⟨by rw [List.length_append]; exact hz, its ++ [v], n + 1, ri.append (.cons r .nil), ?_⟩)
  rw [ho']
  simp
/-- a clause's tests -/
def PTs (X : Cx) (ifs : List Expr) (t : TT) : Prop :=
  ∀ (pins : List (Addr × Obj)) (s : Shared) (σ : St) (H : Hp) (Q : Bool → Hp → Prop), Inv X pins σ H s → t σ H Q →
    wpAny (model X.prog X.w) X.A (forIn ifs true fun c r => if r = true then do let ok ← isTrue c X.env (eval c X.env); pure (ForInStep.yield ok) else pure (ForInStep.yield r)) (TP X pins σ Q) X.xe s
def tYes : TT := fun _ H Q => Q true H
theorem pts_nil : PTs X [] tYes := fun _ _ _ H _ I h => wpAny_tests_nil ⟨H, I, h⟩
theorem pts_one {c : Expr} {t : TT} (h : PT X c t) : PTs X [c] t := fun pins s σ H Q I hw => wpAny_tests_one (h pins s σ H Q I hw)
end
theorem thnF {α : Type} {t : Sem α} {Q Q' : α → Shared → Prop} {M : Model} {A : Around} {E : Value → Shared → Prop} {s : Shared} (h : wpAny M A t Q (fun _ _ => False) s) (hQ : ∀ a s, Q a s → Q' a s) : wpAny M A t Q' E s := wpAny_mono h hQ fun _ _ z => False.elim z
/-- the loop of a list comprehension's block, the target of any form (codeAny_compLoop_tests asks a target that no tuple goes to; statement and proof follow it, PyProof/CompMap.lean:41-61, with the step letOwnedTupleGo kept) -/
theorem compLoop_any {prog : Program} {w : World} {A : Around} {R : Result → Shared → Prop} {s : Shared} {elt target iter : Expr} {ifs : List Expr} {scope : Scope} {pos : Pos} {it acc : Value} {env : Env} (I : Nat → Shared → Prop)
    (turn : ∀ n s, I n s → wpAny (model prog w) A (pyNext it) (fun r s₁ => match r with
      | none => R (.ok .next) s₁
      | some v => wpAny (model prog w) A (letOwnedTupleGo target it v) (fun _ s₁' => wpAny (model prog w) A (assign target env v) (fun _ s₂ =>
          wpAny (model prog w) A (forIn ifs true fun c r => if r = true then do let ok ← isTrue c env (eval c env); pure (ForInStep.yield ok) else pure (ForInStep.yield r)) (fun ok s₃ =>
            if ok = true then wpAny (model prog w) A (eval elt env) (fun x s₄ =>
              wpAny (model prog w) A (call (.builtin "list.append") [acc, x]) (fun _ s₅ => ∃ m, m < n ∧ I m s₅) (notedBy (model prog w) A env fun e s' => R (.error e) s') s₄) (notedBy (model prog w) A env fun e s' => R (.error e) s') s₃
            else ∃ m, m < n ∧ I m s₃) (notedBy (model prog w) A env fun e s' => R (.error e) s') s₂) (notedBy (model prog w) A env fun e s' => R (.error e) s') s₁') (notedBy (model prog w) A env fun e s' => R (.error e) s') s₁) (notedBy (model prog w) A env fun e s' => R (.error e) s') s)
    (n : Nat) (h : I n s) :
    codeAny (model prog w) A (.compLoop (.ListComp elt [⟨target, iter, ifs, 0⟩] scope pos) 0 it acc env) R s := by
  refine codeAny_loop rfl I (fun n s hI => ?_) n h
  show wpAny _ A ((compTurn (.ListComp elt [⟨target, iter, ifs, 0⟩] scope pos) 0 it acc env).onRaise (fun x => do noteFrame x env; theTreesLotGoes x)) _ _ s
  refine wpAny_noted ?_
  rw [compTurn_list]
  refine wpAny_bind (wpAny_standAt (wpAny_bind (wpAny_mono (turn n s hI) (fun r s₁ h₁ => ?_) fun _ _ h' => h')))
  cases r with
  | none => exact wpAny_pure h₁
  | some v =>
    refine wpAny_bind (wpAny_mono h₁ (fun _ s₁' h₁' => ?_) fun _ _ h' => h')
    refine wpAny_bind (wpAny_mono h₁' (fun _ s₂ h₂ => wpAny_bind (wpAny_mono h₂ (fun ok s₃ h₃ => ?_) fun _ _ h' => h')) fun _ _ h' => h')
    cases ok with
    | false => exact wpAny_pure ⟨rfl, h₃⟩
    | true =>
      exact wpAny_bind (wpAny_bind (wpAny_mono h₃ (fun x s₄ h₄ => wpAny_bind (wpAny_mono h₄ (fun _ s₅ h₅ => wpAny_pure (wpAny_pure ⟨rfl, h₅⟩)) fun _ _ h' => h')) fun _ _ h' => h'))
section
variable {X : Cx}
/-- [elt for target in iter if ..]: D the new list; W by the turn and a measure, Nx what a turn is to reach -/
def tLc (wi : TI) (g : TG) (tt : TT) (te : TE) (vs : List Nat) : TE := fun σ H Q => wi σ H fun J H1 => ∀ D, H1 D = none → ∃ W : Nat → Nat → Hp → Prop, (∃ m, W 0 m (upd H1 D (.lst []))) ∧ ∀ i m H, W i m H →
  (J.stop i H ∧ Q (.ref D) H) ∨ (J.go i H ∧ ∃ Nx : Hp → Prop, (∀ H', Nx H' → ∃ m', m' < m ∧ W (i + 1) m' H') ∧ ∀ x H', J.yld i H x H' → g x (wipe σ vs) H' fun σ2 H2 => wipe σ2 vs = wipe σ vs ∧ tt σ2 H2 fun b H3 =>
    if b = true then te σ2 H3 fun y H4 => ∃ acc, H4 D = some (.lst acc) ∧ acc.length < sizeLine ∧ Nx (upd H4 D (.lst (acc ++ [y]))) else Nx H3)
theorem lc_core {pins : List (Addr × Obj)} {s : Shared} {σ : St} {H : Hp} {Q : VK} {elt tg iter : Expr} {ifs : List Expr} {scope : Scope} {own : List (Str × Nat)} {pos pos' : Pos} {wi : TI} {g : TG} {tt : TT} {te : TE} {use : Option (Value → Sem Unit)} {Qf : Value → Shared → Prop}
    (hc : X.calm = true) (hN : X.N.Nodup) (I : Inv X pins σ H s) (hi : PI X tg iter wi) (ok : BlkOk X.N X.env.scope scope own)
    (hg : ∀ (s : Shared) (H : Hp) (C : Addr) (cl : List (Str × Addr)) (fp : List Addr), PG (X.blk s H scope (compEnvC scope cl C X.env) fp) tg g) (ht : ∀ (s : Shared) (H : Hp) (C : Addr) (cl : List (Str × Addr)) (fp : List Addr), PTs (X.blk s H scope (compEnvC scope cl C X.env) fp) ifs tt)
    (he : ∀ (s : Shared) (H : Hp) (C : Addr) (cl : List (Str × Addr)) (fp : List Addr), PE (X.blk s H scope (compEnvC scope cl C X.env) fp) elt te) (hs : ∀ x, foldedSetIterable iter X.env x = pure x)
    (h : tLc wi g tt te (own.map (·.2)) σ H Q)
    (hRR : ∀ D C s' m H', Inv X pins σ H' s' → Q (.ref D) H' → s'.heap.Ns C m → FpOk X pins H' C → compPost (model X.prog X.w) X.A X.xe use Qf (.ref D) C (.ok .next) s') :
    wpAny (model X.prog X.w) X.A (comprehension (.ListComp elt [⟨tg, iter, ifs, 0⟩] scope pos) scope X.env pos' (newList []) false (eval iter X.env) use) Qf X.xe s := by
  have hfree : ∀ y ∈ scope.names, y.2 = .free → ∃ c, X.env.cells.lookup y.1 = some c := fun y hy e => by
    rcases ok.free y hy e with k | k
    · exact I.ok.has _ (.inl k)
    · exact I.ok.has _ (.inr k)
  refine wpAny_comprehension_free (use := use) rfl hs (closure_ok hfree) ok.kind (fun y hy e => by rw [ok.uniq y hy, e])
    (thn (hi pins s σ H _ I h) fun xv s1 hx => thn hx fun itv s2 h2 => ?_)
  obtain ⟨it, fp, tn, J, H2, e, I2, T, st2, f2, q⟩ := h2
  subst e
  refine wpAny_newObj_type (newEnv_comp ?_) (by show 0 ≤ sizeLine; decide)
  generalize hD : s2.heap.objs.size = D
  have hDn : H2 D = none := I2.hok.fresh (Nat.le_of_eq hD)
  obtain ⟨W, ⟨m0, w0⟩, turn⟩ := q D hDn
  -- the new list
  generalize hs3 : ({ s2 with heap := s2.heap.push { cls := .type "list", data := .seq ([] : List Value).toArray } } : Shared) = s3
  have I3 : Inv X pins σ (upd H2 D (.lst [])) s3 := by
    rw [← hs3]
    refine I2.laid (t' := s2.toks) (fun b o e => Heap.get?_push_of_some _ e) (Nat.le_of_eq hD) ⟨Nat.zero_le _, [], 0, .nil, ?_⟩
    rw [← hD]
    exact Heap.get?_push_size _ rfl
  have h3 : s3.heap = s2.heap.push { cls := .type "list", data := .seq ([] : List Value).toArray } := by rw [← hs3]
  have sz : ∀ b ∈ fp, b < s2.heap.objs.size := fun b hb => by
    obtain ⟨o, e, _⟩ := T.obj _ _ st2 b hb
    exact Heap.lt_size e
  have f3 : ∀ b ∈ fp, FpOk X pins (upd H2 D (.lst [])) b ∧ b < s3.heap.objs.size := fun b hb => by
    have hlt := sz b hb
    refine ⟨⟨?_, (f2 b hb).2⟩, by rw [h3, Heap.size_push]; exact Nat.lt_succ_of_lt hlt⟩
    rw [upd_ne (by rw [← hD]; exact Nat.ne_of_lt hlt)]
    exact (f2 b hb).1
  have st3 : tn 0 s3.heap := T.keep _ _ _ st2 fun b _ o e => by rw [h3]; exact Heap.get?_push_of_some _ e
  have I4 := block_start I3 ok hN f3
  have pg := hg s3 (upd H2 D (.lst [])) s3.heap.objs.size (cellsFrom (s3.heap.objs.size + 1) scope.names (cloFrom X.env.cells scope.names [])) fp
  have pt := ht s3 (upd H2 D (.lst [])) s3.heap.objs.size (cellsFrom (s3.heap.objs.size + 1) scope.names (cloFrom X.env.cells scope.names [])) fp
  have pe := he s3 (upd H2 D (.lst [])) s3.heap.objs.size (cellsFrom (s3.heap.objs.size + 1) scope.names (cloFrom X.env.cells scope.names [])) fp
  show codeAny _ _ (.compStart (.ListComp elt [⟨tg, iter, ifs, 0⟩] scope pos) 0 (.ref it) (.ref D) (compEnvC scope (cellsFrom (s3.heap.objs.size + 1) scope.names (cloFrom X.env.cells scope.names [])) s3.heap.objs.size X.env)) (compPost (model X.prog X.w) X.A X.xe use Qf (.ref D) s3.heap.objs.size) { s3 with heap := pushCells (s3.heap.push { cls := .type "dict", data := .dict #[] }) scope.names }
  have nfp : ∀ b ∈ fp, (upd H2 D (.lst [])) b = none := fun b hb => (f3 b hb).1.1
  generalize hce : compEnvC scope (cellsFrom (s3.heap.objs.size + 1) scope.names (cloFrom X.env.cells scope.names [])) s3.heap.objs.size X.env = ce at I4 pg pt pe ⊢
  have cL : ce.locals = s3.heap.objs.size := by subst hce; rfl
  generalize hH3 : upd H2 D (.lst []) = H3 at I3 I4 pg pt pe w0 nfp f3
  generalize hs4 : ({ s3 with heap := pushCells (s3.heap.push { cls := .type "dict", data := .dict #[] }) scope.names } : Shared) = s4 at I4 ⊢
  have st4 : tn 0 s4.heap := T.keep _ _ _ st3 fun b _ o e => by rw [← hs4]; exact pushCells_keeps _ _ _ _ (Heap.get?_push_of_some _ e)
  have stat : ∀ {σ' : St} {H' : Hp} {s' : Shared}, Inv (X.blk s3 H3 scope ce fp) [] σ' H' s' → (∀ b ∈ fp, H' b = none) → ∀ b ∈ fp, FpOk (X.blk s3 H3 scope ce fp) [] H' b := fun {σ' H' s'} I' hn b hb =>
    ⟨hn b hb, (I'.ok.exf b hb).1, I'.ok.exfs b hb, .inl hb, fun x c e => (I'.ok.exf b hb).2 x c e, fun p hp => absurd (show p ∈ ([] : List (Addr × Obj)) ++ [] from hp) (by simp)⟩
  have loop : codeAny (model X.prog X.w) X.A (.compLoop (.ListComp elt [⟨tg, iter, ifs, 0⟩] scope pos) 0 (.ref it) (.ref D) ce) (compPost (model X.prog X.w) X.A X.xe use Qf (.ref D) s3.heap.objs.size) s4 := by
    refine compLoop_any (fun n s' => ∃ i H', Inv (X.blk s3 H3 scope ce fp) [] (wipe σ (own.map (·.2))) H' s' ∧ tn i s'.heap ∧ (∀ b ∈ fp, H' b = none) ∧ W i n H') ?_ m0 ⟨0, H3, I4, st4, nfp, w0⟩
    rintro n s5 ⟨i, H5, I5, st5, n5, w5⟩
    rcases turn i n H5 w5 with ⟨stop, qq⟩ | ⟨go, Nx, hNx, step⟩
    · have td := T.done (X.blk s3 H3 scope ce fp) rfl rfl rfl hc i [] s5 _ H5 (fun _ _ => False) I5 (stat I5 n5) st5 stop
      refine thnF td fun r s6 ⟨hr, I6⟩ => ?_
      subst hr
      -- back in the def's context
      have I7 : Inv X pins σ H5 s6 := I3.call' (ch := fp) I6.os I6.base I6.hok I6.bare fun b hb => ⟨(f3 b hb).1.2.2.2.1, (f3 b hb).1.2.1, (f3 b hb).1.2.2.2.2.1, (f3 b hb).1.2.2.2.2.2⟩
      have nC : H5 s3.heap.objs.size = none := by
        have z : H5 ce.locals = none := I6.free
        rw [cL] at z
        exact z
      obtain ⟨m, hn, _⟩ := I6.loc
      have hn : s6.heap.Ns ce.locals m := hn
      rw [cL] at hn
      exact hRR D s3.heap.objs.size s6 m H5 I7 qq hn (I3.fpOk (Nat.le_refl _) nC)
    · have ti := T.item (X.blk s3 H3 scope ce fp) rfl rfl rfl hc i [] s5 _ H5 (fun _ _ => False) I5 (stat I5 n5) st5 go
      refine thnF ti fun r s6 ⟨u, hr, h6⟩ => ?_
      subst hr
      refine thnF h6 fun _ s7 ⟨x, H7, I7, r7, y7, st7, n7⟩ => ?_
      have I7' := I7.pinned (stat I7 n7) (T.obj _ _ st7)
      refine thnF (pg _ s7 _ H7 x u _ I7' r7 (step x H7 y7)) fun _ s8 ⟨σ8, H8, I8, hw8, q8⟩ => ?_
      refine thnF (pt _ s8 σ8 H8 _ I8 q8) fun b s9 ⟨H9, I9, q9⟩ => ?_
      -- the turn's end
      have fin : ∀ {s' : Shared} {H' : Hp}, Inv (X.blk s3 H3 scope ce fp) ([] ++ pinsAt fp s7.heap) σ8 H' s' → Nx H' → ∃ m, m < n ∧ ∃ i H', Inv (X.blk s3 H3 scope ce fp) [] (wipe σ (own.map (·.2))) H' s' ∧ tn i s'.heap ∧ (∀ b ∈ fp, H' b = none) ∧ W i m H' := fun {s' H'} I' nx => by
        obtain ⟨m', hm, w'⟩ := hNx H' nx
        have pin' : ∀ b ∈ fp, ∀ o, s7.heap.get? b = some o → s'.heap.get? b = some o ∧ H' b = none := fun b hb o e =>
          let z := I'.pin (b, o) (List.mem_append_right _ (List.mem_append_right _ (mem_pinsAt hb e)))
          ⟨z.1, z.2.1⟩
        have hl : (wipe σ (own.map (·.2))).length = σ8.length := by rw [← hw8, wipe_length]
        refine ⟨m', hm, i + 1, H', (I'.unpinned (pins := [])).weak hl (fun j v e => ?_), T.keep _ _ _ st7 fun b hb o e => (pin' b hb o e).1, fun b hb => ?_, w'⟩
        · rw [← hw8] at e
          exact (wipe_some e).1
        · obtain ⟨o, e, _⟩ := T.obj _ _ st7 b hb
          exact (pin' b hb o e).2
      cases b with
      | false =>
        simp only [Bool.false_eq_true, if_false] at q9 ⊢
        exact fin I9 q9
      | true =>
        simp only [if_true] at q9 ⊢
        refine thnF (pe _ s9 σ8 H9 _ I9 q9) fun z s10 ⟨yv, H10, I10, r10, acc, hD10, hz10, nx⟩ => ?_
        exact app_ok (X := X.blk s3 H3 scope ce fp) I10 hD10 hz10 r10 fun s11 I11 => fin I11 nx
  exact codeAny_compStart_list loop (T.self X.A 0 _ _ _ st4 loop)
/-- as a value -/
theorem pe_lc {elt tg iter : Expr} {ifs : List Expr} {scope : Scope} {own : List (Str × Nat)} {pos : Pos} {wi : TI} {g : TG} {tt : TT} {te : TE} (hc : X.calm = true) (hN : X.N.Nodup) (hi : PI X tg iter wi) (ok : BlkOk X.N X.env.scope scope own)
    (hg : ∀ (s : Shared) (H : Hp) (C : Addr) (cl : List (Str × Addr)) (fp : List Addr), PG (X.blk s H scope (compEnvC scope cl C X.env) fp) tg g) (ht : ∀ (s : Shared) (H : Hp) (C : Addr) (cl : List (Str × Addr)) (fp : List Addr), PTs (X.blk s H scope (compEnvC scope cl C X.env) fp) ifs tt)
    (he : ∀ (s : Shared) (H : Hp) (C : Addr) (cl : List (Str × Addr)) (fp : List Addr), PE (X.blk s H scope (compEnvC scope cl C X.env) fp) elt te) (hs : ∀ x, foldedSetIterable iter X.env x = pure x := by intro _; rfl) :
    PE X (.ListComp elt [⟨tg, iter, ifs, 0⟩] scope pos) (tLc wi g tt te (own.map (·.2))) := by
  intro pins s σ H Q I h
  rw [eval_ListComp]
  refine lc_core hc hN I hi ok hg ht he hs h fun D C s' m H' I' q hn f => ⟨m, hn, fun h'' sb => ?_⟩
  obtain ⟨f0, f1, f2, f3, f4, f5⟩ := f
  exact ⟨.ref D, H', I'.turned (t' := s'.toks) (fun b o hb e => (sb.2 b hb).trans e) f0 f1 f3 f4 f5, rfl, q⟩
/-- name = [..] on one line, the name a local -/
theorem ps_setLc {i : Nat} {y : Str} {py : Pos} {elt tg iter : Expr} {ifs : List Expr} {scope : Scope} {own : List (Str × Nat)} {pos spos : Pos} {wi : TI} {g : TG} {tt : TT} {te : TE} (hc : X.calm = true) (hN : X.N.Nodup) (hy : X.N[i]? = some y) (hyl : X.env.scope.names.lookup y = some .local)
    (hsw : swapsWith (.ListComp elt [⟨tg, iter, ifs, 0⟩] scope pos) (some (.Name y py)) spos.line X.env = pure true) (hi : PI X tg iter wi) (ok : BlkOk X.N X.env.scope scope own)
    (hg : ∀ (s : Shared) (H : Hp) (C : Addr) (cl : List (Str × Addr)) (fp : List Addr), PG (X.blk s H scope (compEnvC scope cl C X.env) fp) tg g) (ht : ∀ (s : Shared) (H : Hp) (C : Addr) (cl : List (Str × Addr)) (fp : List Addr), PTs (X.blk s H scope (compEnvC scope cl C X.env) fp) ifs tt)
    (he : ∀ (s : Shared) (H : Hp) (C : Addr) (cl : List (Str × Addr)) (fp : List Addr), PE (X.blk s H scope (compEnvC scope cl C X.env) fp) elt te) (hs : ∀ x, foldedSetIterable iter X.env x = pure x := by intro _; rfl) :
    PS X (.Assign [.Name y py] (.ListComp elt [⟨tg, iter, ifs, 0⟩] scope pos) spos) (tAsg (tLc wi g tt te (own.map (·.2))) (gName i)) := by
  intro pins s σ H D I h
  rw [exec_Assign_Name_used _ _ _ _ hsw]
  refine wpAny_bind (wpAny_standAt (wpAny_bind ?_))
  show wpAny _ X.A (do let _ ← comprehension (.ListComp elt [⟨tg, iter, ifs, 0⟩] scope pos) scope X.env (firstIterPos [⟨tg, iter, ifs, 0⟩] pos) (newList []) false (eval iter X.env) (some (assign (.Name y py) X.env))) _ _ s
  have h : tLc wi g tt te (own.map (·.2)) σ H (fun x H1 => gName i x σ H1 D.nx) := h
  refine wpAny_bind (thn (lc_core (Qf := fun _ s' => SP X pins D .next s') hc hN I hi ok hg ht he hs h fun L C s' m H' I' q hn f => ?_) fun _ s' hq => wpAny_pure (wpAny_pure hq))
  show wpAny _ _ (assign (.Name y py) X.env (.ref L)) _ _ _
  refine wpAny_assign_Name (store_ok2 (v := V.ref L) I' hN hy (.inl hyl) rfl (fun s2 I2 ⟨a, sb, ha⟩ => ?_) (.inr hyl))
  obtain ⟨f0, f1, f2, f3, f4, f5⟩ := f
  have haC : C ≠ a := by
    rcases ha with z | z
    · rw [z]; exact f1
    · exact fun e => f4 y a z e.symm
  refine ⟨m, hn.sameBut sb haC, fun h3 sb3 => ?_⟩
  exact ⟨_, H', I2.turned (t' := s2.toks) (fun b o hb e => (sb3.2 b hb).trans e) f0 f1 f3 f4 f5, q⟩
theorem sw_true {elt : Expr} {gs : List Comprehension} {scope : Scope} {pos py : Pos} {y : Str} {l : Nat} {env : Env} (hk : env.scope.kind = .function) (hy : env.scope.names.lookup y = some .local) (hl : (py.line == pos.line) = true)
    (ha : (scope.names.any fun (n, k) => n == y && (k == .local || k == .cell)) = false) : swapsWith (.ListComp elt gs scope pos) (some (.Name y py)) l env = pure true := by
  have ky : env.kindOf y = some .local := hy
  have hb : env.blockKind = .function := by unfold Env.blockKind; rw [hk]; rfl
  unfold swapsWith
  simp only [hb, ky, ha, Expr.pos, hl]
  rfl
end
def blkC (N : List Str) (sc scope : Scope) (own : List (Str × Nat)) : Bool :=
  (match scope.kind with | .function => true | _ => false) && (scope.names.all fun y => decide (scope.names.lookup y.1 = some y.2)) && (own.all fun p => decide (N[p.2]? = some p.1)) &&
    (scope.names.all fun y => match y.2 with
      | .free => (match sc.names.lookup y.1 with | some .cell => true | some .free => true | _ => false)
      | .local => decide (y.1 ∈ own.map (·.1)) || decide (y.1 ∉ N)
      | .cell => decide (y.1 ∈ own.map (·.1)) || decide (y.1 ∉ N)
      | _ => true)
theorem blkOk_by {N : List Str} {sc scope : Scope} {own : List (Str × Nat)} (h : blkC N sc scope own = true) : BlkOk N sc scope own := by
  unfold blkC at h
  simp only [Bool.and_eq_true, List.all_eq_true, decide_eq_true_eq] at h
  obtain ⟨⟨⟨h1, h2⟩, h3⟩, h4⟩ := h
  refine ⟨?_, h2, h3, fun y hy e => ?_, fun y hy e => ?_⟩
  · split at h1
    · assumption
    · cases h1
  · have q := h4 y hy
    simp only [e] at q
    split at q <;> first | exact .inl (by assumption) | exact .inr (by assumption) | cases q
  · have q := h4 y hy
    rcases e with e | e <;> (simp only [e, Bool.or_eq_true, decide_eq_true_eq] at q; exact q)
end L2
namespace L2
open PySem PySem.Spec PyProof.Rows
section
variable {prog : Program} {w : World} {A : Around} {R : Result → Shared → Prop} {s : Shared} {elt t0 i0 t1 i1 : Expr} {ifs0 ifs1 : List Expr} {scope : Scope} {pos : Pos} {it acc : Value} {env : Env}
end
section
variable {X : Cx}
end
end L2
namespace L2
open PySem PySem.Spec PyProof.Rows
section
variable {κ : Type} [DecidableEq κ]
end
section
variable {P : Program} {w : World} {H : Hp} {h : Heap} {a : Addr}
end
section
variable {X : Cx} {pins : List (Addr × Obj)} {σ : St} {H : Hp} {s : Shared} {a : Addr} {y v : V} {u r : Value} {o : Option V} {A : Around} {E : Value → Shared → Prop}
end
section
variable {X : Cx} {pins : List (Addr × Obj)} {σ : St} {H : Hp} {s : Shared} {a : Addr} {kvs : List (Key × V)} {k : Key} {u : Value} {A : Around} {E : Value → Shared → Prop}
end
section
variable {X : Cx} {o i e value : Expr} {pos pos' tpos : Pos} {td ty tv : TE}
end
section
variable {X : Cx} {pos : Pos}
end
section
variable {X : Cx} {pins : List (Addr × Obj)} {σ : St} {H : Hp} {s : Shared} {a : Addr} {y d : V} {u r : Value} {o : Option V} {A : Around} {E : Value → Shared → Prop}
end
section
variable {X : Cx} {o e f : Expr} {apos cpos : Pos} {td ty tx : TE}
end
section
variable {X : Cx} {pins : List (Addr × Obj)} {σ : St} {H : Hp} {s : Shared} {a : Addr} {kvs : List (Key × V)} {A : Around} {E : Value → Shared → Prop}
end
section
variable {X : Cx} {pins : List (Addr × Obj)} {σ : St} {H : Hp} {s : Shared} {a : Addr} {y : V} {u : Value} {A : Around} {E : Value → Shared → Prop}
end
end L2
namespace L2
open PySem PySem.Spec PyProof.Rows
section
variable {prog : Program} {w : World} {A : Around} {E : Value → Shared → Prop}
end
section
variable {X : Cx}
end
end L2
namespace L2
open PySem PySem.Spec PyProof.Rows
section
variable {X : Cx} {pins : List (Addr × Obj)} {σ : St} {H : Hp} {s : Shared} {h' : Heap}
/-- several records of ours have turned -/
theorem Inv.turnedL {t' : Nat} {ch : List Addr} (I : Inv X pins σ H s) (k : ∀ b o, b ∉ ch → s.heap.get? b = some o → h'.get? b = some o) (hf : ∀ b ∈ ch, FpOk X pins H b) : Inv X pins σ H { s with heap := h', toks := t' } := by
  have nit : ∀ b u, H b = some u → b ∉ ch := fun b u e z => by
    have q := (hf b z).1
    rw [q] at e; cases e
  refine I.step (g' := s.gens) (d' := s.drawn) (ch := ch) (fun b hb => ⟨(hf b hb).2.2.2.1, (hf b hb).2.1, (hf b hb).2.2.2.2.1, (hf b hb).2.2.2.2.2⟩) (fun b o _ _ hc e _ => k b o hc e) (fun b o _ _ hc e _ => ⟨o.slots, k b o hc e⟩)
    (fun _ _ _ _ n => n) (fun b o hc e => ⟨o, k b o hc e⟩) (fun _ _ e => e) (fun _ _ _ e => e) (fun b ps e => ⟨#[], by rw [e]; simp⟩) (fun m hm => ?_) (fun b u e => ?_) I.bare
  · obtain ⟨o, es, ep, ho, r⟩ := hm
    exact ⟨o, es, ep, k _ o (fun z => (hf _ z).2.1 rfl) ho, r⟩
  · refine (I.hok b u e).stay (fun c v hc q => k c v ?_ q) (fun _ q => q) fun _ _ q => q
    rcases hc with z | z
    · rw [z]; exact nit b u e
    · exact nit c _ z
/-- .. and one new object is laid -/
theorem Inv.turnedNew {t' : Nat} {ch : List Addr} {T : Addr} {ob : HO} (I : Inv X pins σ H s) (k : ∀ b o, b ∉ ch → s.heap.get? b = some o → h'.get? b = some o) (hf : ∀ b ∈ ch, FpOk X pins H b) (hT : s.heap.objs.size ≤ T)
    (new : ObjOk X.prog X.w (upd H T ob) h' T ob) : Inv X pins σ (upd H T ob) { s with heap := h', toks := t' } := by
  have hn : H T = none := I.hok.fresh hT
  have nit : ∀ b u, H b = some u → b ∉ ch := fun b u e z => by
    have q := (hf b z).1
    rw [q] at e; cases e
  refine I.step (g' := s.gens) (d' := s.drawn) (ch := ch) (fun b hb => ⟨(hf b hb).2.2.2.1, (hf b hb).2.1, (hf b hb).2.2.2.2.1, (hf b hb).2.2.2.2.2⟩) (fun b o _ _ hc e _ => k b o hc e) (fun b o _ _ hc e _ => ⟨o.slots, k b o hc e⟩)
    (fun b o _ e n => ?_) (fun b o hc e => ⟨o, k b o hc e⟩) (fun b xs e => ?_) (fun b o u e => ?_) (fun b ps e => ⟨#[], ?_⟩) (fun m hm => ?_) (fun b u e => ?_) I.bare
  · rw [upd_ne (Nat.ne_of_lt (Nat.lt_of_lt_of_le (Heap.lt_size e) hT))]; exact n
  · rw [upd_ne (ne_of_none e hn)]; exact e
  · rw [upd_ne (ne_of_none e hn)]; exact e
  · rw [upd_ne (ne_of_none e hn), e]; simp
  · obtain ⟨o, es, ep, ho, r⟩ := hm
    exact ⟨o, es, ep, k _ o (fun z => (hf _ z).2.1 rfl) ho, r⟩
  · by_cases hb : b = T
    · subst hb
      rw [upd_same] at e
      cases e
      exact new
    · rw [upd_ne hb] at e
      refine (I.hok b u e).stay (fun c v hc q => k c v ?_ q) (fun c q => by rw [upd_ne (ne_of_none q hn)]; exact q) fun c xs q => by rw [upd_ne (ne_of_none q hn)]; exact q
      rcases hc with z | z
      · rw [z]; exact nit b u e
      · exact nit c _ z
end
section
variable {X : Cx}
theorem pi_one {tg : Expr} {pins : List (Addr × Obj)} {σ : St} {H : Hp} {s : Shared} {R : It → Hp → Prop} {J : It} {tn : Nat → Heap → Prop} {tk : Nat} (I : Inv X pins σ H s) (o : Obj)
    (T : Turn X.prog X.w X.K tg J [s.heap.objs.size] s.heap.objs.size tn) (st : tn 0 (s.heap.push o)) (q : R J H) : PIE X pins σ tg R (.ref s.heap.objs.size) { s with heap := s.heap.push o, toks := tk } := by
  refine ⟨s.heap.objs.size, [s.heap.objs.size], tn, J, H, rfl, I.kept fun b ob e => Heap.get?_push_of_some _ e, T, st, fun b hb => ?_, q⟩
  have e : b = s.heap.objs.size := by simpa using hb
  subst e
  exact I.fpOk (Nat.le_refl _) (I.hok.fresh (Nat.le_refl _))
end
/-- lo, lo + c, .. (n of them) -/
def Itc (lo c : Int) (n : Nat) : It := ⟨fun i _ => i < n, fun i H x H' => H' = H ∧ x = .int (lo + (i : Nat) * c), fun i _ => n ≤ i⟩
theorem turn_rangeC {P : Program} {w : World} {K : PySem.W.Frag} {tg : Expr} (it : Addr) (lo c : Int) (n : Nat) : Turn P w K tg (Itc lo c n) [it] it (fun i h => IsRangeIter h it (lo + (i : Nat) * c) ((n : Int) - (i : Nat)) c) where
  mem := by simp
  obj := fun i h st b hb => by
    have e : b = it := by simpa using hb
    subst e
    exact ⟨_, st, fun v z => nomatch z⟩
  keep := fun i h h' st k => k it (by simp) _ st
  item := by
    intro X hP hw hK hc i pins s σ H E I hf st hg
    subst hP hw hK
    obtain ⟨f0, f1, f2, f3, f4, f5⟩ := hf it (by simp)
    have W := Walks.range (prog := X.prog) (w := X.w) (I.ok.hd hc) it lo c n
    refine W.item i s _ _ hg st fun v h' tk hv st' kk => ?_
    obtain ⟨t, rfl⟩ := hv
    have I1 : Inv X pins σ H { s with heap := h', toks := tk } := I.turned (fun b o hb e => kk b o (by simpa using hb) e) f0 f1 f3 f4 f5
    exact ⟨_, rfl, go_of (s := { s with heap := h', toks := tk }) (n := "range_iterator") st' rfl rfl (by decide) ⟨.int (lo + (i : Nat) * c), H, I1, ⟨t, rfl⟩, ⟨rfl, rfl⟩, st', fun b hb => (hf b hb).1⟩⟩
  done := by
    intro X hP hw hK hc i pins s σ H E I hf st hg
    subst hP hw hK
    obtain ⟨f0, f1, f2, f3, f4, f5⟩ := hf it (by simp)
    exact wpAny_pyNext_range_end (I.ok.hd hc) st (by have : n ≤ i := hg; omega) fun h' eb => ⟨rfl, I.turned (t' := s.toks) (fun b o hb e => eb b o hb e) f0 f1 f3 f4 f5⟩
  self := fun A i s Q E st h => wpAny_pyIter_rangeiter st h
/-- range(i, j, c): small bounds, n items -/
def RgC (i j c : Int) (n : Nat) : Prop := c ≠ 0 ∧ c.natAbs < 1073741824 ∧ Builtin.Range.small i j c = true ∧ Builtin.Range.rangeSize i j c = n
theorem RgC.neg {i j : Int} (ha : -(2 ^ 62) ≤ i) (ha' : i < 2 ^ 62) (hb : -(2 ^ 62) ≤ j) (hb' : j < 2 ^ 62) : RgC i j (-1) (i - j).toNat :=
  ⟨by decide, by decide, PySem.W.small_down ha ha' hb hb', PySem.W.rangeSize_downNat i j⟩
def iRng3 (ta : TA) : TI := fun σ H R => ta σ H fun vs H1 => ∃ (i j c : Int) (n : Nat), vs = [.int i, .int j, .int c] ∧ RgC i j c n ∧ R (Itc i c n) H1
section
variable {X : Cx} {tg : Expr}
theorem pi_range3 {a b c : Expr} {ta : TA} {p pos : Pos} (hg : Gl X "range") (hm : X.mg "range" = none) (ha : PA X [a, b, c] ta)
    (hs : starEach [a, b, c] X.env = (false, eval a X.env) :: starEach [b, c] X.env := by rfl) (hpl : (backTo pos (starEach [b, c] X.env)).any (·.1) = false := by rfl) :
    PI X tg (.Call (.Name "range" p) [a, b, c] [] pos) (iRng3 ta) := by
  intro pins s σ H R I h
  refine Call_ (ld_blt I hg hm boot_range (PyProof.Rows.callWith_type1 (thn (ha pos pins s σ H _ I h) fun us s1 ⟨vs, H1, I1, r1, q1⟩ => ?_) hs hpl))
  obtain ⟨i, j, k, n, e, ⟨c0, c1, c2, c3⟩, q⟩ := q1
  subst e
  cases r1 with
  | cons r rr =>
    cases rr with
    | cons r' rr =>
      cases rr with
      | cons r'' rr =>
        cases rr
        obtain ⟨t, rfl⟩ := r
        obtain ⟨t', rfl⟩ := r'
        obtain ⟨t'', rfl⟩ := r''
        refine call_range_3 c0 ?_ (.inl (PyProof.noPylong_small c1))
        refine wpAny_pyIter_range (IsRange.new ..) c2 ?_
        have I2 : Inv X pins σ H1 { s1 with heap := s1.heap.push { cls := .type "range", data := .fields #[.int i t, .int j t', .int k t''] } } := I1.kept (t' := s1.toks) fun b o e => Heap.get?_push_of_some _ e
        refine pi_one (tk := s1.toks) I2 _ (turn_rangeC _ i k n) ?_ q
        have e1 : i + ((0 : Nat) : Int) * k = i := by simp
        have e2 : (n : Int) - ((0 : Nat) : Int) = Builtin.Range.rangeSize i j k := by rw [c3]; simp
        show IsRangeIter _ _ (i + ((0 : Nat) : Int) * k) ((n : Int) - ((0 : Nat) : Int)) k
        rw [e1, e2]
        exact Heap.get?_push_size _ rfl
end
/-- the turns of a step range, for the for loop -/
theorem for_rangeC {lo c : Int} {n : Nat} {g : TG} {tb : TS} {D : Ends} {σ : St} {H : Hp} (Pv : Nat → St → Hp → Prop) (h0 : Pv 0 σ H)
    (hs : ∀ i σ H, i < n → Pv i σ H → g (.int (lo + (i : Nat) * c)) σ H fun σ2 H2 => tb { D with nx := Pv (i + 1), ct := Pv (i + 1), bk := D.nx } σ2 H2) (hd : ∀ σ H, Pv n σ H → D.nx σ H) :
    ∃ W : Nat → Nat → St → Hp → Prop, (∃ m, W 0 m σ H) ∧ ∀ i m σ H, W i m σ H →
      ((Itc lo c n).stop i H ∧ D.nx σ H) ∨ ((Itc lo c n).go i H ∧ ∃ N : St → Hp → Prop, (∀ σ' H', N σ' H' → ∃ m', m' < m ∧ W (i + 1) m' σ' H') ∧ ∀ x H', (Itc lo c n).yld i H x H' → g x σ H' fun σ2 H2 => tb { D with nx := N, ct := N, bk := D.nx } σ2 H2) := by
  refine ⟨fun i m σ H => m = n - i ∧ i ≤ n ∧ Pv i σ H, ⟨n, by simp, Nat.zero_le _, h0⟩, ?_⟩
  rintro i m σ H ⟨rfl, hi, p⟩
  by_cases hlt : i < n
  · refine .inr ⟨hlt, Pv (i + 1), fun σ' H' p' => ⟨n - (i + 1), by omega, rfl, hlt, p'⟩, fun x H' y => ?_⟩
    obtain ⟨e, y⟩ := y
    subst e y
    exact hs i σ _ hlt p
  · have e : i = n := by omega
    subst e
    exact .inl ⟨Nat.le_refl _, hd σ H p⟩
section
variable {X : Cx} {tg : Expr}
end
section
variable {prog : Program} {w : World} {A : Around} {E : Value → Shared → Prop} {s : Shared}
end
section
variable {X : Cx} {pins : List (Addr × Obj)} {σ : St} {H : Hp} {s : Shared} {d : Addr} {o : Obj}
end
section
variable {P : Program} {w : World} {K : PySem.W.Frag} {tg : Expr} {d : Addr} {o : Obj} {es : Array DictEntry} {ep : Nat}
end
section
variable {X : Cx} {tg e : Expr} {td : TE} {apos cpos : Pos}
end
/-- the list at a as it stands at each turn, each item in a new pair -/
def Ite (K : PySem.W.Frag) (a : Addr) : It :=
  ⟨fun i H => ∃ (xs : List V) (x : V), SqL K H a xs ∧ xs[i]? = some x, fun i H v H' => ∃ T x, v = .ref T ∧ H T = none ∧ H' = upd H T (.tup [.int (i : Nat), x]) ∧ ∀ xs, SqL K H a xs → xs[i]? = some x, fun i H => ∃ xs : List V, SqL K H a xs ∧ xs.length ≤ i⟩
theorem turn_enum {P : Program} {w : World} {K : PySem.W.Frag} {elts : List Expr} {kk : Nat} {tpos : Pos} (a e it : Addr) :
    Turn P w K (.Tuple elts kk tpos) (Ite K a) [e, it] e (fun i h => (∃ old, IsEnum h e it ((i : Nat) : Int) old) ∧ h.IsListIter it a i ∧ e ≠ it) where
  mem := by simp
  obj := fun i h st b hb => by
    obtain ⟨⟨old, he⟩, ⟨o, ho, hc, hd⟩, _⟩ := st
    have e' : b = e ∨ b = it := by simpa using hb
    rcases e' with z | z
    · rw [z]; exact ⟨_, he, fun v q => nomatch q⟩
    · rw [z]; exact ⟨o, ho, fun v q => by rw [hd] at q; cases q⟩
  keep := fun i h h' st k => let ⟨⟨old, he⟩, hi, hne⟩ := st; ⟨⟨old, k e (by simp) _ he⟩, hi.at fun o q => k it (by simp) o q, hne⟩
  item := by
    intro X hP hw hK hc i pins s σ H E I hf st hg
    subst hP hw hK
    obtain ⟨⟨old, he⟩, hit, hne⟩ := st
    obtain ⟨xs, x, hq, hx⟩ := hg
    obtain ⟨its, rv, p, hz⟩ := I.list hq
    obtain ⟨u, hu, ru⟩ := rv.get hx
    have hel : e < s.heap.objs.size := Heap.lt_size he
    have hil : it < s.heap.objs.size := by obtain ⟨_, q, _⟩ := hit; exact Heap.lt_size q
    refine wpAny_pyNext_enum_item he hit p.isList (x := u) (by simpa using hu) hne fun h' ho hit' hT hsz hk => ?_
    refine ⟨_, rfl, wpAny_letOwnedTupleGo_enum (s := { s with heap := h', toks := s.toks + 1 }) ho fun h'' he' sb => ?_⟩
    have hT2 : h''.get? s.heap.objs.size = some { cls := .type "tuple", data := .seq #[.int i s.toks, u] } := (sb.2 _ (Nat.ne_of_gt hel)).trans hT
    have new : ObjOk X.prog X.w (upd H s.heap.objs.size (.tup [.int (i : Nat), x])) h'' s.heap.objs.size (.tup [.int (i : Nat), x]) :=
      ⟨by show 2 ≤ sizeLine; decide, [.int i s.toks, u], .cons ⟨_, rfl⟩ (.cons ru .nil), ⟨_, hT2, rfl, _, rfl⟩⟩
    have I1 : Inv X pins σ (upd H s.heap.objs.size (.tup [.int (i : Nat), x])) { s with heap := h'', toks := s.toks + 1 } :=
      I.turnedNew (ch := [e, it]) (fun b ob hb q => (sb.2 b (fun z => hb (by simp [z]))).trans (hk b ob (fun z => hb (by simp [z])) (fun z => hb (by simp [z])) q)) hf (Nat.le_refl _) new
    refine ⟨.ref s.heap.objs.size, _, I1, rfl, ⟨_, x, rfl, I.hok.fresh (Nat.le_refl _), rfl, fun ys hy => by rw [I.list_inj hy hq]; exact hx⟩, ⟨⟨u, ?_⟩, hit'.at fun o q => (sb.2 it (Ne.symm hne)).trans q, hne⟩, fun b hb => ?_⟩
    · have e1 : ((i + 1 : Nat) : Int) = (i : Int) + 1 := by omega
      rw [e1]; exact he'
    · have hb' : b < s.heap.objs.size := by
        have e' : b = e ∨ b = it := by simpa using hb
        rcases e' with z | z
        · rw [z]; exact hel
        · rw [z]; exact hil
      rw [upd_ne (Nat.ne_of_lt hb')]
      exact (hf b hb).1
  done := by
    intro X hP hw hK hc i pins s σ H E I hf st hg
    subst hP hw hK
    obtain ⟨⟨old, he⟩, hit, hne⟩ := st
    obtain ⟨xs, hq, hx⟩ := hg
    obtain ⟨its, rv, p, hz⟩ := I.list hq
    obtain ⟨f0, f1, f2, f3, f4, f5⟩ := hf it (by simp)
    have hl := rv.length
    exact wpAny_pyNext_enum_end (I.ok.hd hc) he hit p.isList (by simp; omega) fun h' eb => ⟨rfl, I.turned (t' := s.toks) (fun b o hb q => eb b o hb q) f0 f1 f3 f4 f5⟩
  self := fun A i s Q E st h => let ⟨⟨_, he⟩, _⟩ := st; wpAny_pyIter_enum he h
def iEnum (K : PySem.W.Frag) (ta : TA) : TI := fun σ H R => ta σ H fun vs H1 => ∃ a xs, vs = [.ref a] ∧ SqL K H1 a xs ∧ R (Ite K a) H1
theorem pi_enum {X : Cx} {e : Expr} {ta : TA} {p pos tpos : Pos} {elts : List Expr} {kk : Nat} (hg : Gl X "enumerate") (hm : X.mg "enumerate" = none) (ha : PA X [e] ta) (hs : starEach [e] X.env = [(false, eval e X.env)] := by rfl) :
    PI X (.Tuple elts kk tpos) (.Call (.Name "enumerate" p) [e] [] pos) (iEnum X.K ta) := by
  intro pins s σ H R I h
  refine Call_ (ld_blt I hg hm boot_enumerate (PyProof.Rows.callWith_type1 (thn (ha pos pins s σ H _ I h) fun us s1 ⟨vs, H1, I1, r1, q1⟩ => ?_) hs rfl))
  obtain ⟨a, xs, ex, hq, q⟩ := q1
  subst ex
  cases r1 with
  | cons r rr =>
    cases rr
    cases r
    obtain ⟨its, rv, p', hz⟩ := I1.list hq
    refine call_enumerate_list p'.isList fun h' he hit hsz hk => wpAny_pyIter_enum he ?_
    have I2 : Inv X pins σ H1 { s1 with heap := h' } := I1.kept (t' := s1.toks) hk
    refine ⟨s1.heap.objs.size + 1, [s1.heap.objs.size + 1, s1.heap.objs.size], _, _, H1, rfl, I2, turn_enum a (s1.heap.objs.size + 1) s1.heap.objs.size, ⟨⟨.none, he⟩, hit, Nat.succ_ne_self _⟩, fun b hb => ?_, q⟩
    have e' : b = s1.heap.objs.size + 1 ∨ b = s1.heap.objs.size := by simpa using hb
    have hle : s1.heap.objs.size ≤ b := by
      rcases e' with z | z
      · rw [z]; exact Nat.le_add_right _ _
      · rw [z]; exact Nat.le_refl _
    exact I1.fpOk hle (I1.hok.fresh hle)
theorem boot_zip5 : bootBuiltins "zip" = some (.type "zip") := by decide +kernel
/-- the lists at a and b as they stand at each turn, the items in new pairs -/
def Itz (K : PySem.W.Frag) (a b : Addr) : It :=
  ⟨fun i H => ∃ (xs ys : List V) (x y : V), SqL K H a xs ∧ SqL K H b ys ∧ xs[i]? = some x ∧ ys[i]? = some y,
    fun i H v H' => ∃ T x y, v = .ref T ∧ H T = none ∧ H' = upd H T (.tup [x, y]) ∧ (∀ xs, SqL K H a xs → xs[i]? = some x) ∧ ∀ ys, SqL K H b ys → ys[i]? = some y,
    fun i H => ∃ xs ys : List V, SqL K H a xs ∧ SqL K H b ys ∧ (xs.length ≤ i ∨ ys.length ≤ i)⟩
theorem turn_zip {P : Program} {w : World} {K : PySem.W.Frag} {elts : List Expr} {kk : Nat} {tpos : Pos} {a b z TI TO i1 i2 : Addr} (D : ZipApart z TI TO i1 i2 a b) :
    Turn P w K (.Tuple elts kk tpos) (Itz K a b) [z, TI, TO, i1, i2] z (fun i h => IsZip h z TI TO .none ∧ IsPair h TI (.ref i1) (.ref i2) ∧ (∃ x y, IsPair h TO x y) ∧ h.IsListIter i1 a i ∧ h.IsListIter i2 b i) where
  mem := by simp
  obj := fun i h st c hc => by
    obtain ⟨hz, hTI, ⟨x, y, hTO⟩, ⟨o1, e1, _, d1⟩, ⟨o2, e2, _, d2⟩⟩ := st
    have e' : c = z ∨ c = TI ∨ c = TO ∨ c = i1 ∨ c = i2 := by simpa using hc
    rcases e' with q | q | q | q | q
    · rw [q]; exact ⟨_, hz, fun v q => nomatch q⟩
    · rw [q]; exact ⟨_, hTI, fun v q => nomatch q⟩
    · rw [q]; exact ⟨_, hTO, fun v q => nomatch q⟩
    · rw [q]; exact ⟨o1, e1, fun v q => by rw [d1] at q; cases q⟩
    · rw [q]; exact ⟨o2, e2, fun v q => by rw [d2] at q; cases q⟩
  keep := fun i h h' st k => by
    obtain ⟨hz, hTI, ⟨x, y, hTO⟩, h1, h2⟩ := st
    exact ⟨k z (by simp) _ hz, k TI (by simp) _ hTI, ⟨x, y, k TO (by simp) _ hTO⟩, h1.at fun o q => k i1 (by simp) o q, h2.at fun o q => k i2 (by simp) o q⟩
  item := by
    intro X hP hw hK hc i pins s σ H E I hf st hg
    subst hP hw hK
    obtain ⟨hz, hTI, ⟨x0, y0, hTO⟩, h1, h2⟩ := st
    obtain ⟨xs, ys, x, y, hqx, hqy, hx, hy⟩ := hg
    obtain ⟨its, rv, p, _⟩ := I.list hqx
    obtain ⟨its2, rv2, p2, _⟩ := I.list hqy
    obtain ⟨u, hu, ru⟩ := rv.get hx
    obtain ⟨u2, hu2, ru2⟩ := rv2.get hy
    have hzl : z < s.heap.objs.size := Heap.lt_size hz
    refine wpAny_pyNext_zip_item D hz hTI hTO h1 h2 p.isList p2.isList (x := u) (y := u2) (by simpa using hu) (by simpa using hu2) fun h' z' TO' h1' h2' hT hsz hk => ?_
    refine ⟨_, rfl, wpAny_letOwnedTupleGo_zip (s := { s with heap := h' }) z' fun h'' z'' sb => ?_⟩
    have hT2 : h''.get? s.heap.objs.size = some { cls := .type "tuple", data := .seq #[u, u2] } := (sb.2 _ (Nat.ne_of_gt hzl)).trans hT
    have new : ObjOk X.prog X.w (upd H s.heap.objs.size (.tup [x, y])) h'' s.heap.objs.size (.tup [x, y]) :=
      ⟨by show 2 ≤ sizeLine; decide, [u, u2], .cons ru (.cons ru2 .nil), ⟨_, hT2, rfl, _, rfl⟩⟩
    have I1 : Inv X pins σ (upd H s.heap.objs.size (.tup [x, y])) { s with heap := h'' } :=
      I.turnedNew (t' := s.toks) (ch := [z, TI, TO, i1, i2]) (fun c o hb q => (sb.2 c (fun q' => hb (by simp [q']))).trans (hk c o (fun q' => hb (by simp [q'])) (fun q' => hb (by simp [q'])) (fun q' => hb (by simp [q'])) (fun q' => hb (by simp [q'])) q)) hf (Nat.le_refl _) new
    refine ⟨.ref s.heap.objs.size, _, I1, rfl, ⟨_, x, y, rfl, I.hok.fresh (Nat.le_refl _), rfl, fun l hl => by rw [I.list_inj hl hqx]; exact hx, fun l hl => by rw [I.list_inj hl hqy]; exact hy⟩, ⟨z'', ?_, ⟨u, u2, ?_⟩, ?_, ?_⟩, fun c hcm => ?_⟩
    · exact (sb.2 _ D.TIz).trans (hk _ _ D.TIz D.TITO D.TIi1 D.TIi2 hTI)
    · exact (sb.2 _ D.TOz).trans TO'
    · exact h1'.at fun o q => (sb.2 _ D.i1z).trans q
    · exact h2'.at fun o q => (sb.2 _ D.i2z).trans q
    · have hlt : c < s.heap.objs.size := by
        have e' : c = z ∨ c = TI ∨ c = TO ∨ c = i1 ∨ c = i2 := by simpa using hcm
        rcases e' with q | q | q | q | q
        · rw [q]; exact hzl
        · rw [q]; exact Heap.lt_size hTI
        · rw [q]; exact Heap.lt_size hTO
        · rw [q]; obtain ⟨_, e1, _⟩ := h1; exact Heap.lt_size e1
        · rw [q]; obtain ⟨_, e2, _⟩ := h2; exact Heap.lt_size e2
      rw [upd_ne (Nat.ne_of_lt hlt)]
      exact (hf c hcm).1
  done := by
    intro X hP hw hK hc i pins s σ H E I hf st hg
    subst hP hw hK
    obtain ⟨hz, hTI, ⟨x0, y0, hTO⟩, h1, h2⟩ := st
    obtain ⟨xs, ys, hqx, hqy, hend⟩ := hg
    obtain ⟨its, rv, p, _⟩ := I.list hqx
    obtain ⟨its2, rv2, p2, _⟩ := I.list hqy
    have l1 := rv.length
    have l2 := rv2.length
    have he : its.toArray[i]? = none ∨ its2.toArray[i]? = none := by
      rcases hend with q | q
      · exact .inl (by simp; omega)
      · exact .inr (by simp; omega)
    exact wpAny_pyNext_zip_end (I.ok.hd hc) D hz hTI hTO h1 h2 p.isList p2.isList he fun h' hk => ⟨rfl, I.turnedL (t' := s.toks) (ch := [z, TI, TO, i1, i2]) (fun c o hb q =>
      hk c o (fun q' => hb (by simp [q'])) (fun q' => hb (by simp [q'])) (fun q' => hb (by simp [q'])) (fun q' => hb (by simp [q'])) q) hf⟩
  self := fun A i s Q E st h => wpAny_pyIter_zip st.1 h
def iZip (K : PySem.W.Frag) (ta : TA) : TI := fun σ H R => ta σ H fun vs H1 => ∃ a b xs ys, vs = [.ref a, .ref b] ∧ SqL K H1 a xs ∧ SqL K H1 b ys ∧ R (Itz K a b) H1
theorem pi_zip {X : Cx} {e e2 : Expr} {ta : TA} {p pos tpos : Pos} {elts : List Expr} {kk : Nat} (hg : Gl X "zip") (hm : X.mg "zip" = none) (ha : PA X [e, e2] ta)
    (hs : starEach [e, e2] X.env = (false, eval e X.env) :: starEach [e2] X.env := by rfl) (hpl : (backTo pos (starEach [e2] X.env)).any (·.1) = false := by rfl) :
    PI X (.Tuple elts kk tpos) (.Call (.Name "zip" p) [e, e2] [] pos) (iZip X.K ta) := by
  intro pins s σ H R I h
  refine Call_ (ld_blt I hg hm boot_zip5 (PyProof.Rows.callWith_type1 (thn (ha pos pins s σ H _ I h) fun us s1 ⟨vs, H1, I1, r1, q1⟩ => ?_) hs hpl))
  obtain ⟨a, b, xs, ys, ex, hqx, hqy, q⟩ := q1
  subst ex
  cases r1 with
  | cons r rr =>
    cases rr with
    | cons r' rr =>
      cases rr
      cases r
      cases r'
      obtain ⟨its, rv, p1, _⟩ := I1.list hqx
      obtain ⟨its2, rv2, p2, _⟩ := I1.list hqy
      have la : a < s1.heap.objs.size := p1.lt
      have lb : b < s1.heap.objs.size := p2.lt
      refine call_zip_2 p1.isList p2.isList fun h' hz hTI hTO h1 h2 hsz hk => wpAny_pyIter_zip hz ?_
      have I2 : Inv X pins σ H1 { s1 with heap := h' } := I1.kept (t' := s1.toks) hk
      refine ⟨s1.heap.objs.size + 4, [s1.heap.objs.size + 4, s1.heap.objs.size + 2, s1.heap.objs.size + 3, s1.heap.objs.size, s1.heap.objs.size + 1], _, _, H1, rfl, I2, turn_zip (PySem.W.ktu_apart s1.heap.objs.size a b la lb), ⟨hz, hTI, ⟨_, _, hTO⟩, h1, h2⟩, fun c hcm => ?_, q⟩
      have e' : c = s1.heap.objs.size + 4 ∨ c = s1.heap.objs.size + 2 ∨ c = s1.heap.objs.size + 3 ∨ c = s1.heap.objs.size ∨ c = s1.heap.objs.size + 1 := by simpa using hcm
      have hle : s1.heap.objs.size ≤ c := by
        rcases e' with z | z | z | z | z
        · rw [z]; exact Nat.le_add_right _ _
        · rw [z]; exact Nat.le_add_right _ _
        · rw [z]; exact Nat.le_add_right _ _
        · rw [z]; exact Nat.le_refl _
        · rw [z]; exact Nat.le_add_right _ _
      exact I1.fpOk hle (I1.hok.fresh hle)
end L2
section 
namespace Bits
open PySem PyProof.Rows
end Bits
end 
section 
namespace TL
open PySem PySem.Builtin PySem.Builtin.Str PySem.StrLaws
end TL
end 
namespace L2
open PySem PySem.Spec PyProof.Rows
section
variable {X : Cx} {pins : List (Addr × Obj)} {σ : St} {H : Hp} {s : Shared} {Q : VK}
end
section
variable {X : Cx}
end
section
variable {X : Cx} {o e : Expr} {to te : TE}
end
end L2
namespace L2
open PySem PySem.Spec PyProof.Rows
section
variable {X : Cx}
end
end L2
namespace Att
open PySem PySem.W PySem.Calls PyProof.Rows
section
variable {prog : Program} {w : World} {A : Around} {E : Value → Shared → Prop} {s : Shared} {K : Frag}
end
end Att
namespace L2
open PySem PySem.Spec PyProof.Rows
end L2
namespace L2
open PySem PySem.Spec PyProof.Rows
abbrev KOf {K : PySem.W.Frag} {h : Heap} (_ : K.In h) : PySem.W.Frag := K
end L2
namespace L2
open PySem PySem.Spec PyProof.Rows
/-- the j-th statement of a class's body -/
def inClass (s : Stmt) (j : Nat) : Stmt := match s with
  | .ClassDef _ _ _ body _ _ _ _ _ _ _ => body.getD j (.Pass ⟨0, 0, 0, 0⟩)
  | _ => .Pass ⟨0, 0, 0, 0⟩
def defArgs (s : Stmt) : Arguments := match s with
  | .FunctionDef _ a _ _ _ _ _ _ _ _ => a
  | _ => { posonlyargs := [], args := [], vararg := none, kwonlyargs := [], kw_defaults := [], kwarg := none, defaults := [] }
def defBody (s : Stmt) : List Stmt := match s with
  | .FunctionDef _ _ b _ _ _ _ _ _ _ => b
  | _ => []
def defScope (s : Stmt) : Scope := match s with
  | .FunctionDef _ _ _ _ _ _ sc _ _ _ => sc
  | _ => { kind := .function, names := [], isGenerator := false, isCoroutine := false }
abbrev CX0 : CXT := fun _ _ _ _ _ _ => False
abbrev E0 : XK := fun _ _ _ => False
theorem pass0 {X : Cx} : Passes CX0 X E0 := fun _ _ _ _ _ _ _ h => h.elim
structure Fun (K : PySem.W.Frag) (x qual : Str) (st : Stmt) (f : Addr) (fd : FuncData) : Prop where
  ex : ∃ (oc : Value) (od : Option Addr) (kV doc pm : Value) (an : Option Addr) (cdv ct : Value) (osl : Array (Option Value)),
    fd = PySem.W.fnOf x qual (defArgs st) (defBody st) (defScope st) .none kV doc pm an cdv ct ∧ K.lookup f = some ⟨oc, od, .func fd, osl⟩ ∧ PySem.W.codeIn K cdv qual = true
  kp : PySem.W.keepIn K (.ref f) = true
section
variable {P : Program} {w : World} {K : PySem.W.Frag} {mg : Str → Option Value} {base : Heap}
/-- THE RULE for a def: its body as a term of rules, and the reading of that term -/
theorem Fun.ok {x qual : Str} {st : Stmt} {f : Addr} {fd : FuncData} {N ps : List Str} {k : Nat} {sp : Sp} (F : Fun K x qual st f fd) (S : FnScope N ps (defScope st)) (len : ∀ vs H Q E, sp vs H Q E → vs.length = ps.length)
    (hbody : ∀ (cdv : Value) (A : Around) (outer : List Env) (s : Shared) (H : Hp) (vs : List V) (Q : VK) (E : XK), Room k (A.deeper (envOfC qual (defScope st) s.heap.objs.size f cdv)) → sp vs H Q E →
      ∃ t, PSs (cxOf CX0 P w K mg base N qual (defScope st) f cdv A outer s H E).nox (defBody st) t ∧ t { nx := fun _ H' => Q .non H', rt := Q } (start N vs) H) : FnOk P w K mg base CX0 (k + 1) f fd ps sp := by
  obtain ⟨oc, od, kV, doc, pm, an, cdv, ct, osl, rfl, lk, hcd⟩ := F.ex
  refine fn_of lk hcd S len fun A outer s H vs Q E hr hsp => ?_
  obtain ⟨t, h, q⟩ := hbody cdv A outer s H vs Q E hr hsp
  exact ⟨t, h.nox, q⟩
/-- how its arguments bind (no defaults): h is «fun _ _ _ _ _ _ us hl => match us, hl with | [_, _], _ => rfl», one _ a parameter -/
theorem Fun.binds {x qual : Str} {st : Stmt} {f : Addr} {fd : FuncData} {ps : List Str} (F : Fun K x qual st f fd)
    (h : ∀ (kV doc pm : Value) (an : Option Addr) (cdv ct : Value) (us : List Value), us.length = ps.length → bindArgs (PySem.W.fnOf x qual (defArgs st) (defBody st) (defScope st) .none kV doc pm an cdv ct) ⟨us, []⟩ = pure (ps.zip us)) : Binds K fd ps [] := by
  obtain ⟨oc, od, kV, doc, pm, an, cdv, ct, osl, rfl, lk, hcd⟩ := F.ex
  exact .all (h kV doc pm an cdv ct)
theorem fun_mk {x qual : Str} {st : Stmt} {f : Addr} {oc : Value} {od an : Option Addr} {osl : Array (Option Value)} {kV doc pm cdv ct : Value} (l : K.lookup f = some ⟨oc, od, .func (PySem.W.fnOf x qual (defArgs st) (defBody st) (defScope st) .none kV doc pm an cdv ct), osl⟩)
    (c : PySem.W.codeIn K cdv qual = true) (k : PySem.W.keepIn K (.ref f) = true) : Fun K x qual st f (PySem.W.fnOf x qual (defArgs st) (defBody st) (defScope st) .none kV doc pm an cdv ct) := ⟨⟨oc, od, kV, doc, pm, an, cdv, ct, osl, rfl, l, c⟩, k⟩
end
theorem small1000 {n : Nat} (h : n ≤ 1000) : n < sizeLine := Nat.lt_of_le_of_lt h (by decide)
section
variable {X : Cx}
theorem pv (i : Nat) {x : Str} {pos : Pos} (hN : X.N[i]? = some x := by rfl) (hv : Vis X.env.scope x := by first | exact Or.inl rfl | exact Or.inr (Or.inl rfl) | exact Or.inr (Or.inr rfl)) (hd : (x == ("__debug__" : Str)) = false := by decide)
    (hcd : (x == ("__classdict__" : Str)) = false := by decide) : PE X (.Name x pos) (tVar i) := pe_var hN hv hd hcd
end
theorem iteF {A B : Prop} (h : B) : if false = true then A else B := by
  rw [if_neg Bool.false_ne_true]
  exact h
theorem iteT {A B : Prop} (h : A) : if true = true then A else B := by
  rw [if_pos rfl]
  exact h
/-- all that was tracked is as it was -/
def Same (H H' : Hp) : Prop := ∀ b o, H b = some o → H' b = some o
theorem Same.refl (H : Hp) : Same H H := fun _ _ h => h
theorem Same.trans {H H1 H2 : Hp} (a : Same H H1) (b : Same H1 H2) : Same H H2 := fun c o h => b c o (a c o h)
theorem Same.free {H H' : Hp} (e : Same H H') {l : Addr} (h : H' l = Option.none) : H l = Option.none := by
  cases q : H l with
  | none => rfl
  | some o =>
    rw [e l o q] at h
    cases h
theorem Same.seq {K : PySem.W.Frag} {H H' : Hp} {a : Addr} {xs : List V} (e : Same H H') (h : SqL K H a xs) : SqL K H' a xs := by
  rcases h with (h | ⟨o, h⟩) | h
  · exact .inl (.inl (e _ _ h))
  · exact .inl (.inr ⟨o, e _ _ h⟩)
  · exact .inr h
section
variable {κ : Type} [DecidableEq κ]
end
/-- a new instance and its __init__ leave all that was tracked as it was -/
theorem Same.made {H H1 : Hp} {x dx C : Addr} (nx : H x = Option.none) (nd : H dx = Option.none) (k : ∀ b o, (upd (upd H dx (.own x)) x (.ins C dx [])) b = some o → b ≠ x → H1 b = some o) : Same H H1 := fun b o e =>
  k b o (by rw [upd_ne (ne_of_none e nx), upd_ne (ne_of_none e nd)]; exact e) (ne_of_none e nx)
end L2
section
set_option Elab.async false
set_option linter.all false
set_option maxRecDepth 100000
set_option maxHeartbeats 2000000
namespace L2
open PySem PySem.Spec PyProof.Rows
open PySem.W (WData Codec OpenSpec Well WellAll ReadsW ReadsAllW)
mutual
/-- x stands for the datum d, lists and tuples all the way -/
inductive Dw (K : PySem.W.Frag) (H : Hp) : V → WData → Prop
  | non : Dw K H .non .none
  | bl (b : Bool) : Dw K H (.bl b) (.bool b)
  | int (i : Int) : Dw K H (.int i) (.int i)
  | str (x : Str) : Dw K H (.str x) (.str x)
  | byt (b : Array UInt8) : Dw K H (.byt b) (.bytes b.toList)
  | lst {a : Addr} {xs : List V} {ds : List WData} : SqL K H a xs → DwAll K H xs ds → Dw K H (.ref a) (.list ds)
  | tup {a : Addr} {xs : List V} {ds : List WData} : SqT K H a xs → DwAll K H xs ds → Dw K H (.ref a) (.tuple ds)
inductive DwAll (K : PySem.W.Frag) (H : Hp) : List V → List WData → Prop
  | nil : DwAll K H [] []
  | cons {v : V} {vs : List V} {d : WData} {ds : List WData} : Dw K H v d → DwAll K H vs ds → DwAll K H (v :: vs) (d :: ds)
end
theorem dw_ints {K : PySem.W.Frag} {H : Hp} : ∀ ns : List Int, DwAll K H (ns.map V.int) (ns.map WData.int)
  | [] => .nil
  | n :: r => .cons (.int n) (dw_ints r)
theorem ints_dw {K : PySem.W.Frag} {H : Hp} : ∀ (ns : List Int) (xs : List V), DwAll K H xs (ns.map WData.int) → xs = ns.map V.int
  | [], xs, h => by
    cases h
    rfl
  | n :: r, xs, h => by
    cases h with
    | cons h1 h2 =>
      cases h1
      rw [ints_dw r _ h2] <;> rfl
section
variable {P : Program} {w : World} {K : PySem.W.Frag} {H : Hp} {h : Heap} {R : PySem.W.WRecords} {cl : Str → Option Addr}
theorem sqL_at {a : Addr} {xs : List V} (hok : HOk P w H h) (KX : K.In h) (q : SqL K H a xs) : ∃ (its : List Value) (o : Obj) (n : Nat), Vals xs its ∧ h.get? a = some o ∧ o.cls = .type "list" ∧ o.data = .seq its.toArray n := by
  rcases q with q | ⟨o, its, n, e, hc, _, hd, _, hv⟩
  · obtain ⟨_, its, n, hv, e⟩ := (show ObjOk P w H h a (.lst xs) from q.ok hok)
    exact ⟨its, _, n, hv, e, rfl, rfl⟩
  · exact ⟨its.toList, o, n, hv, KX _ _ e, hc, by simp [hd]⟩
theorem sqT_at {a : Addr} {xs : List V} (hok : HOk P w H h) (KX : K.In h) (q : SqT K H a xs) : ∃ (its : List Value) (o : Obj) (n : Nat), Vals xs its ∧ h.get? a = some o ∧ o.cls = .type "tuple" ∧ o.data = .seq its.toArray n := by
  rcases q with q | ⟨o, its, n, e, hc, hd, _, hv⟩
  · obtain ⟨_, its, hv, o, e, hc, n, hd⟩ := (show ObjOk P w H h a (.tup xs) from q.ok hok)
    exact ⟨its, o, n, hv, e, hc, hd⟩
  · exact ⟨its.toList, o, n, hv, KX _ _ e, hc, by simp [hd]⟩
mutual
theorem Dw.reads (hok : HOk P w H h) (KX : K.In h) : ∀ (d : WData) (v : V) (u : Value), Dw K H v d → RelV v u → ∃ as, ReadsW R cl h u d as
  | .none, _, _, x, r => by
    cases x
    cases r
    exact ⟨_, ReadsW.none⟩
  | .bool b, _, _, x, r => by
    cases x
    cases r
    exact ⟨_, ReadsW.bool b⟩
  | .int i, _, _, x, r => by
    cases x
    obtain ⟨t, rfl⟩ := r
    exact ⟨_, ReadsW.int i t⟩
  | .str s, _, _, x, r => by
    cases x
    obtain ⟨t, rfl⟩ := r
    exact ⟨_, ReadsW.str s t⟩
  | .bytes b, _, _, x, r => by
    cases x
    obtain ⟨t, rfl⟩ := r
    exact ⟨_, ReadsW.bytes _ t⟩
  | .list ds, _, _, x, r => by
    cases x with
    | lst hs ha =>
      cases r
      obtain ⟨its, o, n, rv, ho, hc, hd⟩ := sqL_at hok KX hs
      obtain ⟨as, hr⟩ := Dw.readsAll hok KX ds _ its ha rv
      exact ⟨_, ReadsW.list ho hc hd hr⟩
  | .tuple ds, _, _, x, r => by
    cases x with
    | tup hs ha =>
      cases r
      obtain ⟨its, o, n, rv, ho, hc, hd⟩ := sqT_at hok KX hs
      obtain ⟨as, hr⟩ := Dw.readsAll hok KX ds _ its ha rv
      exact ⟨_, ReadsW.tuple ho hc hd hr⟩
  | .float _, _, _, x, _ => by cases x
  | .dict _, _, _, x, _ => by cases x
  | .bytearray _, _, _, x, _ => by cases x
  | .set _, _, _, x, _ => by cases x
  | .frozenset _, _, _, x, _ => by cases x
  | .obj _ _, _, _, x, _ => by cases x
theorem Dw.readsAll (hok : HOk P w H h) (KX : K.In h) : ∀ (ds : List WData) (vs : List V) (us : List Value), DwAll K H vs ds → Vals vs us → ∃ as, ReadsAllW R cl h us ds as
  | [], _, _, x, r => by
    cases x
    cases r
    exact ⟨_, ReadsAllW.nil⟩
  | d :: ds, _, _, x, r => by
    cases x with
    | cons h1 h2 =>
      cases r with
      | cons r1 r2 =>
        obtain ⟨as, q1⟩ := Dw.reads hok KX d _ _ h1 r1
        obtain ⟨bs, q2⟩ := Dw.readsAll hok KX ds _ _ h2 r2
        exact ⟨_, ReadsAllW.cons q1 q2⟩
end
end
mutual
/-- data that a codec tells -/
def plW : WData → Bool
  | .none => true
  | .bool _ => true
  | .int _ => true
  | .str _ => true
  | .bytes _ => true
  | .list xs => plWs xs
  | .tuple xs => plWs xs
  | _ => false
def plWs : List WData → Bool
  | [] => true
  | x :: r => plW x && plWs r
end
theorem plWs_map {α : Type} {f : α → WData} (h : ∀ a, plW (f a) = true) : ∀ l : List α, plWs (l.map f) = true
  | [] => rfl
  | x :: r => by
    show (plW (f x) && plWs (r.map f)) = true
    rw [h x, plWs_map h r] <;> rfl
theorem pl_enc : ∀ (c : Codec) (a : c.denote), plW (c.enc a) = true
  | .unit, _ => rfl
  | .bool, _ => rfl
  | .int _ _, _ => rfl
  | .nat _ _, _ => rfl
  | .u8, _ => rfl
  | .bytes _ _, _ => rfl
  | .text _ _ _ _, _ => rfl
  | .list _ _ c, a => plWs_map (fun x => pl_enc c x) a
  | .pair c d, a => by
    show (plW (c.enc a.1) && (plW (d.enc a.2) && true)) = true
    rw [pl_enc c a.1, pl_enc d a.2] <;> rfl
  | .triple c d e, a => by
    show (plW (c.enc a.1) && (plW (d.enc a.2.1) && (plW (e.enc a.2.2) && true))) = true
    rw [pl_enc c a.1, pl_enc d a.2.1, pl_enc e a.2.2] <;> rfl
  | .option c, none => rfl
  | .option c, some x => pl_enc c x
theorem pl_encAll : ∀ (cs : List Codec) (a : Codec.denoteAll cs), plWs (Codec.encAll cs a) = true
  | [], _ => rfl
  | c :: cs, a => by
    show (plW (c.enc a.1) && plWs (Codec.encAll cs a.2)) = true
    rw [pl_enc c a.1, pl_encAll cs a.2] <;> rfl
theorem weight_mem : ∀ {xs : List WData} {d : WData}, d ∈ xs → d.weight ≤ WData.weightAll xs
  | [], d, h => absurd h (by simp)
  | x :: r, d, h => by
    show d.weight ≤ x.weight + 1 + WData.weightAll r
    rcases List.mem_cons.mp h with e | m
    · rw [e]
      omega
    · have z := weight_mem m
      omega
def toV : Value → V
  | .none => .non
  | .bool b => .bl b
  | .int i _ => .int i
  | .str x _ => .str x
  | .bytes b _ => .byt b
  | .ref a => .ref a
  | _ => .non
/-- a value of the arguments, its objects among A -/
def OkU (A : List Addr) : Value → Prop
  | .none => True
  | .bool _ => True
  | .int _ _ => True
  | .str _ _ => True
  | .bytes _ _ => True
  | .ref a => a ∈ A
  | _ => False
theorem OkU.mono {A B : List Addr} (h : ∀ a ∈ A, a ∈ B) : ∀ {u : Value}, OkU A u → OkU B u := fun {u} x => by
  cases u with
  | ref a => exact h a x
  | none => trivial
  | bool b => trivial
  | int i t => trivial
  | str s t => trivial
  | bytes b t => trivial
  | _ => exact False.elim x
theorem relV_toV {A : List Addr} {u : Value} (x : OkU A u) : RelV (toV u) u := by
  cases u with
  | ref a => rfl
  | none => rfl
  | bool b => rfl
  | int i t => exact ⟨t, rfl⟩
  | str s t => exact ⟨t, rfl⟩
  | bytes b t => exact ⟨t, rfl⟩
  | _ => exact False.elim x
theorem vals_toV {A : List Addr} : ∀ {vs : List Value}, (∀ u ∈ vs, OkU A u) → Vals (vs.map toV) vs
  | [], _ => .nil
  | u :: r, h => .cons (relV_toV (h u (List.mem_cons_self ..))) (vals_toV fun x hx => h x (List.mem_cons_of_mem _ hx))
/-- an object of the arguments -/
def ArgOb (h : Heap) (A : List Addr) (a : Addr) : Prop := ∃ vs : List Value, vs.length ≤ sizeLine ∧ (∀ u ∈ vs, OkU A u) ∧
  (h.get? a = some { cls := .type "list", data := .seq vs.toArray } ∨ h.get? a = some { cls := .type "tuple", data := .seq vs.toArray })
theorem ArgOb.mono {h : Heap} {A B : List Addr} {a : Addr} (k : ∀ a ∈ A, a ∈ B) (x : ArgOb h A a) : ArgOb h B a := by
  obtain ⟨vs, h1, h2, h3⟩ := x
  exact ⟨vs, h1, fun u hu => (h2 u hu).mono k, h3⟩
theorem wellAll_len {P : Params} {h : Heap} : ∀ {vs : List Value} {ds : List WData}, WellAll P h vs ds → vs.length = ds.length
  | _, _, .nil => rfl
  | _, _, .cons _ b => by
    show _ + 1 = _ + 1
    rw [wellAll_len b]
theorem well_list {P : Params} {h : Heap} {v : Value} {ds : List WData} (x : Well P h v (.list ds)) : ∃ (a : Addr) (vs : List Value), v = .ref a ∧ h.get? a = some { cls := .type "list", data := .seq vs.toArray } ∧ WellAll P h vs ds := by
  cases x with
  | list ho hall => exact ⟨_, _, rfl, ho, hall⟩
theorem well_tuple {P : Params} {h : Heap} {v : Value} {ds : List WData} (x : Well P h v (.tuple ds)) : ∃ (a : Addr) (vs : List Value), v = .ref a ∧ h.get? a = some { cls := .type "tuple", data := .seq vs.toArray } ∧ WellAll P h vs ds := by
  cases x with
  | tuple ho hall => exact ⟨_, _, rfl, ho, hall⟩
theorem well_cons {P : Params} {h : Heap} {us : List Value} {d : WData} {ds : List WData} (x : WellAll P h us (d :: ds)) : ∃ (v : Value) (vs : List Value), us = v :: vs ∧ Well P h v d ∧ WellAll P h vs ds := by
  cases x with
  | cons a b => exact ⟨_, _, rfl, a, b⟩
theorem line_of {n : Nat} (h : n ≤ 1048576) : n ≤ sizeLine := Nat.le_trans h (by decide)
section
variable {P : Params} {h : Heap}
mutual
theorem area_one : ∀ (d : WData) (v : Value), Well P h v d → plW d = true → d.weight ≤ 1048576 → ∃ A : List Addr, OkU A v ∧ ∀ a ∈ A, ArgOb h A a
  | .none, _, x, _, _ => by
    cases x
    exact ⟨[], trivial, fun a m => absurd m (by simp)⟩
  | .bool b, _, x, _, _ => by
    cases x
    exact ⟨[], trivial, fun a m => absurd m (by simp)⟩
  | .int i, _, x, _, _ => by
    cases x
    exact ⟨[], trivial, fun a m => absurd m (by simp)⟩
  | .str s, _, x, _, _ => by
    cases x
    exact ⟨[], trivial, fun a m => absurd m (by simp)⟩
  | .bytes b, _, x, _, _ => by
    cases x
    exact ⟨[], trivial, fun a m => absurd m (by simp)⟩
  | .list ds, _, x, p, z => by
    obtain ⟨a, vs, rfl, ho, hall⟩ := well_list x
    have z2 : WData.weightAll ds ≤ 1048576 := z
    obtain ⟨A, h1, h2⟩ := area_all ds _ hall p fun d hd => Nat.le_trans (weight_mem hd) z2
    have k : ∀ b ∈ A, b ∈ a :: A := fun b hb => List.mem_cons_of_mem _ hb
    refine ⟨a :: A, List.mem_cons_self .., fun b hb => ?_⟩
    rcases List.mem_cons.mp hb with e | m
    · rw [e]
      exact ⟨vs, line_of (by rw [wellAll_len hall]; exact Nat.le_trans (PySem.W.length_le_weightAllW ds) z2), fun u hu => (h1 u hu).mono k, .inl ho⟩
    · exact (h2 b m).mono k
  | .tuple ds, _, x, p, z => by
    obtain ⟨a, vs, rfl, ho, hall⟩ := well_tuple x
    have z2 : WData.weightAll ds ≤ 1048576 := z
    obtain ⟨A, h1, h2⟩ := area_all ds _ hall p fun d hd => Nat.le_trans (weight_mem hd) z2
    have k : ∀ b ∈ A, b ∈ a :: A := fun b hb => List.mem_cons_of_mem _ hb
    refine ⟨a :: A, List.mem_cons_self .., fun b hb => ?_⟩
    rcases List.mem_cons.mp hb with e | m
    · rw [e]
      exact ⟨vs, line_of (by rw [wellAll_len hall]; exact Nat.le_trans (PySem.W.length_le_weightAllW ds) z2), fun u hu => (h1 u hu).mono k, .inr ho⟩
    · exact (h2 b m).mono k
  | .float _, _, _, p, _ => Bool.noConfusion (show false = true from p)
  | .dict _, _, _, p, _ => Bool.noConfusion (show false = true from p)
  | .bytearray _, _, _, p, _ => Bool.noConfusion (show false = true from p)
  | .set _, _, _, p, _ => Bool.noConfusion (show false = true from p)
  | .frozenset _, _, _, p, _ => Bool.noConfusion (show false = true from p)
  | .obj _ _, _, _, p, _ => Bool.noConfusion (show false = true from p)
theorem area_all : ∀ (ds : List WData) (vs : List Value), WellAll P h vs ds → plWs ds = true → (∀ d ∈ ds, d.weight ≤ 1048576) → ∃ A : List Addr, (∀ u ∈ vs, OkU A u) ∧ ∀ a ∈ A, ArgOb h A a
  | [], _, x, _, _ => by
    cases x
    exact ⟨[], fun u m => absurd m (by simp), fun a m => absurd m (by simp)⟩
  | d :: ds, _, x, p, z => by
    obtain ⟨v, vs, rfl, x1, x2⟩ := well_cons x
    have q : plW d = true ∧ plWs ds = true := Bool.and_eq_true_iff.mp p
    obtain ⟨A, a1, a2⟩ := area_one d v x1 q.1 (z d (List.mem_cons_self ..))
    obtain ⟨B, b1, b2⟩ := area_all ds vs x2 q.2 fun e he => z e (List.mem_cons_of_mem _ he)
    have kA : ∀ b ∈ A, b ∈ A ++ B := fun b hb => List.mem_append.mpr (.inl hb)
    have kB : ∀ b ∈ B, b ∈ A ++ B := fun b hb => List.mem_append.mpr (.inr hb)
    refine ⟨A ++ B, fun u hu => ?_, fun b hb => ?_⟩
    · rcases List.mem_cons.mp hu with e | m
      · rw [e]
        exact a1.mono kA
      · exact (b1 u m).mono kB
    · rcases List.mem_append.mp hb with m | m
      · exact (a2 b m).mono kA
      · exact (b2 b m).mono kB
end
end
/-- what is tracked of an argument's object -/
def hoOf (o : Obj) : Option HO := match o.data with
  | .seq vs _ => if (o.cls == Value.type "list") = true then some (.frz o (.lst (vs.toList.map toV))) else some (.frz o (.tup (vs.toList.map toV)))
  | _ => none
def argH (K : PySem.W.Frag) (h : Heap) (A : List Addr) : Hp := fun b => if b ∈ A then (if (K.lookup b).isNone = true then (h.get? b).bind hoOf else none) else none
/-- nothing is tracked but what is known to the object -/
def OnlyF (H : Hp) : Prop := ∀ b, H b = none ∨ ∃ o u, H b = some (.frz o u)
theorem hoOf_lst (vs : List Value) : hoOf { cls := .type "list", data := .seq vs.toArray } = some (.frz { cls := .type "list", data := .seq vs.toArray } (.lst (vs.map toV))) := by
  show (if (Value.type "list" == Value.type "list") = true then some (HO.frz { cls := .type "list", data := .seq vs.toArray } (.lst (vs.toArray.toList.map toV))) else some (HO.frz { cls := .type "list", data := .seq vs.toArray } (.tup (vs.toArray.toList.map toV)))) = _
  rw [if_pos (beq_self_eq_true _)]
theorem hoOf_tup (vs : List Value) : hoOf { cls := .type "tuple", data := .seq vs.toArray } = some (.frz { cls := .type "tuple", data := .seq vs.toArray } (.tup (vs.map toV))) := by
  show (if (Value.type "tuple" == Value.type "list") = true then some (HO.frz { cls := .type "tuple", data := .seq vs.toArray } (.lst (vs.toArray.toList.map toV))) else some (HO.frz { cls := .type "tuple", data := .seq vs.toArray } (.tup (vs.toArray.toList.map toV)))) = _
  rw [if_neg (by decide)]
section
variable {P : Program} {w : World} {K : PySem.W.Frag} {h : Heap} {A : List Addr}
theorem argH_at {b : Addr} {o : Obj} (hb : b ∈ A) (hk : K.lookup b = none) (e : h.get? b = some o) : argH K h A b = hoOf o := by
  unfold argH
  rw [if_pos hb, hk, if_pos (show (none : Option Obj).isNone = true from rfl), e] <;> rfl
theorem of_argH {b : Addr} {u : HO} (q : argH K h A b = some u) : b ∈ A ∧ K.lookup b = none := by
  unfold argH at q
  by_cases hb : b ∈ A
  · rw [if_pos hb] at q
    cases hk : K.lookup b with
    | none => exact ⟨hb, rfl⟩
    | some o =>
      rw [hk, if_neg (by simp)] at q
      cases q
  · rw [if_neg hb] at q
    cases q
/-- what stands tracked -/
theorem argH_is (ar : ∀ a ∈ A, ArgOb h A a) {b : Addr} {u : HO} (q : argH K h A b = some u) : K.lookup b = none ∧ ∃ vs : List Value, vs.length ≤ sizeLine ∧ (∀ u ∈ vs, OkU A u) ∧
    ((h.get? b = some { cls := .type "list", data := .seq vs.toArray } ∧ u = .frz { cls := .type "list", data := .seq vs.toArray } (.lst (vs.map toV))) ∨
     (h.get? b = some { cls := .type "tuple", data := .seq vs.toArray } ∧ u = .frz { cls := .type "tuple", data := .seq vs.toArray } (.tup (vs.map toV)))) := by
  obtain ⟨hb, hk⟩ := of_argH q
  obtain ⟨vs, h1, h2, h3⟩ := ar b hb
  refine ⟨hk, vs, h1, h2, ?_⟩
  rcases h3 with e | e
  · rw [argH_at hb hk e, hoOf_lst] at q
    exact .inl ⟨e, (Option.some.inj q).symm⟩
  · rw [argH_at hb hk e, hoOf_tup] at q
    exact .inr ⟨e, (Option.some.inj q).symm⟩
theorem argH_only (ar : ∀ a ∈ A, ArgOb h A a) : OnlyF (argH K h A) := fun b => by
  cases q : argH K h A b with
  | none => exact .inl rfl
  | some u =>
    obtain ⟨_, vs, _, _, ⟨_, e⟩ | ⟨_, e⟩⟩ := argH_is ar q
    · exact .inr ⟨_, _, by rw [e]⟩
    · exact .inr ⟨_, _, by rw [e]⟩
theorem argH_ok (ar : ∀ a ∈ A, ArgOb h A a) : HOk P w (argH K h A) h := fun b u q => by
  obtain ⟨_, vs, h1, h2, ⟨e, rfl⟩ | ⟨e, rfl⟩⟩ := argH_is ar q
  · exact ⟨e, by rw [List.length_map]; exact h1, vs, _, vals_toV h2, e⟩
  · exact ⟨e, by rw [List.length_map]; exact h1, vs, vals_toV h2, _, e, rfl, _, rfl⟩
theorem seq_inj {c c' : Value} {vs us : List Value} (e : (some { cls := c, data := .seq vs.toArray } : Option Obj) = some { cls := c', data := .seq us.toArray }) : c = c' ∧ vs = us := by
  have e1 := Option.some.inj e
  have e2 : c = c' := congrArg Obj.cls e1
  have e3 : Data.seq vs.toArray = Data.seq us.toArray := congrArg Obj.data e1
  injection e3 with e4
  refine ⟨e2, ?_⟩
  have e5 := congrArg Array.toList e4
  simpa using e5
/-- a list argument -/
theorem argL (KX : K.In h) (ar : ∀ a ∈ A, ArgOb h A a) {a : Addr} {vs : List Value} (ha : a ∈ A) (e : h.get? a = some { cls := .type "list", data := .seq vs.toArray }) : (∀ u ∈ vs, OkU A u) ∧ SqL K (argH K h A) a (vs.map toV) := by
  obtain ⟨us, h1, h2, h3⟩ := ar a ha
  have hu : us = vs := by
    rcases h3 with q | q
    · rw [e] at q
      exact (seq_inj q).2.symm
    · rw [e] at q
      exact absurd (Value.type.inj (seq_inj q).1) (by decide)
  subst hu
  refine ⟨h2, ?_⟩
  cases hk : K.lookup a with
  | none => exact .inl (.inr ⟨_, by rw [argH_at ha hk e, hoOf_lst]⟩)
  | some o =>
    have e2 := KX a o hk
    rw [e] at e2
    obtain rfl := Option.some.inj e2
    exact .inr ⟨_, us.toArray, _, hk, rfl, rfl, rfl, by rw [List.size_toArray]; exact h1, by simpa using vals_toV h2⟩
theorem argT (KX : K.In h) (ar : ∀ a ∈ A, ArgOb h A a) {a : Addr} {vs : List Value} (ha : a ∈ A) (e : h.get? a = some { cls := .type "tuple", data := .seq vs.toArray }) : (∀ u ∈ vs, OkU A u) ∧ SqT K (argH K h A) a (vs.map toV) := by
  obtain ⟨us, h1, h2, h3⟩ := ar a ha
  have hu : us = vs := by
    rcases h3 with q | q
    · rw [e] at q
      exact absurd (Value.type.inj (seq_inj q).1) (by decide)
    · rw [e] at q
      exact (seq_inj q).2.symm
  subst hu
  refine ⟨h2, ?_⟩
  cases hk : K.lookup a with
  | none => exact .inl (.inr ⟨_, by rw [argH_at ha hk e, hoOf_tup]⟩)
  | some o =>
    have e2 := KX a o hk
    rw [e] at e2
    obtain rfl := Option.some.inj e2
    exact .inr ⟨_, us.toArray, _, hk, rfl, rfl, by rw [List.size_toArray]; exact h1, by simpa using vals_toV h2⟩
mutual
theorem dw_one {Pm : Params} (KX : K.In h) (ar : ∀ a ∈ A, ArgOb h A a) : ∀ (d : WData) (v : Value), Well Pm h v d → plW d = true → OkU A v → Dw K (argH K h A) (toV v) d
  | .none, _, x, _, _ => by
    cases x
    exact .non
  | .bool b, _, x, _, _ => by
    cases x
    exact .bl b
  | .int i, _, x, _, _ => by
    cases x
    exact .int i
  | .str s, _, x, _, _ => by
    cases x
    exact .str s
  | .bytes b, _, x, _, _ => by
    cases x
    have z := Dw.byt (K := K) (H := argH K h A) b.toArray
    exact z
  | .list ds, _, x, p, hu => by
    obtain ⟨a, vs, rfl, ho, hall⟩ := well_list x
    obtain ⟨h2, hs⟩ := argL KX ar hu ho
    exact .lst hs (dw_all KX ar ds _ hall p h2)
  | .tuple ds, _, x, p, hu => by
    obtain ⟨a, vs, rfl, ho, hall⟩ := well_tuple x
    obtain ⟨h2, hs⟩ := argT KX ar hu ho
    exact .tup hs (dw_all KX ar ds _ hall p h2)
  | .float _, _, _, p, _ => Bool.noConfusion (show false = true from p)
  | .dict _, _, _, p, _ => Bool.noConfusion (show false = true from p)
  | .bytearray _, _, _, p, _ => Bool.noConfusion (show false = true from p)
  | .set _, _, _, p, _ => Bool.noConfusion (show false = true from p)
  | .frozenset _, _, _, p, _ => Bool.noConfusion (show false = true from p)
  | .obj _ _, _, _, p, _ => Bool.noConfusion (show false = true from p)
theorem dw_all {Pm : Params} (KX : K.In h) (ar : ∀ a ∈ A, ArgOb h A a) : ∀ (ds : List WData) (vs : List Value), WellAll Pm h vs ds → plWs ds = true → (∀ u ∈ vs, OkU A u) → DwAll K (argH K h A) (vs.map toV) ds
  | [], _, x, _, _ => by
    cases x
    exact .nil
  | d :: ds, _, x, p, hu => by
    obtain ⟨v, vs, rfl, x1, x2⟩ := well_cons x
    have q : plW d = true ∧ plWs ds = true := Bool.and_eq_true_iff.mp p
    exact .cons (dw_one KX ar d v x1 q.1 (hu _ (List.mem_cons_self ..))) (dw_all KX ar ds vs x2 q.2 fun u m => hu u (List.mem_cons_of_mem _ m))
end
end
theorem spec_call {P : Program} {w : World} {K : PySem.W.Frag} {mg mb : Str → Option Value} {CX : CXT} {k : Nat} {fa : Addr} {fd : FuncData} {ps : List Str} {sp : Sp} {s₁ : Shared} {vals : List Value} {ds : List WData} {R : PySem.W.WRecords} {cl : Str → Option Addr} {d0 : WData}
    (KX : K.In s₁.heap) (hns : s₁.heap.Ns mainGlobals mg) (hb : s₁.heap.Ns builtinsNs mb) (hbb : ∀ x : Str, x ≠ "__name__" → mb x = bootBuiltins x) (hlim : s₁.heap.NoLimit) (hg : s₁.gens = #[])
    (hwl : WellAll w.params s₁.heap vals ds) (hpl : plWs ds = true) (hwt : ∀ d ∈ ds, d.weight ≤ 1048576) (hr : Room k callerA)
    (F : ∀ base : Heap, K.In base → base.Ns mainGlobals mg → FnOk P w K mg base CX k fa fd ps sp) (hbind : ∀ (s : Shared) (us : List Value), us.length = ps.length → BindsTo s fd ⟨us, []⟩ (ps.zip us)) (hlen : ds.length = ps.length)
    (hsp : ∀ (H : Hp) (xs : List V), OnlyF H → DwAll K H xs ds → sp xs H (fun v H' => Dw K H' v d0) fun _ _ _ => False)
    (hCX : ∀ H e s', CX [] H s₁ (fun _ _ _ => False) e s' → False) :
    codeAny (model P w) callerA (.call (.ref fa) ⟨vals, []⟩) (fun r s' => ∃ u as, r = .ok (.ret u) ∧ ReadsW R cl s'.heap u d0 as ∧ OldK s₁.heap s'.heap ∧ s'.os = s₁.os ∧ AllBare s'.gens) s₁ := by
  obtain ⟨A, ho, ar⟩ := area_all ds vals hwl hpl hwt
  have hO : OnlyF (argH K s₁.heap A) := argH_only ar
  have hok : HOk P w (argH K s₁.heap A) s₁.heap := argH_ok ar
  have hS := dw_all KX ar ds vals hwl hpl ho
  have hV := vals_toV ho
  have hK : ∀ b u, argH K s₁.heap A b = some u → K.lookup b = none := fun b u q => (argH_is ar q).1
  have noA : ∀ {b : Addr} {o : Obj} {es : Array DictEntry} {ep : Nat}, s₁.heap.get? b = some o → o.data = .dict es ep → argH K s₁.heap A b = none := fun {b o es ep} e d => by
    cases q : argH K s₁.heap A b with
    | none => rfl
    | some u =>
      obtain ⟨_, vs, _, _, ⟨e2, _⟩ | ⟨e2, _⟩⟩ := argH_is ar q
      · rw [e2] at e
        cases e
        have d' : Data.seq vs.toArray _ = Data.dict es ep := d
        cases d'
      · rw [e2] at e
        cases e
        have d' : Data.seq vs.toArray _ = Data.dict es ep := d
        cases d'
  generalize argH K s₁.heap A = H at hO hok hS hK noA
  have base_of : ∀ {b : Addr} {o : Obj}, s₁.heap.get? b = some o → H b = none → (hidT s₁.heap H).get? b = some o := fun e n => hidT_get e n
  have nsK : ∀ {b : Addr} {m : Str → Option Value}, s₁.heap.Ns b m → (hidT s₁.heap H).Ns b m := fun {b m} ⟨o, es, ep, e, d, r⟩ => ⟨o, es, ep, base_of e (noA e d), d, r⟩
  have nK : ∀ b o, K.lookup b = some o → H b = none := fun b o e => by
    cases q : H b with
    | none => rfl
    | some u =>
      rw [hK b u q] at e
      cases e
  have hKb : K.In (hidT s₁.heap H) := fun b o e => base_of (KX b o e) (nK b o e)
  have hM : Mod K mg (hidT s₁.heap H) := ⟨hKb, nsK hns, ⟨mb, nsK hb, hbb⟩, let ⟨mc, h1, h2⟩ := hlim; ⟨mc, nsK h1, h2⟩⟩
  have e0 : Env0 P w K mg (hidT s₁.heap H) callerA [] s₁ H := ⟨rfl, hM, fun b o e => of_hidT e, Nat.le_of_eq (hidT_size _ _), trivial, fun b hb => absurd (show b ∈ ([] : List Addr) from hb) (by simp), hok, .of_eq hg⟩
  have hl : vals.length = ps.length := by rw [wellAll_len hwl]; exact hlen
  refine codeAny_mono ((F _ hKb (nsK hns)).run callerA [] s₁ H ⟨vals, []⟩ vals (vals.map toV) _ _ hr e0 (hbind s₁ vals hl) hV (hsp H _ hO hS)) fun r s' x => ?_
  cases r with
  | error e => exact (hCX H e s' x).elim
  | ok fl =>
    cases fl with
    | next => exact False.elim x
    | brk => exact False.elim x
    | cont => exact False.elim x
    | ret u =>
      obtain ⟨v, H', os, bare, un, hok', r', q⟩ := x
      have kept : ∀ b o, s₁.heap.get? b = some o → s'.heap.get? b = some o := fun b o e => by
        cases q2 : H b with
        | none => exact un.keep b o e q2 (by intro z; exact absurd (show b ∈ ([] : List Addr) from z) (by simp)) (by simp)
        | some u2 =>
          rcases hO b with z | ⟨ob, u3, z⟩
          · rw [q2] at z
            cases z
          · have z2 := un.frzs b ob _ z
            obtain ⟨e1, _⟩ := hok b _ z
            obtain ⟨e2, _⟩ := hok' b _ z2
            rw [e] at e1
            cases e1
            exact e2
      have KX' : K.In s'.heap := fun b o e => kept b o (KX b o e)
      obtain ⟨as, hrd⟩ := Dw.reads (R := R) (cl := cl) hok' KX' d0 v u q r'
      exact ⟨u, as, rfl, hrd, OldK.of_keep kept, os, bare⟩
theorem layable_weight {ds : List WData} (h : WData.layableAll ds = true) : ∀ d ∈ ds, d.weight ≤ 1048576 := fun d hd =>
  (PySem.W.layableW_iff.mp (List.all_eq_true.mp h d hd)).2.2
theorem encAll_len : ∀ (cs : List Codec) (a : Codec.denoteAll cs), (Codec.encAll cs a).length = cs.length
  | [], _ => rfl
  | c :: cs, a => by
    show (Codec.encAll cs a.2).length + 1 = cs.length + 1
    rw [encAll_len cs a.2]
/-- the goal that k_headS leaves (case hc), from the promise of the row's def: whatever the arguments that the codecs let and the row asks for, the def gives what stands for enc (f ..) -/
theorem walk_spec {r : OpenSpec} {k : Nat} {q : Program} {loose : List Str} {XP : (Str → Option Value) → Heap → Prop} {YP : World → Heap → Prop} {d : DefRec} {K : Params → PySem.W.Frag} {CX : World → CXT} {ps : List Str} {sp : World → Sp}
    (hwell : r.wellSaid = true) (hdf : d.params.defaults = []) (hlen : r.args.length = ps.length) (hr : Room k callerA)
    (hY : ∀ (w : World) (h : Heap), YP w h → (K w.params).In h)
    (F : ∀ (w : World) (mg : Str → Option Value) (fa : Addr) (h : Heap), YP w h → (K w.params).In h → h.Ns mainGlobals mg → mg d.name = some (.ref fa) →
      ∃ fd : FuncData, (∀ (s : Shared) (us : List Value), us.length = ps.length → BindsTo s fd ⟨us, []⟩ (ps.zip us)) ∧
        ∀ base : Heap, (K w.params).In base → base.Ns mainGlobals mg → FnOk r.prog w (K w.params) mg base (CX w) k fa fd ps (sp w))
    (hsp : ∀ (w : World) (H : Hp) (xs : List V) (a : Codec.denoteAll r.args), OnlyF H → Codec.withinAll r.args a = true → Codec.app r.args r.asked a = true → DwAll (K w.params) H xs (Codec.encAll r.args a) →
      sp w xs H (fun v H' => Dw (K w.params) H' v (r.ret.enc (Codec.app r.args r.f a))) fun _ _ _ => False)
    (hCX : ∀ (w : World) (H : Hp) (s : Shared) (e : Value) (s' : Shared), CX w [] H s (fun _ _ _ => False) e s' → False) :
    PySem.W.WalkOS q loose XP YP r d [] (fun f vs => PySem.call f vs) := by
  intro w s_0 s₁ mg mb G Y fa o pm cd doc dV kV ho hd hcd hD hmg hg args vals as hpre hlay hrd hwl hlo
  obtain ⟨a, e1, e2⟩ := PySem.W.os_pre_some hpre
  obtain ⟨e3, hwi⟩ := Codec.encAll_of_decAll r.args args a e1
  subst e3
  have KX := hY w _ Y
  obtain ⟨fd, hb, hF⟩ := F w mg fa _ Y KX G.T.g hmg
  refine PySem.W.enter_call (codeAny_mono (spec_call (R := []) (cl := classAt s_0.heap) (d0 := r.ret.enc (Codec.app r.args r.f a)) KX G.T.g G.T.b G.T.builtins G.T.nolimit hg hwl (pl_encAll _ _) (layable_weight hlay) hr hF hb (by rw [encAll_len]; exact hlen)
    (fun H xs hO hS => hsp w H xs a hO hwi e2 hS) fun H e s' => hCX w H s₁ e s') fun r' s' hq => ?_)
  obtain ⟨u, as', rfl, h1, h2, h3, h4⟩ := hq
  exact ⟨.inl ⟨u, _, as', rfl, fun _ => rfl, h1, (OpenSpec.post_iff hwell hwi _ _).mpr rfl, fun z => Bool.noConfusion (show false = true from z)⟩, h2, h3, h4⟩
/-- the same where the promise hangs on the written part alone -/
theorem walk_specK {r : OpenSpec} {k : Nat} {q : Program} {loose : List Str} {XP : (Str → Option Value) → Heap → Prop} {YP : World → Heap → Prop} {d : DefRec} {K : Params → PySem.W.Frag} {CX : CXT} {ps : List Str} {sp : PySem.W.Frag → Sp}
    (hwell : r.wellSaid = true) (hdf : d.params.defaults = []) (hlen : r.args.length = ps.length) (hr : Room k callerA)
    (hY : ∀ (w : World) (h : Heap), YP w h → (K w.params).In h)
    (F : ∀ (w : World) (mg : Str → Option Value) (fa : Addr) (h : Heap), YP w h → (K w.params).In h → h.Ns mainGlobals mg → mg d.name = some (.ref fa) →
      ∃ fd : FuncData, (∀ (s : Shared) (us : List Value), us.length = ps.length → BindsTo s fd ⟨us, []⟩ (ps.zip us)) ∧
        ∀ base : Heap, (K w.params).In base → base.Ns mainGlobals mg → FnOk r.prog w (K w.params) mg base CX k fa fd ps (sp (K w.params)))
    (hsp : ∀ (K : PySem.W.Frag) (H : Hp) (xs : List V) (a : Codec.denoteAll r.args), OnlyF H → Codec.withinAll r.args a = true → Codec.app r.args r.asked a = true → DwAll K H xs (Codec.encAll r.args a) →
      sp K xs H (fun v H' => Dw K H' v (r.ret.enc (Codec.app r.args r.f a))) fun _ _ _ => False)
    (hCX : ∀ (H : Hp) (s : Shared) (e : Value) (s' : Shared), CX [] H s (fun _ _ _ => False) e s' → False) :
    PySem.W.WalkOS q loose XP YP r d [] (fun f vs => PySem.call f vs) :=
  walk_spec (K := K) (CX := fun _ => CX) (sp := fun w => sp (K w.params)) hwell hdf hlen hr hY F (fun w H xs a h1 h2 h3 h4 => hsp (K w.params) H xs a h1 h2 h3 h4) fun _ H s e s' => hCX H s e s'
end L2
end


namespace Mth
open Kv366

def tell (a : Abs) (j k : Nat) : Bool := a.old j k || a.late j k

/-! ### lists -/
theorem range_split {n j : Nat} (h : j < n) : List.range n = List.range j ++ j :: (List.range n).drop (j + 1) := by
  have e1 : (List.range n).drop j = j :: (List.range n).drop (j + 1) := by
    rw [List.drop_eq_getElem_cons (by rw [List.length_range]; exact h), List.getElem_range]
  have e2 : (List.range n).take j = List.range j := by
    rw [List.take_range, Nat.min_eq_left (Nat.le_of_lt h)]
  rw [← e2, ← e1, List.take_append_drop]

theorem row_none {n j : Nat} {p : Nat → Nat → Bool} (h : ∀ k, j ≤ k → k < n → p j k = false) :
    (((List.range n).filter fun k => decide (j ≤ k)).map fun k => (j, k)).find? (fun q : Nat × Nat => p q.1 q.2) = none := by
  rw [List.find?_eq_none]
  intro x hx
  obtain ⟨k, hk, rfl⟩ := List.mem_map.mp hx
  obtain ⟨hk1, hk2⟩ := List.mem_filter.mp hk
  rw [show p (j, k).1 (j, k).2 = false from h k (of_decide_eq_true hk2) (List.mem_range.mp hk1)]
  exact Bool.false_ne_true

theorem row_some {n j k : Nat} {p : Nat → Nat → Bool} (hjk : j ≤ k) (hk : k < n) (hp : p j k = true) (h : ∀ i, j ≤ i → i < k → p j i = false) :
    (((List.range n).filter fun k => decide (j ≤ k)).map fun k => (j, k)).find? (fun q : Nat × Nat => p q.1 q.2) = some (j, k) := by
  rw [List.find?_map, List.find?_filter]
  have e : (List.range n).find? (fun a => decide (j ≤ a) && ((fun q : Nat × Nat => p q.1 q.2) ∘ fun k => (j, k)) a) = some k := by
    rw [List.find?_range_eq_some]
    refine ⟨?_, List.mem_range.mpr hk, fun i hi => ?_⟩
    · show (decide (j ≤ k) && p j k) = true
      rw [hp, decide_eq_true hjk]; rfl
    · show (!(decide (j ≤ i) && p j i)) = true
      by_cases hji : j ≤ i
      · rw [h i hji hi, Bool.and_false]; rfl
      · rw [decide_eq_false hji]; rfl
  have e' : (List.range n).find? (fun a => decide (decide (j ≤ a) = true ∧ ((fun q : Nat × Nat => p q.1 q.2) ∘ fun k => (j, k)) a = true)) = some k := by
    rw [← e]; congr 1; funext a
    cases decide (j ≤ a) <;> cases ((fun q : Nat × Nat => p q.1 q.2) ∘ fun k => (j, k)) a <;> rfl
  first
    | rw [e]; rfl
    | rw [e']; rfl

theorem why_none {a : Abs} (h : ∀ j k, j ≤ k → k < a.n → tell a j k = false) : a.why = none := by
  unfold Abs.why
  have e : (a.pairs.find? fun p => a.old p.1 p.2 || a.late p.1 p.2) = none := by
    unfold Abs.pairs Abs.ids
    rw [List.find?_flatMap, List.findSome?_eq_none_iff]
    intro j hj
    exact row_none (p := tell a) fun k h1 h2 => h j k h1 h2
  rw [e]; rfl

theorem why_some {a : Abs} {j k : Nat} (hjk : j ≤ k) (hk : k < a.n) (ht : tell a j k = true) (h1 : ∀ j' k', j' < j → j' ≤ k' → k' < a.n → tell a j' k' = false) (h2 : ∀ k', j ≤ k' → k' < k → tell a j k' = false) :
    a.why = some (if a.old j k then 0 else 1, j, k) := by
  unfold Abs.why
  have e : (a.pairs.find? fun p => a.old p.1 p.2 || a.late p.1 p.2) = some (j, k) := by
    unfold Abs.pairs Abs.ids
    rw [List.find?_flatMap, range_split (n := a.n) (j := j) (by omega), List.findSome?_append]
    have e1 : (List.range j).findSome? (fun j => (((List.range a.n).filter fun k => decide (j ≤ k)).map fun k => (j, k)).find? (fun q : Nat × Nat => tell a q.1 q.2)) = none := by
      rw [List.findSome?_eq_none_iff]
      intro j' hj'
      exact row_none (p := tell a) fun k' q1 q2 => h1 j' k' (List.mem_range.mp hj') q1 q2
    have e2 := row_some (n := a.n) (p := tell a) hjk hk ht h2
    rw [← range_split (n := a.n) (j := j) (by omega)]
    show Option.or ((List.range j).findSome? (fun j => (((List.range a.n).filter fun k => decide (j ≤ k)).map fun k => (j, k)).find? (fun q : Nat × Nat => tell a q.1 q.2))) _ = _
    rw [e1]
    show (List.findSome? (fun j => (((List.range a.n).filter fun k => decide (j ≤ k)).map fun k => (j, k)).find? (fun q : Nat × Nat => tell a q.1 q.2)) (j :: _)) = _
    rw [List.findSome?_cons]
    rw [e2]
  rw [e]; rfl

theorem can_iff {a : Abs} : a.can = true ↔ ∀ j k, j ≤ k → k < a.n → tell a j k = false := by
  constructor
  · intro h j k hjk hk
    unfold Abs.can Abs.why at h
    rw [Option.isNone_iff_eq_none, Option.map_eq_none_iff, List.find?_eq_none] at h
    have hm : (j, k) ∈ a.pairs := by
      unfold Abs.pairs Abs.ids
      rw [List.mem_flatMap]
      refine ⟨j, List.mem_range.mpr (by omega), List.mem_map.mpr ⟨k, List.mem_filter.mpr ⟨List.mem_range.mpr hk, decide_eq_true hjk⟩, rfl⟩⟩
    have q := h (j, k) hm
    unfold tell
    exact Bool.eq_false_iff.mpr q
  · intro h
    unfold Abs.can
    rw [why_none h]; rfl
end Mth


namespace Mth
open Kv366

/-! ### the soonest start -/
def stV (a : Abs) (k : Nat) : Nat := (k + 1) * a.fill + a.d k - k * a.lay
def stTo (a : Abs) (i : Nat) : Nat := ((List.range i).map (stV a)).foldl max 0
theorem stTo_succ (a : Abs) (i : Nat) : stTo a (i + 1) = max (stTo a i) (stV a i) := by
  unfold stTo
  rw [List.range_succ, List.map_append, List.foldl_append]; rfl
theorem start_eq (a : Abs) : a.start = stTo a a.n := rfl
theorem stV_le {a : Abs} : ∀ {i k : Nat}, k < i → stV a k ≤ stTo a i
  | 0, k, h => absurd h (Nat.not_lt_zero _)
  | i + 1, k, h => by
    rw [stTo_succ]
    by_cases e : k = i
    · subst e; exact Nat.le_max_right _ _
    · exact Nat.le_trans (stV_le (by omega)) (Nat.le_max_left _ _)

/-! ### soonest -/
def lor (a : Abs) (s k : Nat) : Nat := if k < a.lorries then 0 else s + (k - a.lorries + 1) * a.lay + a.d (k - a.lorries) + a.fill
def soStep (a : Abs) (s : Nat) (l : List Nat) (k : Nat) : List Nat := l ++ [max (max (l.getLastD 0 + a.fill) (s + k * a.lay - a.keep)) (lor a s k)]
def soTo (a : Abs) (s i : Nat) : List Nat := (List.range i).foldl (soStep a s) []
theorem soonest_eq (a : Abs) (s : Nat) : a.soonest s = soTo a s a.n := rfl
theorem soTo_succ (a : Abs) (s i : Nat) : soTo a s (i + 1) = soStep a s (soTo a s i) i := by
  unfold soTo
  rw [List.range_succ, List.foldl_append]; rfl
theorem soTo_length (a : Abs) (s : Nat) : ∀ i, (soTo a s i).length = i
  | 0 => rfl
  | i + 1 => by
    rw [soTo_succ]
    unfold soStep
    rw [List.length_append, soTo_length a s i]; rfl
def soV (a : Abs) (s : Nat) : Nat → Nat
  | 0 => max (max (0 + a.fill) (s + 0 * a.lay - a.keep)) (lor a s 0)
  | k + 1 => max (max (soV a s k + a.fill) (s + (k + 1) * a.lay - a.keep)) (lor a s (k + 1))
theorem soTo_map (a : Abs) (s : Nat) : ∀ i, soTo a s i = (List.range i).map (soV a s)
  | 0 => rfl
  | 1 => rfl
  | i + 2 => by
    rw [soTo_succ, soTo_map a s (i + 1), List.range_succ (n := i + 1), List.map_append]
    unfold soStep
    congr 1
    have e : (List.map (soV a s) (List.range (i + 1))).getLastD 0 = soV a s i := by
      rw [List.range_succ, List.map_append]; simp
    rw [e]; rfl
theorem soonest_get {a : Abs} {s k : Nat} (h : k < a.n) : (a.soonest s).getD k 0 = soV a s k := by
  rw [soonest_eq, soTo_map, List.getD_eq_getElem?_getD, List.getElem?_map, List.getElem?_range h]; rfl
theorem soonest_length (a : Abs) (s : Nat) : (a.soonest s).length = a.n := by rw [soonest_eq, soTo_length]

theorem soV_le {a : Abs} {s : Nat} : ∀ (k X : Nat), (k + 1) * a.fill ≤ X → (∀ j, j ≤ k → s + j * a.lay - a.keep + (k - j) * a.fill ≤ X) → (∀ j, j ≤ k → lor a s j + (k - j) * a.fill ≤ X) → soV a s k ≤ X
  | 0, X, h1, h2, h3 => by
    have q2 := h2 0 (Nat.le_refl _)
    have q3 := h3 0 (Nat.le_refl _)
    rw [Nat.sub_self, Nat.zero_mul] at q2 q3
    rw [Nat.zero_add, Nat.one_mul] at h1
    show max (max (0 + a.fill) (s + 0 * a.lay - a.keep)) (lor a s 0) ≤ X
    omega
  | k + 1, X, h1, h2, h3 => by
    have q2 := h2 (k + 1) (Nat.le_refl _)
    have q3 := h3 (k + 1) (Nat.le_refl _)
    rw [Nat.sub_self, Nat.zero_mul] at q2 q3
    rw [Nat.add_mul, Nat.one_mul] at h1
    have ih := soV_le (a := a) (s := s) k (X - a.fill) (by omega) (fun j hj => by
      have q := h2 j (by omega)
      rw [show k + 1 - j = (k - j) + 1 by omega, Nat.add_mul, Nat.one_mul] at q
      omega) (fun j hj => by
      have q := h3 j (by omega)
      rw [show k + 1 - j = (k - j) + 1 by omega, Nat.add_mul, Nat.one_mul] at q
      omega)
    show max (max (soV a s k + a.fill) (s + (k + 1) * a.lay - a.keep)) (lor a s (k + 1)) ≤ X
    have hm : a.fill ≤ (k + 1) * a.fill := by rw [Nat.add_mul, Nat.one_mul]; omega
    omega

theorem old_le {a : Abs} {j k : Nat} (h : tell a j k = false) : (k - j) * a.fill + a.d k ≤ (k - j) * a.lay + a.keep := by
  unfold tell at h
  have q := (Bool.or_eq_false_iff.mp h).1
  unfold Abs.old at q
  have := of_decide_eq_false q
  omega
theorem late_le {a : Abs} {j k : Nat} (h : tell a j k = false) (hj : a.lorries ≤ j) : (k - j + 1) * a.fill + a.d (j - a.lorries) + a.d k ≤ (k - j) * a.lay + (a.lorries - 1) * a.lay := by
  unfold tell at h
  have q := (Bool.or_eq_false_iff.mp h).2
  unfold Abs.late at q
  rw [decide_eq_true hj, Bool.true_and] at q
  have := of_decide_eq_false q
  omega

/-- with that start there is a plan: each load is there when it's to be begun -/
theorem there {a : Abs} {s k : Nat} (hl : 1 ≤ a.lorries) (hc : a.could s = true) (hk : k < a.n) : soV a s k + a.d k ≤ s + k * a.lay := by
  unfold Abs.could at hc
  obtain ⟨c1, c2⟩ := Bool.and_eq_true_iff.mp hc
  have c2 := of_decide_eq_true c2
  have st : stV a k ≤ s := Nat.le_trans (stV_le hk) c2
  unfold stV at st
  have c1 := can_iff.mp c1
  have h0 : soV a s k ≤ s + k * a.lay - a.d k := by
    refine soV_le k _ (by omega) (fun j hj => ?_) (fun j hj => ?_)
    · have o := old_le (c1 j k hj hk)
      have m : k * a.lay = j * a.lay + (k - j) * a.lay := by rw [← Nat.add_mul]; congr 1; omega
      have f : (k - j) * a.fill ≤ (k + 1) * a.fill := Nat.mul_le_mul_right _ (by omega)
      omega
    · unfold lor
      have f : (k - j) * a.fill ≤ (k + 1) * a.fill := Nat.mul_le_mul_right _ (by omega)
      by_cases hj2 : j < a.lorries
      · rw [if_pos hj2]; omega
      · rw [if_neg hj2]
        have o := late_le (c1 j k hj hk) (by omega)
        have m : k * a.lay = (k - j) * a.lay + (a.lorries - 1) * a.lay + (j - a.lorries + 1) * a.lay := by rw [← Nat.add_mul, ← Nat.add_mul]; congr 1; omega
        rw [Nat.add_mul (k - j) 1, Nat.one_mul] at o
        omega
  omega

/-! ### latest -/
def laStep (a : Abs) (s : Nat) (l : List Nat) (k : Nat) : List Nat := (match l with
  | [] => s + k * a.lay - a.d k
  | f :: _ => min (s + k * a.lay - a.d k) (f - a.fill)) :: l
theorem latest_eq (a : Abs) (s : Nat) : a.latest s = (List.range a.n).reverse.foldl (laStep a s) [] := rfl
theorem la_turn (a : Abs) (s m : Nat) (l : List Nat) : (List.range (m + 1)).reverse.foldl (laStep a s) l = (List.range m).reverse.foldl (laStep a s) (laStep a s l m) := by
  rw [List.range_succ, List.reverse_append]; rfl
theorem start_at {a : Abs} {s k : Nat} (hc : a.could s = true) (hk : k < a.n) : (k + 1) * a.fill + a.d k ≤ s + k * a.lay := by
  unfold Abs.could at hc
  obtain ⟨c1, c2⟩ := Bool.and_eq_true_iff.mp hc
  have c2 := of_decide_eq_true c2
  have st : stV a k ≤ s := Nat.le_trans (stV_le hk) c2
  unfold stV at st
  omega
end Mth


namespace Mth
open PyKv366

theorem whole_id (c : List (List Int)) : whole c = c := by
  unfold whole
  split <;> rfl
theorem map_whole (cs : List (List (List Int))) : cs.map whole = cs := by
  rw [show whole = id from funext whole_id]; exact List.map_id cs

/-- how many whole numbers a call takes -/
def takes (p : Nat) : Nat := ([3, 1, 2, 0, 1, 1, 1, 1, 0, 0, 0, 1, 1, 1, 1, 1, 1, 1, 0, 0, 0, 0, 1, 1, 0, 0] : List Nat).getD p 0

theorem shape_range {p : Int} {x : Nat × Nat} (h : shape p = some x) : ∃ q : Nat, p = (q : Int) ∧ q < 26 := by
  by_cases hp : 0 ≤ p ∧ p < 26
  · exact ⟨p.toNat, by omega, by omega⟩
  · unfold shape at h
    repeat rw [if_neg (by omega)] at h
    cases h
theorem shape_at : ∀ q : Nat, q < 26 → shape (q : Int) = some (takes q, if q = 17 then 1 else 0) := by decide

theorem calls_nil {f : Nat} : PyFlat.calls shape f [] = some [] := by
  cases f <;> rfl

theorem calls_cons {f : Nat} {p : Int} {r : List Int} {cs : List (List (List Int))} (h : PyFlat.calls shape f (p :: r) = some cs) :
    ∃ (f' : Nat) (c : List (List Int)) (t : List Int) (cs' : List (List (List Int))), PyFlat.call shape (p :: r) = some (c, t) ∧ PyFlat.calls shape f' t = some cs' ∧ cs = c :: cs' := by
  cases f with
  | zero => cases h
  | succ f =>
    unfold PyFlat.calls at h
    cases e : PyFlat.call shape (p :: r) with
    | none => rw [e] at h; cases h
    | some x =>
      obtain ⟨c, t⟩ := x
      rw [e] at h
      dsimp only at h
      cases e2 : PyFlat.calls shape f t with
      | none => rw [e2] at h; cases h
      | some cs' =>
        rw [e2] at h
        exact ⟨f, c, t, cs', rfl, e2, (Option.some.inj h).symm⟩

theorem call_at {p : Int} {r : List Int} {c : List (List Int)} {t : List Int} (h : PyFlat.call shape (p :: r) = some (c, t)) :
    ∃ q : Nat, p = (q : Int) ∧ q < 26 ∧ takes q ≤ r.length ∧ ((q ≠ 17 ∧ c = [p :: r.take (takes q)] ∧ t = r.drop (takes q)) ∨
      (q = 17 ∧ ∃ (s m : Int) (r' : List Int), r = s :: m :: r' ∧ 0 ≤ m ∧ m.toNat ≤ r'.length ∧ c = [[p, s], r'.take m.toNat] ∧ t = r'.drop m.toNat)) := by
  unfold PyFlat.call at h
  dsimp only at h
  cases e : shape p with
  | none => rw [e] at h; cases h
  | some x =>
    obtain ⟨q, rfl, hq⟩ := shape_range e
    rw [shape_at q hq] at e
    rw [shape_at q hq] at h
    dsimp only at h
    refine ⟨q, rfl, hq, ?_⟩
    by_cases hl : r.length < takes q
    · rw [if_pos hl] at h; cases h
    · rw [if_neg hl] at h
      refine ⟨by omega, ?_⟩
      by_cases h17 : q = 17
      · refine .inr ⟨h17, ?_⟩
        subst h17
        rw [show takes 17 = 1 from rfl] at hl h
        rw [if_pos rfl] at h
        match r, hl with
        | [], hl => exact absurd (by decide : ([] : List Int).length < 1) hl
        | [s], _ =>
          cases h
        | s :: m :: r', _ =>
          rw [show (s :: m :: r').drop 1 = m :: r' from rfl, show (s :: m :: r').take 1 = [s] from rfl] at h
          unfold PyFlat.rows PyFlat.row at h
          dsimp only at h
          by_cases hm : 0 ≤ m ∧ m.toNat ≤ r'.length
          · rw [if_pos hm] at h
            dsimp only [PyFlat.rows] at h
            have e := Option.some.inj h
            have e1 := (Prod.mk.inj e).1
            have e2 := (Prod.mk.inj e).2
            exact ⟨s, m, r', rfl, hm.1, hm.2, e1.symm, e2.symm⟩
          · rw [if_neg hm] at h; cases h
      · rw [if_neg h17] at h
        unfold PyFlat.rows at h
        dsimp only at h
        have e := Option.some.inj h
        exact .inl ⟨h17, (Prod.mk.inj e).1.symm, (Prod.mk.inj e).2.symm⟩

theorem answers_eq {l : List Int} {cs : List (List (List Int))} (h : PyFlat.calls shape l.length l = some cs) : answers l = PyFlat.told (PyFlat.played Kv366Neutral.step Kv366Neutral.start cs) := by
  unfold answers calls
  rw [h]
  dsimp only
  rw [map_whole]
theorem asked_calls {l : List Int} (h : answers_asked l = true) : ∃ cs, PyFlat.calls shape l.length l = some cs ∧ (answers l).length ≤ 10000000 := by
  unfold answers_asked at h
  cases e : PyFlat.calls shape l.length l with
  | none => rw [e] at h; cases h
  | some raw =>
    rw [e] at h
    have q := (Bool.and_eq_true_iff.mp h).2
    exact ⟨raw, rfl, of_decide_eq_true q⟩
theorem told_cons (x : List Int) (r : List (List Int)) : PyFlat.told (x :: r) = ((x.length : Int) :: x) ++ PyFlat.told r := rfl
theorem played_cons (s : Kv366.State) (c : List (List Int)) (r : List (List (List Int))) : PyFlat.played Kv366Neutral.step s (c :: r) = (Kv366Neutral.step s c).2 :: PyFlat.played Kv366Neutral.step (Kv366Neutral.step s c).1 r := rfl
end Mth


namespace Mth
open Kv366

/-- max, min as Python's two-place calls have them -/
def mx (i j : Int) : Int := if j > i then j else i
def mn (i j : Int) : Int := if j < i then j else i

theorem old_int {a : Abs} {j k : Nat} (h : j ≤ k) : decide (((k : Int) - (j : Int)) * (a.lay : Int) + (a.keep : Int) < ((k : Int) - (j : Int)) * (a.fill : Int) + (a.d k : Int)) = a.old j k := by
  unfold Abs.old
  rw [show (k : Int) - (j : Int) = ((k - j : Nat) : Int) by omega, ← Int.natCast_mul, ← Int.natCast_mul]
  rw [decide_eq_decide]
  omega
theorem late_not {a : Abs} {j k : Nat} (h : j < a.lorries) : a.late j k = false := by
  unfold Abs.late
  rw [decide_eq_false (by omega), Bool.false_and]
theorem late_int {a : Abs} {j k : Nat} (h : j ≤ k) (hl : a.lorries ≤ j) (h1 : 1 ≤ a.lorries) : decide (((k : Int) - (j : Int) + (a.lorries : Int) - 1) * (a.lay : Int) < ((k : Int) - (j : Int) + 1) * (a.fill : Int) + (a.d (j - a.lorries) : Int) + (a.d k : Int)) = a.late j k := by
  unfold Abs.late
  rw [decide_eq_true hl, Bool.true_and, ← Nat.add_mul]
  rw [show (k : Int) - (j : Int) + (a.lorries : Int) - 1 = ((k - j + (a.lorries - 1) : Nat) : Int) by omega, show (k : Int) - (j : Int) + 1 = ((k - j + 1 : Nat) : Int) by omega, ← Int.natCast_mul, ← Int.natCast_mul]
  rw [decide_eq_decide]
  omega
theorem st_int (a : Abs) (i : Nat) : mx (stTo a i : Int) (((i : Int) + 1) * (a.fill : Int) + (a.d i : Int) - (i : Int) * (a.lay : Int)) = (stTo a (i + 1) : Int) := by
  rw [stTo_succ]
  unfold stV mx
  rw [show (i : Int) + 1 = ((i + 1 : Nat) : Int) by omega, ← Int.natCast_mul, ← Int.natCast_mul]
  split <;> omega
/-- what holds load k back by itself -/
def nbI (a : Abs) (s k : Nat) : Int :=
  if k < a.lorries then mx (a.fill : Int) ((s : Int) + (k : Int) * (a.lay : Int) - (a.keep : Int))
  else mx (mx (a.fill : Int) ((s : Int) + (k : Int) * (a.lay : Int) - (a.keep : Int))) ((s : Int) + ((k : Int) - (a.lorries : Int) + 1) * (a.lay : Int) + (a.d (k - a.lorries) : Int) + (a.fill : Int))
theorem so_int (a : Abs) (s k l : Nat) : mx ((l : Int) + (a.fill : Int)) (nbI a s k) = ((max (max (l + a.fill) (s + k * a.lay - a.keep)) (lor a s k) : Nat) : Int) := by
  unfold nbI lor
  rw [← Int.natCast_mul]
  by_cases h : k < a.lorries
  · rw [if_pos h, if_pos h]
    unfold mx
    split <;> split <;> omega
  · rw [if_neg h, if_neg h, show (k : Int) - (a.lorries : Int) + 1 = ((k - a.lorries + 1 : Nat) : Int) by omega, ← Int.natCast_mul]
    unfold mx
    split <;> split <;> split <;> omega
/-- latest, by the turn: what is told so far, and when the next filling must have ended -/
def laNext (a : Abs) (s : Nat) : List Nat → Int
  | [] => (s : Int) + (a.n : Int) * (a.lay : Int)
  | f :: _ => (f : Int) - (a.fill : Int)
def laFit (a : Abs) (k : Nat) : List Nat → Prop
  | [] => True
  | f :: _ => (k + 1) * a.fill ≤ f
theorem la_int {a : Abs} {s k : Nat} {l : List Nat} (hc : a.could s = true) (hk : k < a.n) (hf : laFit a (k + 1) l) :
    ∃ f : Nat, laStep a s l k = f :: l ∧ mn (laNext a s l) ((s : Int) + (k : Int) * (a.lay : Int) - (a.d k : Int)) = (f : Int) ∧ (k + 1) * a.fill ≤ f ∧ laNext a s (f :: l) = (f : Int) - (a.fill : Int) := by
  have h0 := start_at hc hk
  cases l with
  | nil =>
    refine ⟨s + k * a.lay - a.d k, rfl, ?_, by omega, rfl⟩
    show mn ((s : Int) + (a.n : Int) * (a.lay : Int)) _ = _
    unfold mn
    have m : k * a.lay ≤ a.n * a.lay := Nat.mul_le_mul_right _ (Nat.le_of_lt hk)
    rw [← Int.natCast_mul, ← Int.natCast_mul]
    split <;> omega
  | cons f r =>
    have hf : (k + 1 + 1) * a.fill ≤ f := hf
    rw [Nat.add_mul (k + 1) 1, Nat.one_mul] at hf
    refine ⟨min (s + k * a.lay - a.d k) (f - a.fill), rfl, ?_, by omega, rfl⟩
    show mn ((f : Int) - (a.fill : Int)) _ = _
    unfold mn
    rw [← Int.natCast_mul]
    split <;> omega
end Mth


namespace Mth
open Kv366

/-! ### what helps, what harms: can, by each of the data -/
theorem late_iff {a : Abs} {j k : Nat} : a.late j k = true ↔ a.lorries ≤ j ∧ (k - j) * a.lay + (a.lorries - 1) * a.lay < (k - j + 1) * a.fill + a.d (j - a.lorries) + a.d k := by
  unfold Abs.late
  rw [Bool.and_eq_true_iff, decide_eq_true_iff, decide_eq_true_iff]
theorem old_iff {a : Abs} {j k : Nat} : a.old j k = true ↔ (k - j) * a.lay + a.keep < (k - j) * a.fill + a.d k := by
  unfold Abs.old
  rw [decide_eq_true_iff]
theorem tell_iff {a : Abs} {j k : Nat} : tell a j k = true ↔ a.old j k = true ∨ a.late j k = true := by
  unfold tell
  rw [Bool.or_eq_true_iff]
/-- one that tells of b tells (as it may be by another pair) of a, too: then b can be where a can -/
theorem can_mono {a b : Abs} (hn : b.n = a.n) (h : ∀ j k, j ≤ k → k < a.n → tell b j k = true → ∃ j' k', j' ≤ k' ∧ k' < a.n ∧ tell a j' k' = true) (hc : a.can = true) : b.can = true := by
  rw [can_iff] at hc ⊢
  intro j k hjk hk
  cases e : tell b j k with
  | false => rfl
  | true =>
    rw [hn] at hk
    obtain ⟨j', k', h1, h2, h3⟩ := h j k hjk hk e
    rw [hc j' k' h1 h2] at h3
    cases h3
theorem can_more {a : Abs} {n : Nat} (h1 : 1 ≤ n) (hc : (a.withN n).can = true) : (a.withN (n + 1)).can = true := by
  refine can_mono (a := a.withN n) (b := a.withN (n + 1)) rfl (fun j k hjk hk e => ?_) hc
  rcases tell_iff.mp e with e | e
  · exact ⟨j, k, hjk, hk, tell_iff.mpr (.inl e)⟩
  · obtain ⟨e1, e2⟩ := late_iff.mp e
    have e1 : n + 1 ≤ j := e1
    have e2 : (k - j) * a.lay + (n + 1 - 1) * a.lay < (k - j + 1) * a.fill + a.d (j - (n + 1)) + a.d k := e2
    refine ⟨j - 1, k, by omega, hk, tell_iff.mpr (.inr (late_iff.mpr ⟨show n ≤ j - 1 by omega, ?_⟩))⟩
    show (k - (j - 1)) * a.lay + (n - 1) * a.lay < (k - (j - 1) + 1) * a.fill + a.d (j - 1 - n) + a.d k
    rw [show j - 1 - n = j - (n + 1) by omega, ← Nat.add_mul, show k - (j - 1) + (n - 1) = k - j + (n + 1 - 1) by omega, Nat.add_mul]
    have : (k - j + 1) * a.fill ≤ (k - (j - 1) + 1) * a.fill := Nat.mul_le_mul_right _ (by omega)
    omega
theorem can_lay {a : Abs} {x y : Nat} (h : x ≤ y) (hc : ({ a with lay := x } : Abs).can = true) : ({ a with lay := y } : Abs).can = true := by
  refine can_mono (a := { a with lay := x }) (b := { a with lay := y }) rfl (fun j k hjk hk e => ⟨j, k, hjk, hk, ?_⟩) hc
  rw [tell_iff] at e ⊢
  rcases e with e | e
  · left
    have e : (k - j) * y + a.keep < (k - j) * a.fill + a.d k := old_iff.mp e
    refine old_iff.mpr ?_
    show (k - j) * x + a.keep < (k - j) * a.fill + a.d k
    have : (k - j) * x ≤ (k - j) * y := Nat.mul_le_mul_left _ h
    omega
  · right
    obtain ⟨e1, e2⟩ := late_iff.mp e
    have e2 : (k - j) * y + (a.lorries - 1) * y < (k - j + 1) * a.fill + a.d (j - a.lorries) + a.d k := e2
    refine late_iff.mpr ⟨e1, ?_⟩
    show (k - j) * x + (a.lorries - 1) * x < (k - j + 1) * a.fill + a.d (j - a.lorries) + a.d k
    have : (k - j) * x ≤ (k - j) * y := Nat.mul_le_mul_left _ h
    have : (a.lorries - 1) * x ≤ (a.lorries - 1) * y := Nat.mul_le_mul_left _ h
    omega
theorem can_keep {a : Abs} {x y : Nat} (h : x ≤ y) (hc : ({ a with keep := x } : Abs).can = true) : ({ a with keep := y } : Abs).can = true := by
  refine can_mono (a := { a with keep := x }) (b := { a with keep := y }) rfl (fun j k hjk hk e => ⟨j, k, hjk, hk, ?_⟩) hc
  rw [tell_iff] at e ⊢
  rcases e with e | e
  · left
    have e : (k - j) * a.lay + y < (k - j) * a.fill + a.d k := old_iff.mp e
    refine old_iff.mpr ?_
    show (k - j) * a.lay + x < (k - j) * a.fill + a.d k
    omega
  · right
    exact e
theorem can_fill {a : Abs} {x y : Nat} (h : x ≤ y) (hc : ({ a with fill := y } : Abs).can = true) : ({ a with fill := x } : Abs).can = true := by
  refine can_mono (a := { a with fill := y }) (b := { a with fill := x }) rfl (fun j k hjk hk e => ⟨j, k, hjk, hk, ?_⟩) hc
  rw [tell_iff] at e ⊢
  rcases e with e | e
  · left
    have e : (k - j) * a.lay + a.keep < (k - j) * x + a.d k := old_iff.mp e
    refine old_iff.mpr ?_
    show (k - j) * a.lay + a.keep < (k - j) * y + a.d k
    have : (k - j) * x ≤ (k - j) * y := Nat.mul_le_mul_left _ h
    omega
  · right
    obtain ⟨e1, e2⟩ := late_iff.mp e
    have e2 : (k - j) * a.lay + (a.lorries - 1) * a.lay < (k - j + 1) * x + a.d (j - a.lorries) + a.d k := e2
    refine late_iff.mpr ⟨e1, ?_⟩
    show (k - j) * a.lay + (a.lorries - 1) * a.lay < (k - j + 1) * y + a.d (j - a.lorries) + a.d k
    have : (k - j + 1) * x ≤ (k - j + 1) * y := Nat.mul_le_mul_left _ h
    omega
theorem setD_n (a : Abs) (i x : Nat) : (a.setD i x).n = a.n := by
  unfold Abs.n Abs.setD
  exact List.length_set
theorem setD_d {a : Abs} {i : Nat} (hi : i < a.n) (x k : Nat) : (a.setD i x).d k = if k = i then x else a.d k := by
  unfold Abs.d Abs.setD
  rw [List.getD_eq_getElem?_getD, List.getD_eq_getElem?_getD, List.getElem?_set]
  by_cases h : k = i
  · subst h
    rw [if_pos rfl, if_pos rfl, if_pos (show k < a.drives.length from hi)]
    rfl
  · rw [if_neg (fun e => h e.symm), if_neg h]
theorem can_way {a : Abs} {i x y : Nat} (hi : i < a.n) (h : x ≤ y) (hc : (a.setD i y).can = true) : (a.setD i x).can = true := by
  have hd : ∀ k, (a.setD i x).d k ≤ (a.setD i y).d k := fun k => by
    rw [setD_d hi, setD_d hi]
    split <;> omega
  refine can_mono (a := a.setD i y) (b := a.setD i x) (by rw [setD_n, setD_n]) (fun j k hjk hk e => ⟨j, k, hjk, hk, ?_⟩) hc
  rw [tell_iff] at e ⊢
  rcases e with e | e
  · left
    have e : (k - j) * a.lay + a.keep < (k - j) * a.fill + (a.setD i x).d k := old_iff.mp e
    refine old_iff.mpr ?_
    show (k - j) * a.lay + a.keep < (k - j) * a.fill + (a.setD i y).d k
    have := hd k
    omega
  · right
    obtain ⟨e1, e2⟩ := late_iff.mp e
    have e2 : (k - j) * a.lay + (a.lorries - 1) * a.lay < (k - j + 1) * a.fill + (a.setD i x).d (j - a.lorries) + (a.setD i x).d k := e2
    refine late_iff.mpr ⟨e1, ?_⟩
    show (k - j) * a.lay + (a.lorries - 1) * a.lay < (k - j + 1) * a.fill + (a.setD i y).d (j - a.lorries) + (a.setD i y).d k
    have := hd k
    have := hd (j - a.lorries)
    omega
end Mth


namespace Mth
open PyKv366

def iz (l : List Nat) : List Int := l.map fun (n : Nat) => (n : Int)
/-- the call with place q and the numbers told behind it -/
def Says (q : Nat) (told : List Nat) : Kv366.Call → Prop
  | .begin_ f l k => q = 0 ∧ told = [f, l, k]
  | .load d => q = 1 ∧ told = [d]
  | .drive k d => q = 2 ∧ told = [k, d]
  | .less => q = 3 ∧ told = []
  | .lorries n => q = 4 ∧ told = [n]
  | .filling n => q = 5 ∧ told = [n]
  | .laying n => q = 6 ∧ told = [n]
  | .keeping n => q = 7 ∧ told = [n]
  | .can => q = 8 ∧ told = []
  | .why => q = 9 ∧ told = []
  | .start => q = 10 ∧ told = []
  | .soonest s => q = 11 ∧ told = [s]
  | .latest s => q = 12 ∧ told = [s]
  | .ages s => q = 13 ∧ told = [s]
  | .waits s => q = 14 ∧ told = [s]
  | .ifstart s => q = 15 ∧ told = [s]
  | .ends s => q = 16 ∧ told = [s]
  | .try_ s l => q = 17 ∧ told = s :: l.length :: l
  | .fewest => q = 18 ∧ told = []
  | .leastlay => q = 19 ∧ told = []
  | .leastkeep => q = 20 ∧ told = []
  | .mostfill => q = 21 ∧ told = []
  | .spare k => q = 22 ∧ told = [k]
  | .tour i => q = 23 ∧ told = [i]
  | .drives => q = 24 ∧ told = []
  | .state => q = 25 ∧ told = []
theorem len0 {l : List Nat} (h : l.length = 0) : l = [] := List.length_eq_zero_iff.mp h
theorem len1 {l : List Nat} (h : l.length = 1) : ∃ x, l = [x] := by
  match l, h with
  | [x], _ => exact ⟨x, rfl⟩
theorem len2 {l : List Nat} (h : l.length = 2) : ∃ x y, l = [x, y] := by
  match l, h with
  | [x, y], _ => exact ⟨x, y, rfl⟩
theorem len3 {l : List Nat} (h : l.length = 3) : ∃ x y z, l = [x, y, z] := by
  match l, h with
  | [x, y, z], _ => exact ⟨x, y, z, rfl⟩
theorem says_plain {q : Nat} {told : List Nat} (hq : q < 26) (h17 : q ≠ 17) (hl : told.length = takes q) : ∃ kc, Kv366Neutral.callOf [(q : Int) :: iz told] = some kc ∧ Says q told kc := by
  have : q = 0 ∨ q = 1 ∨ q = 2 ∨ q = 3 ∨ q = 4 ∨ q = 5 ∨ q = 6 ∨ q = 7 ∨ q = 8 ∨ q = 9 ∨ q = 10 ∨ q = 11 ∨ q = 12 ∨ q = 13 ∨ q = 14 ∨ q = 15 ∨ q = 16 ∨ q = 18 ∨ q = 19 ∨ q = 20 ∨ q = 21 ∨ q = 22 ∨ q = 23 ∨ q = 24 ∨ q = 25 := by omega
  rcases this with rfl | rfl | rfl | rfl | rfl | rfl | rfl | rfl | rfl | rfl | rfl | rfl | rfl | rfl | rfl | rfl | rfl | rfl | rfl | rfl | rfl | rfl | rfl | rfl | rfl <;> first
    | (obtain rfl := len0 hl; exact ⟨_, rfl, rfl, rfl⟩)
    | (obtain ⟨x, rfl⟩ := len1 hl; exact ⟨_, rfl, rfl, rfl⟩)
    | (obtain ⟨x, y, rfl⟩ := len2 hl; exact ⟨_, rfl, rfl, rfl⟩)
    | (obtain ⟨x, y, z, rfl⟩ := len3 hl; exact ⟨_, rfl, rfl, rfl⟩)
theorem iz_take (l : List Nat) (k : Nat) : (iz l).take k = iz (l.take k) := by
  unfold iz; rw [List.map_take]
theorem iz_drop (l : List Nat) (k : Nat) : (iz l).drop k = iz (l.drop k) := by
  unfold iz; rw [List.map_drop]
theorem iz_length (l : List Nat) : (iz l).length = l.length := List.length_map ..
theorem nats_iz (l : List Nat) : Kv366Neutral.nats (iz l) = l := by
  unfold Kv366Neutral.nats iz
  rw [List.map_map]
  exact List.map_id l
theorem turn {ns : List Nat} {i f : Nat} {cs : List (List (List Int))} (hi : i < ns.length) (h : PyFlat.calls shape f (iz (ns.drop i)) = some cs) :
    ∃ (f' q e : Nat) (kc : Kv366.Call) (c : List (List Int)) (cs' : List (List (List Int))), ns[i]? = some q ∧ q < 26 ∧ cs = c :: cs' ∧ Kv366Neutral.callOf c = some kc ∧ Says q ((ns.drop (i + 1)).take (e - (i + 1))) kc ∧ i < e ∧ e ≤ ns.length ∧
      PyFlat.calls shape f' (iz (ns.drop e)) = some cs' ∧ ((q ≠ 17 ∧ e = i + 1 + takes q) ∨ (q = 17 ∧ ∃ m, ns[i + 2]? = some m ∧ e = i + 3 + m)) := by
  have e0 : ns.drop i = ns[i] :: ns.drop (i + 1) := List.drop_eq_getElem_cons hi
  rw [e0] at h
  have h : PyFlat.calls shape f ((ns[i] : Int) :: iz (ns.drop (i + 1))) = some cs := h
  obtain ⟨f', c, t, cs', h1, h2, h3⟩ := calls_cons h
  obtain ⟨q, eq, hq, hl, hc⟩ := call_at h1
  have eq : ns[i] = q := by omega
  have hqi : ns[i]? = some q := by rw [List.getElem?_eq_getElem hi, eq]
  rw [iz_length, List.length_drop] at hl
  rcases hc with ⟨h17, ec, et⟩ | ⟨h17, s, m, r', er, hm, hm2, ec, et⟩
  · refine ⟨f', q, i + 1 + takes q, ?_⟩
    rw [iz_take] at ec
    rw [iz_drop, List.drop_drop] at et
    obtain ⟨kc, k1, k2⟩ := says_plain (told := (ns.drop (i + 1)).take (takes q)) hq h17 (by rw [List.length_take, List.length_drop]; omega)
    refine ⟨kc, c, cs', hqi, hq, h3, ?_, ?_, by omega, by omega, ?_, .inl ⟨h17, rfl⟩⟩
    · rw [ec, eq]; exact k1
    · rw [show i + 1 + takes q - (i + 1) = takes q by omega]; exact k2
    · rw [et] at h2; exact h2
  · subst h17
    have h1 : i + 1 < ns.length := by rw [show takes 17 = 1 from rfl] at hl; omega
    have er2 : ns.drop (i + 1) = ns[i + 1] :: ns.drop (i + 1 + 1) := List.drop_eq_getElem_cons h1
    rw [er2] at er
    have ea : ((ns[i + 1] : Nat) : Int) = s := (List.cons.inj er).1
    have eb : iz (ns.drop (i + 1 + 1)) = m :: r' := (List.cons.inj er).2
    have h2' : i + 2 < ns.length := by
      have := congrArg List.length eb
      rw [iz_length, List.length_drop, List.length_cons] at this
      omega
    have er3 : ns.drop (i + 1 + 1) = ns[i + 2] :: ns.drop (i + 1 + 1 + 1) := List.drop_eq_getElem_cons h2'
    rw [er3] at eb
    have ec1 : ((ns[i + 2] : Nat) : Int) = m := (List.cons.inj eb).1
    have ed : iz (ns.drop (i + 1 + 1 + 1)) = r' := (List.cons.inj eb).2
    have em : m.toNat = ns[i + 2] := by omega
    rw [em, ← ed, iz_take] at ec
    rw [em, ← ed, iz_drop, List.drop_drop] at et
    rw [em, ← ed, iz_length, List.length_drop] at hm2
    refine ⟨f', 17, i + 3 + ns[i + 2], .try_ ns[i + 1] ((ns.drop (i + 1 + 1 + 1)).take ns[i + 2]), c, cs', hqi, hq, h3, ?_, ?_, by omega, by omega, ?_, .inr ⟨rfl, _, List.getElem?_eq_getElem h2', rfl⟩⟩
    · rw [ec, eq, ← ea]
      show some (Kv366.Call.try_ _ (Kv366Neutral.nats (iz _))) = _
      rw [nats_iz]; rfl
    · refine ⟨rfl, ?_⟩
      rw [er2, er3, show i + 3 + ns[i + 2] - (i + 1) = ns[i + 2] + 1 + 1 by omega, List.take_succ_cons, List.take_succ_cons]
      congr 2
      rw [List.length_take, List.length_drop]
      omega
    · rw [show i + 1 + 1 + 1 + ns[i + 2] = i + 3 + ns[i + 2] by omega] at et
      rw [et] at h2; exact h2
theorem iz_of {l : List Int} (h : ∀ x ∈ l, 0 ≤ x) : ∃ ns : List Nat, l = iz ns := by
  refine ⟨l.map Int.toNat, ?_⟩
  unfold iz
  rw [List.map_map]
  have : l.map ((fun (n : Nat) => (n : Int)) ∘ Int.toNat) = l.map id := List.map_congr_left fun x hx => Int.toNat_of_nonneg (h x hx)
  rw [this, List.map_id]
end Mth


namespace Mth
open Kv366

/-! ### can, by one pass: how long ahead of being begun a load may be filled -/
def ahStep (a : Abs) (k : Nat) (z : Int) : Int :=
  if k < a.lorries then (if 0 < k then mn (a.keep : Int) (z + (a.lay : Int) - (a.fill : Int)) else (a.keep : Int))
  else mn (if 0 < k then mn (a.keep : Int) (z + (a.lay : Int) - (a.fill : Int)) else (a.keep : Int)) (((a.lorries : Int) - 1) * (a.lay : Int) - (a.d (k - a.lorries) : Int) - (a.fill : Int))
def ahTo (a : Abs) : Nat → Int
  | 0 => 0
  | k + 1 => ahStep a k (ahTo a k)
theorem mn_le {x i j : Int} : x ≤ mn i j ↔ x ≤ i ∧ x ≤ j := by
  unfold mn
  split <;> omega
theorem ah_le {a : Abs} {c : Int} (hc : (a.lay : Int) - (a.fill : Int) = c) : ∀ (k : Nat) (x : Int), x ≤ ahTo a (k + 1) ↔
    (∀ j, j ≤ k → x ≤ (a.keep : Int) + ((k - j : Nat) : Int) * c) ∧ (∀ j, j ≤ k → a.lorries ≤ j → x ≤ ((a.lorries : Int) - 1) * (a.lay : Int) - (a.d (j - a.lorries) : Int) - (a.fill : Int) + ((k - j : Nat) : Int) * c)
  | 0, x => by
    show x ≤ ahStep a 0 0 ↔ _
    unfold ahStep
    rw [if_neg (Nat.lt_irrefl 0)]
    constructor
    · intro h
      refine ⟨fun j hj => ?_, fun j hj hl => ?_⟩
      · obtain rfl : j = 0 := by omega
        rw [Nat.sub_self, Int.natCast_zero, Int.zero_mul, Int.add_zero]
        split at h
        · exact h
        · exact (mn_le.mp h).1
      · obtain rfl : j = 0 := by omega
        rw [if_neg (by omega)] at h
        rw [Nat.sub_self, Int.natCast_zero, Int.zero_mul, Int.add_zero]
        exact (mn_le.mp h).2
    · rintro ⟨h1, h2⟩
      have h1 := h1 0 (Nat.le_refl _)
      rw [Nat.sub_self, Int.natCast_zero, Int.zero_mul, Int.add_zero] at h1
      split
      · exact h1
      · have h2 := h2 0 (Nat.le_refl _) (by omega)
        rw [Nat.sub_self, Int.natCast_zero, Int.zero_mul, Int.add_zero] at h2
        exact mn_le.mpr ⟨h1, h2⟩
  | k + 1, x => by
    have ih := ah_le (a := a) hc k (x - c)
    show x ≤ ahStep a (k + 1) (ahTo a (k + 1)) ↔ _
    have e : ∀ j, j ≤ k → ((k + 1 - j : Nat) : Int) * c = ((k - j : Nat) : Int) * c + c := fun j hj => by
      rw [show k + 1 - j = (k - j) + 1 by omega, Int.natCast_add, Int.add_mul]
      show _ + 1 * c = _
      rw [Int.one_mul]
    have q : x ≤ ahStep a (k + 1) (ahTo a (k + 1)) ↔ x ≤ (a.keep : Int) ∧ x - c ≤ ahTo a (k + 1) ∧ (a.lorries ≤ k + 1 → x ≤ ((a.lorries : Int) - 1) * (a.lay : Int) - (a.d (k + 1 - a.lorries) : Int) - (a.fill : Int)) := by
      unfold ahStep
      rw [if_pos (Nat.succ_pos k)]
      by_cases h : k + 1 < a.lorries
      · rw [if_pos h, mn_le]
        constructor
        · rintro ⟨h1, h2⟩
          exact ⟨h1, by omega, fun z => absurd h (by omega)⟩
        · rintro ⟨h1, h2, _⟩
          exact ⟨h1, by omega⟩
      · rw [if_neg h, mn_le, mn_le]
        constructor
        · rintro ⟨⟨h1, h2⟩, h3⟩
          exact ⟨h1, by omega, fun _ => h3⟩
        · rintro ⟨h1, h2, h3⟩
          exact ⟨⟨h1, by omega⟩, h3 (by omega)⟩
    rw [q, ih]
    constructor
    · rintro ⟨h1, ⟨h2, h3⟩, h4⟩
      refine ⟨fun j hj => ?_, fun j hj hl => ?_⟩
      · by_cases hk : j = k + 1
        · subst hk
          rw [Nat.sub_self, Int.natCast_zero, Int.zero_mul, Int.add_zero]
          exact h1
        · have := h2 j (by omega)
          rw [e j (by omega)]
          omega
      · by_cases hk : j = k + 1
        · subst hk
          rw [Nat.sub_self, Int.natCast_zero, Int.zero_mul, Int.add_zero]
          exact h4 hl
        · have := h3 j (by omega) hl
          rw [e j (by omega)]
          omega
    · rintro ⟨h1, h2⟩
      refine ⟨?_, ⟨fun j hj => ?_, fun j hj hl => ?_⟩, fun hl => ?_⟩
      · have := h1 (k + 1) (Nat.le_refl _)
        rw [Nat.sub_self, Int.natCast_zero, Int.zero_mul, Int.add_zero] at this
        exact this
      · have := h1 j (by omega)
        rw [e j hj] at this
        omega
      · have := h2 j (by omega) hl
        rw [e j hj] at this
        omega
      · have := h2 (k + 1) (Nat.le_refl _) hl
        rw [Nat.sub_self, Int.natCast_zero, Int.zero_mul, Int.add_zero] at this
        exact this
theorem ah_can {a : Abs} (h1 : 1 ≤ a.lorries) : a.can = true ↔ ∀ k, k < a.n → (a.d k : Int) ≤ ahTo a (k + 1) := by
  rw [can_iff]
  have key : ∀ k, k < a.n → ((a.d k : Int) ≤ ahTo a (k + 1) ↔ ∀ j, j ≤ k → tell a j k = false) := fun k hk => by
    rw [ah_le rfl k]
    have m : ∀ j, ((k - j : Nat) : Int) * ((a.lay : Int) - (a.fill : Int)) = ((k - j) * a.lay : Nat) - ((k - j) * a.fill : Nat) := fun j => by
      rw [Int.mul_sub, ← Int.natCast_mul, ← Int.natCast_mul]
    have m2 : ((a.lorries : Int) - 1) * (a.lay : Int) = ((a.lorries - 1) * a.lay : Nat) := by
      rw [show (a.lorries : Int) - 1 = ((a.lorries - 1 : Nat) : Int) by omega, ← Int.natCast_mul]
    have m3 : ∀ j, (k - j + 1) * a.fill = (k - j) * a.fill + a.fill := fun j => by rw [Nat.add_mul, Nat.one_mul]
    constructor
    · rintro ⟨h1, h2⟩ j hj
      cases e : tell a j k with
      | false => rfl
      | true =>
        rcases tell_iff.mp e with e | e
        · have o := old_iff.mp e
          have := h1 j hj
          rw [m] at this
          omega
        · obtain ⟨o1, o2⟩ := late_iff.mp e
          have := h2 j hj o1
          rw [m, m2] at this
          rw [m3] at o2
          omega
    · intro h
      refine ⟨fun j hj => ?_, fun j hj hl => ?_⟩
      · have := old_le (h j hj)
        rw [m]
        omega
      · have := late_le (h j hj) hl
        rw [m3] at this
        rw [m, m2]
        omega
  constructor
  · intro h k hk
    exact (key k hk).mpr fun j hj => h j k hj hk
  · intro h j k hj hk
    exact (key k hk).mp (h k hk) j hj
theorem ah_yes {a : Abs} (h1 : 1 ≤ a.lorries) (h : ∀ k, k < a.n → (a.d k : Int) ≤ ahTo a (k + 1)) : a.can = true := (ah_can h1).mpr h
theorem ah_no {a : Abs} {k : Nat} (h1 : 1 ≤ a.lorries) (hk : k < a.n) (h : ahTo a (k + 1) < (a.d k : Int)) : a.can = false := by
  cases e : a.can with
  | false => rfl
  | true =>
    have := (ah_can h1).mp e k hk
    omega

/-! ### a row that is tried -/
def okAt (a : Abs) (s : Nat) (l : List Nat) (k : Nat) : Bool :=
  decide (l.getD k 0 + a.d k ≤ s + k * a.lay) && decide (s + k * a.lay ≤ l.getD k 0 + a.keep) && (if k = 0 then decide (a.fill ≤ l.getD k 0) else decide (l.getD (k - 1) 0 + a.fill ≤ l.getD k 0)) && (decide (k < a.lorries) || decide (s + (k - a.lorries + 1) * a.lay + a.d (k - a.lorries) + a.fill ≤ l.getD k 0))
theorem ok_eq (a : Abs) (s : Nat) (l : List Nat) : a.ok s l = (decide (l.length = a.n) && (List.range a.n).all (okAt a s l)) := rfl
theorem ok_yes {a : Abs} {s : Nat} {l : List Nat} (hl : l.length = a.n) (h : ∀ k, k < a.n → okAt a s l k = true) : a.ok s l = true := by
  rw [ok_eq, decide_eq_true hl, Bool.true_and, List.all_eq_true]
  exact fun k hk => h k (List.mem_range.mp hk)
theorem ok_no {a : Abs} {s : Nat} {l : List Nat} {k : Nat} (hk : k < a.n) (h : okAt a s l k = false) : a.ok s l = false := by
  rw [ok_eq, Bool.and_eq_false_iff]
  right
  rw [List.all_eq_false]
  exact ⟨k, List.mem_range.mpr hk, by rw [h]; exact Bool.false_ne_true⟩
/-- what the plant has filled last, ahead of load k -/
def pfOf (l : List Nat) (k : Nat) : Nat := if k = 0 then 0 else l.getD (k - 1) 0
theorem mx_le {x i j : Int} : mx i j ≤ x ↔ i ≤ x ∧ j ≤ x := by
  unfold mx
  split <;> omega
theorem nb_le {a : Abs} {s k : Nat} {x : Nat} : nbI a s k ≤ (x : Int) ↔ a.fill ≤ x ∧ s + k * a.lay ≤ x + a.keep ∧ (k < a.lorries ∨ s + (k - a.lorries + 1) * a.lay + a.d (k - a.lorries) + a.fill ≤ x) := by
  unfold nbI
  rw [← Int.natCast_mul]
  by_cases h : k < a.lorries
  · rw [if_pos h, mx_le]
    constructor
    · rintro ⟨h1, h2⟩
      exact ⟨by omega, by omega, .inl h⟩
    · rintro ⟨h1, h2, _⟩
      exact ⟨by omega, by omega⟩
  · rw [if_neg h, mx_le, mx_le, show (k : Int) - (a.lorries : Int) + 1 = ((k - a.lorries + 1 : Nat) : Int) by omega, ← Int.natCast_mul]
    constructor
    · rintro ⟨⟨h1, h2⟩, h3⟩
      exact ⟨by omega, by omega, .inr (by omega)⟩
    · rintro ⟨h1, h2, h3⟩
      exact ⟨⟨by omega, by omega⟩, by omega⟩
theorem okAt_iff {a : Abs} {s k : Nat} {l : List Nat} : okAt a s l k = true ↔ mx ((pfOf l k : Int) + (a.fill : Int)) (nbI a s k) ≤ (l.getD k 0 : Int) ∧ (l.getD k 0 : Int) + (a.d k : Int) ≤ (s : Int) + (k : Int) * (a.lay : Int) := by
  unfold okAt
  rw [mx_le, nb_le, ← Int.natCast_mul]
  simp only [Bool.and_eq_true_iff, Bool.or_eq_true_iff, decide_eq_true_iff]
  unfold pfOf
  by_cases h : k = 0
  · subst h
    rw [if_pos rfl, if_pos rfl, decide_eq_true_iff]
    constructor
    · rintro ⟨⟨⟨h1, h2⟩, h3⟩, h4⟩
      exact ⟨⟨by omega, h3, h2, h4⟩, by omega⟩
    · rintro ⟨⟨h1, h2, h3, h4⟩, h5⟩
      exact ⟨⟨⟨by omega, h3⟩, h2⟩, h4⟩
  · rw [if_neg h, if_neg h, decide_eq_true_iff]
    constructor
    · rintro ⟨⟨⟨h1, h2⟩, h3⟩, h4⟩
      exact ⟨⟨by omega, by omega, h2, h4⟩, by omega⟩
    · rintro ⟨⟨h1, h2, h3, h4⟩, h5⟩
      exact ⟨⟨⟨by omega, h3⟩, by omega⟩, h4⟩
theorem okAt_no {a : Abs} {s k : Nat} {l : List Nat} (h : (l.getD k 0 : Int) < mx ((pfOf l k : Int) + (a.fill : Int)) (nbI a s k) ∨ (s : Int) + (k : Int) * (a.lay : Int) < (l.getD k 0 : Int) + (a.d k : Int)) : okAt a s l k = false := by
  cases e : okAt a s l k with
  | false => rfl
  | true =>
    obtain ⟨h1, h2⟩ := okAt_iff.mp e
    omega

/-! ### searches -/
theorem find_none {n : Nat} {p : Nat → Bool} (h : ∀ i, i < n → p i = false) : (List.range n).find? p = none := by
  rw [List.find?_eq_none]
  intro x hx
  rw [h x (List.mem_range.mp hx)]
  exact Bool.false_ne_true
theorem find_some {n i : Nat} {p : Nat → Bool} (hi : i < n) (hp : p i = true) (h : ∀ j, j < i → p j = false) : (List.range n).find? p = some i := by
  rw [List.find?_range_eq_some]
  exact ⟨hp, List.mem_range.mpr hi, fun j hj => by rw [h j hj]; rfl⟩
theorem findR_none {n : Nat} {p : Nat → Bool} (h : ∀ i, i < n → p i = false) : (List.range n).reverse.find? p = none := by
  rw [List.find?_eq_none]
  intro x hx
  rw [h x (List.mem_range.mp (List.mem_reverse.mp hx))]
  exact Bool.false_ne_true
theorem findR_some {p : Nat → Bool} {i : Nat} (hp : p i = true) : ∀ {n : Nat}, i < n → (∀ j, i < j → j < n → p j = false) → (List.range n).reverse.find? p = some i
  | 0, hi, _ => absurd hi (Nat.not_lt_zero _)
  | n + 1, hi, h => by
    rw [List.range_succ, List.reverse_append]
    show List.find? p (n :: (List.range n).reverse) = _
    rw [List.find?_cons]
    by_cases e : i = n
    · subst e
      rw [hp]
    · rw [h n (by omega) (by omega)]
      exact findR_some hp (by omega) fun j h1 h2 => h j h1 (by omega)
theorem takeW {p : Nat → Bool} : ∀ (n s i : Nat), i ≤ n → (∀ j, j < i → p (s + j) = true) → (i = n ∨ p (s + i) = false) → ((List.range' s n).takeWhile p).length = i
  | 0, s, i, hi, _, _ => by
    obtain rfl : i = 0 := by omega
    rfl
  | n + 1, s, 0, hi, h, e => by
    rw [List.range'_succ, List.takeWhile_cons]
    rcases e with e | e
    · omega
    · rw [Nat.add_zero] at e
      rw [e]
      rfl
  | n + 1, s, i + 1, hi, h, e => by
    have h0 := h 0 (by omega)
    rw [Nat.add_zero] at h0
    rw [List.range'_succ, List.takeWhile_cons, h0]
    show ((List.range' (s + 1) n).takeWhile p).length + 1 = _
    rw [takeW n (s + 1) i (by omega) (fun j hj => by
      have := h (j + 1) (by omega)
      rw [show s + (j + 1) = s + 1 + j by omega] at this
      exact this) (by
      rcases e with e | e
      · left; omega
      · right
        rw [show s + (i + 1) = s + 1 + i by omega] at e
        exact e)]
theorem spare_is {a : Abs} {k i : Nat} (hi : i ≤ 300) (h : ∀ x, 1 ≤ x → x ≤ i → (a.setD k (a.d k + x)).can = true) (e : i = 300 ∨ (a.setD k (a.d k + (i + 1))).can = false) : a.spare k = i := by
  unfold Abs.spare
  have r : (List.range 301).drop 1 = List.range' 1 300 := by decide +kernel
  rw [r]
  refine takeW 300 1 i hi (fun j hj => h (1 + j) (by omega) (by omega)) ?_
  rcases e with e | e
  · exact .inl e
  · right
    rw [Nat.add_comm 1 i]
    exact e
theorem setD_self {a : Abs} {k : Nat} : a.setD k (a.d k) = a := by
  unfold Abs.setD Abs.d
  have : a.drives.set k (a.drives.getD k 0) = a.drives := by
    by_cases h : k < a.drives.length
    · rw [List.getD_eq_getElem?_getD, List.getElem?_eq_getElem h]
      exact List.set_getElem_self h
    · exact List.set_eq_of_length_le (by omega)
  rw [this]
theorem setD_setD {a : Abs} {k x y : Nat} : (a.setD k x).setD k y = a.setD k y := by
  unfold Abs.setD
  show ({ a with drives := (a.drives.set k x).set k y } : Abs) = _
  rw [List.set_set]
end Mth


set_option Elab.async false
set_option maxRecDepth 100000
set_option maxHeartbeats 2000000
namespace My
open PySem PySem.Spec PyProof.Rows L2

/-! ### what stands behind the top -/
section
variable {P : Program} {w : World} {K : PySem.W.Frag} {mg : Str → Option Value} {base : Heap}
/-- a def of the program that keeps its promise -/
def Has (P : Program) (w : World) (K : PySem.W.Frag) (mg : Str → Option Value) (base : Heap) (k : Nat) (x : Str) (ps : List Str) (sp : Sp) : Prop :=
  ∃ (f : Addr) (fd : FuncData), FnOk P w K mg base CX0 k f fd ps sp ∧ mg x = some (.ref f) ∧ PySem.W.keepIn K (.ref f) = true ∧ Binds K fd ps []
/-- a def of the program as the top has written it -/
def Top (K : PySem.W.Frag) (mg : Str → Option Value) (x : Str) (st : Stmt) (ps : List Str) : Prop :=
  ∃ (f : Addr) (fd : FuncData), Fun K x x st f fd ∧ mg x = some (.ref f) ∧ Binds K fd ps []
theorem Top.has {k : Nat} {x : Str} {st : Stmt} {N ps : List Str} {sp : Sp} (U : Top K mg x st ps) (S : FnScope N ps (defScope st)) (len : ∀ vs H Q E, sp vs H Q E → vs.length = ps.length)
    (hb : ∀ (f : Addr) (cdv : Value) (A : Around) (outer : List Env) (s : Shared) (H : Hp) (vs : List V) (Q : VK) (E : XK), Room k (A.deeper (envOfC x (defScope st) s.heap.objs.size f cdv)) → sp vs H Q E →
      ∃ t, PSs (cxOf CX0 P w K mg base N x (defScope st) f cdv A outer s H E).nox (defBody st) t ∧ t { nx := fun _ H' => Q .non H', rt := Q } (start N vs) H) : Has P w K mg base (k + 1) x ps sp := by
  obtain ⟨f, fd, F, hm, b⟩ := U
  exact ⟨f, fd, F.ok S len fun cdv A outer s H vs Q E hr h => hb f cdv A outer s H vs Q E hr h, hm, F.kp, b⟩
/-- a class without arguments -/
def HasC (P : Program) (w : World) (K : PySem.W.Frag) (mg : Str → Option Value) (base : Heap) (k : Nat) (x : Str) (C : Addr) (sp : Sp) : Prop :=
  ∃ (f : Addr) (fd : FuncData), Mk K C f ∧ FnOk P w K mg base CX0 k f fd ["self"] sp ∧ mg x = some (.ref C) ∧ Binds K fd ["self"] []
def GInt (mg : Str → Option Value) (x : Str) (i : Int) : Prop := ∃ t, mg x = some (.int i t)
/-- a tuple of the module -/
def GTup (K : PySem.W.Frag) (mg : Str → Option Value) (x : Str) (xs : List V) : Prop :=
  ∃ (a : Addr) (o : Obj) (its : Array Value) (n : Nat), mg x = some (.ref a) ∧ K.lookup a = some o ∧ o.cls = .type "tuple" ∧ o.data = .seq its n ∧ its.size ≤ sizeLine ∧ Vals xs its.toList
end

/-! ### terms -/
def tCallH (sp : Sp) (t : TA) : TE := fun σ H Q => t σ H fun vs H1 => sp vs H1 Q E0
def tMakeH (C : Addr) (sp : Sp) : TE := fun _ H Q => ∀ x dx, H x = none → H dx = none → dx ≠ x → sp [.ref x] (upd (upd H dx (.own x)) x (.ins C dx [])) (fun v H2 => v = .non ∧ Q (.ref x) H2) E0
def tGT (K : PySem.W.Frag) (xs : List V) : TE := fun _ H Q => ∀ a, SqT K H a xs → Q (.ref a) H
def tRev (K : PySem.W.Frag) (te : TE) : TE := fun σ H Q => te σ H fun x H1 => ∃ a xs, x = .ref a ∧ SqL K H1 a xs ∧ ∀ p, H1 p = none → Q (.ref p) (upd H1 p (.lst xs.reverse))
section
variable {X : Cx} {k : Nat} {C : Addr} {ps : List Str} {sp : Sp} {x : Str} {p pos : Pos} {e : Expr} {es : List Expr} {te : TE} {t : TA}
theorem pe_callH (h : Has X.prog X.w X.K X.mg X.base k x ps sp) (hr : Room k X.A) (hg : Gl X x) (ha : PA X (e :: es) t) (hdb : (x == ("__debug__" : Str)) = false := by decide)
    (he : starEach (e :: es) X.env = (false, eval e X.env) :: starEach es X.env := by rfl) (hpl : (backTo pos (starEach es X.env)).any (·.1) = false := by rfl) : PE X (.Call (.Name x p) (e :: es) [] pos) (tCallH sp t) := by
  obtain ⟨f, fd, F, hm, hk, hb⟩ := h
  have q := pe_call (p := p) (pos := pos) (E := E0) (ds := []) (dvs := []) F hr hg hm hk hb .nil pass0 ha hdb he hpl
  intro pins s σ H Q I hq
  refine q pins s σ H Q I ?_
  show t σ H fun vs H1 => sp (vs ++ []) H1 Q E0
  simp only [List.append_nil]
  exact hq
theorem pe_make0H (h : HasC X.prog X.w X.K X.mg X.base k x C sp) (hr : Room (k + 1) X.A) (hg : Gl X x) (hdb : (x == ("__debug__" : Str)) = false := by decide) : PE X (.Call (.Name x p) [] [] pos) (tMakeH C sp) := by
  obtain ⟨f, fd, M, F, hm, hb⟩ := h
  have q := pe_make0 (p := p) (pos := pos) (E := E0) (ds := []) (dvs := []) M F hr hg hm hb .nil pass0 hdb
  intro pins s σ H Q I hq
  exact q pins s σ H Q I fun x dx h1 h2 h3 => hq x dx h1 h2 h3
theorem pe_gi {i : Int} (hg : Gl X x) (hm : GInt X.mg x i) (hd : (x == ("__debug__" : Str)) = false := by decide) : PE X (.Name x p) (tC (.int i)) := by
  obtain ⟨t, hm⟩ := hm
  exact pe_glob hg hm ⟨t, rfl⟩ hd
theorem pe_gt {xs : List V} (hg : Gl X x) (hm : GTup X.K X.mg x xs) (hd : (x == ("__debug__" : Str)) = false := by decide) : PE X (.Name x p) (tGT X.K xs) := by
  obtain ⟨a, o, its, n, hm, hk, hc, hs, hz, r⟩ := hm
  intro pins s σ H Q I h
  exact ld_glob I hg hm ⟨.ref a, H, I, rfl, h a (.inr ⟨o, its, n, hk, hc, hs, hz, r⟩)⟩ hd
theorem pe_rev {j : Nat} {p2 p3 p4 : Pos} (he : PE X e te) : PE X (.Subscript e (.Slice none none (some (.UnaryOp .USub (.Constant (.int 1) j p4) p3)) p2) pos) (tRev X.K te) := by
  intro pins s σ H Q I h
  refine Subscript_ (thn (he pins s σ H _ I h) fun v s1 ⟨x, H1, I1, r1, q1⟩ => ?_)
  obtain ⟨a, xs, ex, hx, q⟩ := q1
  subst ex
  cases r1
  refine wpAny_Slice ?_
  rw [evalPart_none]
  refine wpAny_pure ?_
  refine wpAny_pure ?_
  rw [evalPart_some]
  have hn : PE X (.UnaryOp .USub (.Constant (.int 1) j p4) p3) _ := pe_un un_neg pe_int
  refine thn (hn pins s1 σ H1 (fun y H2 => y = .int (-1) ∧ H2 = H1) I1 ⟨1, rfl, rfl, rfl⟩) fun u s2 ⟨y, H2, I2, r2, ey, eH⟩ => ?_
  subst ey eH
  obtain ⟨tk, rfl⟩ := r2
  have I3 : Inv X pins σ H2 { s2 with heap := s2.heap.push { cls := .type "slice", data := .fields #[.none, .none, .int (-1) tk] } } := I2.kept (t' := s2.toks) fun b ob q => Heap.get?_push_of_some _ q
  obtain ⟨its, r, ht, hz⟩ := I3.list hx
  have hlen := r.length
  show wpAny (model X.prog X.w) X.A (subscriptTail e (.Slice none none (some (.UnaryOp .USub (.Constant (.int 1) j p4) p3)) p2) (.ref a) (.ref s2.heap.objs.size)) (EP X pins σ Q) X.xe { s2 with heap := s2.heap.push { cls := .type "slice", data := .fields #[.none, .none, .int (-1) tk] } }
  refine tail_any (ops := [.ref a, .ref s2.heap.objs.size]) ht.isList.typeIs slot_list_getitem.lookup ?_ (by with_unfolding_all rfl)
  refine wpAny_getItem_list_slice ht.isList (Heap.IsSliceOf.new ..) .none .none (.int (-1) tk) (by decide) ?_ (by rw [List.size_toArray] <;> omega)
  rw [PySem.W.krv_pick]
  refine ⟨.ref _, _, I3.laid (t' := s2.toks) (o := .lst xs.reverse) (fun b ob q => Heap.get?_push_of_some _ q) (Nat.le_refl _) ?_, rfl, q _ (I3.hok.fresh (Nat.le_refl _))⟩
  exact ⟨by rw [List.length_reverse]; exact hz, _, 0, r.reverse, Heap.get?_push_size _ rfl⟩
end

/-! ### reading -/
def FldAt (K : PySem.W.Frag) (f : Str) (Q : VK) : VK := fun x H => ∃ a C dx fs v, x = .ref a ∧ H a = some (.ins C dx fs) ∧ Cls K C ∧ NoAttr K C f ∧ fs.lookup f = some v ∧ Q v H
def SetF (K : PySem.W.Frag) (f : Str) (y : V) (R : Hp → Prop) : VK := fun x H => ∃ a C dx fs, x = .ref a ∧ H a = some (.ins C dx fs) ∧ Cls K C ∧ NoAttr K C f ∧ fs.length < 1000 ∧ R (upd H a (.ins C dx (putF f y fs)))
def LstQ (Q : VK) : List V → Hp → Prop := fun xs H => xs.length ≤ sizeLine ∧ ∀ p, H p = none → Q (.ref p) (upd H p (.lst xs))
def ForB (g : TG) (tb : TS) (D : Ends) (σ : L2.St) (J : It) (H : Hp) : Prop := tFor (fun _ H R => R J H) g tb D σ H
def RG1 (R : It → Hp → Prop) : List V → Hp → Prop := fun vs H => ∃ j : Int, vs = [.int j] ∧ -(2 ^ 62) ≤ j ∧ j < 2 ^ 62 ∧ R (Itr 0 j.toNat) H
def RG2 (R : It → Hp → Prop) : List V → Hp → Prop := fun vs H => ∃ i j : Int, vs = [.int i, .int j] ∧ (-(2 ^ 62) ≤ i ∧ i < 2 ^ 62 ∧ -(2 ^ 62) ≤ j ∧ j < 2 ^ 62) ∧ R (Itr i (j - i).toNat) H
def RG3 (R : It → Hp → Prop) : List V → Hp → Prop := fun vs H => ∃ (i j c : Int) (n : Nat), vs = [.int i, .int j, .int c] ∧ RgC i j c n ∧ R (Itc i c n) H
def RGe (K : PySem.W.Frag) (R : It → Hp → Prop) : List V → Hp → Prop := fun vs H => ∃ a xs, vs = [.ref a] ∧ SqL K H a xs ∧ R (Ite K a) H
def RGl (K : PySem.W.Frag) (R : It → Hp → Prop) : VK := fun x H => ∃ a, x = .ref a ∧ (∃ xs, SqL K H a xs) ∧ R (Itl K a) H
def LenQ (K : PySem.W.Frag) (Q : VK) : List V → Hp → Prop := fun xs H => ∃ p ys, xs = [.ref p] ∧ (SqL K H p ys ∨ SqT K H p ys) ∧ Q (.int ys.length) H
def MaxQ (Q : VK) : List V → Hp → Prop := fun xs H => ∃ i j, xs = [.int i, .int j] ∧ Q (.int (if j > i then j else i)) H
def MinQ (Q : VK) : List V → Hp → Prop := fun xs H => ∃ i j, xs = [.int i, .int j] ∧ Q (.int (if j < i then j else i)) H
def RevQ (K : PySem.W.Frag) (Q : VK) : VK := fun x H => ∃ a xs, x = .ref a ∧ SqL K H a xs ∧ ∀ p, H p = none → Q (.ref p) (upd H p (.lst xs.reverse))
section
variable {K : PySem.W.Frag} {σ : L2.St} {H : Hp} {Q : VK} {D : Ends} {ta tb tc te : TE} {t u : TS} {c c' : TT} {R : Bool → Hp → Prop} {S : L2.St → Hp → Prop} {RI : It → Hp → Prop} {v x y : V} {i j : Int} {p q : Addr} {xs ys : List V} {A : TA} {f : Str}
theorem rd_seq (h : t { D with nx := u D } σ H) : tSeq t u D σ H := h
theorem rd_next (h : D.nx σ H) : tNext D σ H := h
theorem rd_ret (h : te σ H D.rt) : tRet te D σ H := h
theorem rd_drop (h : te σ H fun _ H1 => D.nx σ H1) : tDrop te D σ H := h
theorem rd_asg {g : TG} (h : te σ H fun x H1 => g x σ H1 D.nx) : tAsg te g D σ H := h
theorem rd_name {k : Nat} (h : S (σ.set k (some v)) H) : gName k v σ H S := h
theorem rd_if (h : c σ H fun b H1 => if b = true then t D σ H1 else u D σ H1) : tIfS c t u D σ H := h
theorem rd_brk (h : D.bk σ H) : tBreak D σ H := h
theorem rd_cont (h : D.ct σ H) : tCont D σ H := h
theorem rd_var {k : Nat} (e : σ[k]? = some (some v)) (h : Q v H) : tVar k σ H Q := ⟨v, e, h⟩
theorem rd_c (h : Q v H) : tC v σ H Q := h
theorem rd_op {r : R2} (h : ta σ H fun x H1 => tb σ H1 fun y H2 => r x y H2 Q) : tOp r ta tb σ H Q := h
theorem rd_un {r : V → Hp → VK → Prop} (h : ta σ H fun x H1 => r x H1 Q) : tUn r ta σ H Q := h
theorem rd_U {g : Int → V} (h : Q (g i) H) : rU g (.int i) H Q := ⟨i, rfl, h⟩
theorem rd_I0 {g : Int → Int → V} (h : Q (g i j) H) : rI0 g (.int i) (.int j) H Q := ⟨i, j, rfl, rfl, h⟩
theorem rd_I {C : Int → Int → Prop} {g : Int → Int → V} (c : C i j) (h : Q (g i j) H) : rI C g (.int i) (.int j) H Q := ⟨i, j, rfl, rfl, c, h⟩
theorem rd_eqI (h : Q (.bl (decide (i = j))) H) : rEq (.int i) (.int j) H Q := by
  refine ⟨rfl, ?_⟩
  have e : decide (V.int i = V.int j) = decide (i = j) := by rw [dec_int]; exact (Bool.beq_eq_decide_eq i j)
  rw [e]; exact h
theorem rd_neI (h : Q (.bl (!decide (i = j))) H) : rNe (.int i) (.int j) H Q := by
  refine ⟨rfl, ?_⟩
  have e : decide (V.int i = V.int j) = decide (i = j) := by rw [dec_int]; exact (Bool.beq_eq_decide_eq i j)
  rw [e]; exact h
theorem rd_test (h : ta σ H fun x H' => ∃ k, x = .bl k ∧ R k H') : tTest ta σ H R := h
theorem rd_tB (h : ta σ H fun x H' => ∃ k, x = .bl k ∧ R k H') : tB ta σ H R := h
theorem rd_bl {b : Bool} {Z : Bool → Prop} (h : Z b) : ∃ k, V.bl b = .bl k ∧ Z k := ⟨b, rfl, h⟩
theorem rd_chain {r r' : R2} (h : ta σ H fun x H1 => tb σ H1 fun y H2 => r x y H2 fun z H3 => ∃ k, z = .bl k ∧ (if k = true then tc σ H3 fun w' H4 => r' y w' H4 Q else Q (.bl false) H3)) : tChain r r' ta tb tc σ H Q := h
theorem rd_not (h : c σ H fun b H1 => R (!b) H1) : tNot c σ H R := h
theorem rd_and (h : c σ H fun b H1 => if b = true then c' σ H1 R else R false H1) : tAnd c c' σ H R := h
theorem rd_or (h : c σ H fun b H1 => if b = true then R true H1 else c' σ H1 R) : tOr c c' σ H R := h
theorem rd_andV (h : ta σ H fun x H1 => ∃ b, x = .bl b ∧ if b = true then tb σ H1 Q else Q (.bl false) H1) : tAndV ta tb σ H Q := h
theorem rd_orV (h : ta σ H fun x H1 => ∃ b, x = .bl b ∧ if b = true then Q (.bl true) H1 else tb σ H1 Q) : tOrV ta tb σ H Q := h
theorem rd_notV (h : ta σ H fun x H1 => ∃ b, x = .bl b ∧ Q (.bl (!b)) H1) : tNotV ta σ H Q := h
theorem rd_ifE (h : c σ H fun b H1 => if b = true then ta σ H1 Q else tb σ H1 Q) : tIf c ta tb σ H Q := h
theorem rd_dec {z A B : Prop} [Decidable z] (h1 : z → A) (h2 : ¬ z → B) : if decide z = true then A else B := by
  by_cases h : z
  · rw [if_pos (decide_eq_true h)]; exact h1 h
  · rw [if_neg (fun e => h (of_decide_eq_true e))]; exact h2 h
theorem rd_ndec {z A B : Prop} [Decidable z] (h1 : ¬ z → A) (h2 : z → B) : if (!decide z) = true then A else B := by
  by_cases h : z
  · rw [decide_eq_true h]; exact iteF (h2 h)
  · rw [decide_eq_false h]; exact iteT (h1 h)
theorem rd_bool {b : Bool} {A B : Prop} (h1 : b = true → A) (h2 : b = false → B) : if b = true then A else B := by
  cases b with
  | true => exact iteT (h1 rfl)
  | false => exact iteF (h2 rfl)
theorem rd_nbool {b : Bool} {A B : Prop} (h1 : b = false → A) (h2 : b = true → B) : if (!b) = true then A else B := by
  cases b with
  | true => exact iteF (h2 rfl)
  | false => exact iteT (h1 rfl)
theorem rd_nil {Z : List V → Hp → Prop} (h : Z [] H) : tNil σ H Z := h
theorem rd_cons {Z : List V → Hp → Prop} (h : ta σ H fun x H1 => A σ H1 fun xs H2 => Z (x :: xs) H2) : tCons ta A σ H Z := h
theorem rd_call {sp : Sp} (h : A σ H fun vs H1 => sp vs H1 Q E0) : tCallH sp A σ H Q := h
theorem rd_cb {r : List V → Hp → VK → Prop} (h : A σ H fun vs H1 => r vs H1 Q) : tCB r A σ H Q := h
theorem rd_fld (h : ta σ H (FldAt K f Q)) : tFld K ta f σ H Q := h
theorem rd_sfld (h : tb σ H fun y H1 => ta σ H1 (SetF K f y (D.nx σ))) : sFld K ta tb f D σ H := h
theorem rd_lst (h : A σ H (LstQ Q)) : tLst A σ H Q := h
theorem rd_lstq (z : Nat.ble xs.length 1000 = true) (h : ∀ p, H p = none → Q (.ref p) (upd H p (.lst xs))) : LstQ Q xs H :=
  ⟨Nat.le_trans (Nat.le_of_ble_eq_true z) (Nat.le_of_lt (small1000 (Nat.le_refl _))), h⟩
theorem rd_for {wi : TI} {g : TG} (h : wi σ H (ForB g t D σ)) : tFor wi g t D σ H := h
theorem rd_rng1 (h : A σ H (RG1 RI)) : iRng1 A σ H RI := h
theorem rd_rng2 (h : A σ H (RG2 RI)) : iRng2 A σ H RI := h
theorem rd_rng3 (h : A σ H (RG3 RI)) : iRng3 A σ H RI := h
theorem rd_enum (h : A σ H (RGe K RI)) : iEnum K A σ H RI := h
theorem rd_ilist (h : ta σ H (RGl K RI)) : iList K ta σ H RI := h
theorem rd_rg1 {n : Nat} (z : n ≤ 1000000000) (h : RI (Itr 0 n) H) : RG1 RI [.int (n : Nat)] H := ⟨n, rfl, by omega, by omega, h⟩
theorem rd_rg2 {m n : Nat} (z1 : m ≤ 1000000000) (z2 : n ≤ 1000000000) (h : RI (Itr (m : Nat) (n - m)) H) : RG2 RI [.int (m : Nat), .int (n : Nat)] H := by
  refine ⟨m, n, rfl, ⟨by omega, by omega, by omega, by omega⟩, ?_⟩
  rw [show ((n : Int) - (m : Int)).toNat = n - m by omega]; exact h
/-- range(n - 1, -1, -1) -/
theorem rd_rgd {n : Nat} (e : i = (n : Int) - 1) (z : n ≤ 1000000000) (h : RI (Itc ((n : Int) - 1) (-1) n) H) : RG3 RI [.int i, .int (-1), .int (-1)] H := by
  subst e
  refine ⟨_, _, _, _, rfl, RgC.neg (by omega) (by omega) (by omega) (by omega), ?_⟩
  rw [show ((n : Int) - 1 - -1).toNat = n by omega]; exact h
theorem rd_rge (hx : H p = some (.lst xs)) (h : RI (Ite K p) H) : RGe K RI [.ref p] H := ⟨p, xs, rfl, SqL.of hx, h⟩
theorem rd_rgl (hx : H p = some (.lst xs)) (h : RI (Itl K p) H) : RGl K RI (.ref p) H := ⟨p, rfl, ⟨xs, SqL.of hx⟩, h⟩
theorem rd_bm {T : String} {r : V → List V → Hp → VK → Prop} (h : ta σ H fun x H1 => tyV K T x H1 ∧ A σ H1 fun xs H2 => r x xs H2 Q) : tBM K T r ta A σ H Q := h
theorem rd_bm0 {T : String} {r : V → List V → Hp → VK → Prop} (h : ta σ H fun x H1 => tyV K T x H1 ∧ r x [] H1 Q) : tBM0 K T r ta σ H Q := h
theorem rd_tyL {Z : Prop} (hx : H p = some (.lst xs)) (h : Z) : tyV K "list" (.ref p) H ∧ Z := ⟨.inl ⟨rfl, _, SqL.of hx⟩, h⟩
theorem rd_app (hx : H p = some (.lst xs)) (z : xs.length < sizeLine) (h : Q .non (upd H p (.lst (xs ++ [y])))) : rAppend (.ref p) [y] H Q := ⟨p, xs, y, rfl, rfl, hx, z, h⟩
theorem rd_ext (hx : H p = some (.lst xs)) (hy : H q = some (.lst ys)) (z : xs.length + ys.length ≤ sizeLine) (h : Q .non (upd H p (.lst (xs ++ ys)))) : rExtend (.ref p) [.ref q] H Q := ⟨p, q, xs, ys, rfl, rfl, hx, hy, z, h⟩
theorem rd_pop (hx : H p = some (.lst xs)) (hy : xs[xs.length - 1]? = some y) (h : Q y (upd H p (.lst xs.dropLast))) : rPop (.ref p) [] H Q := ⟨p, xs, y, rfl, rfl, hx, hy, h⟩
theorem rd_cat (hx : H p = some (.lst xs)) (hy : H q = some (.lst ys)) (z : xs.length + ys.length ≤ sizeLine) (h : ∀ l, H l = none → Q (.ref l) (upd H l (.lst (xs ++ ys)))) : rCat (.ref p) (.ref q) H Q := ⟨p, q, xs, ys, rfl, rfl, hx, hy, z, h⟩
theorem rd_cbLen (h : A σ H (LenQ K Q)) : tCB (fun xs H Q => ∃ p ys, xs = [.ref p] ∧ (SqL K H p ys ∨ SqT K H p ys) ∧ Q (.int ys.length) H) A σ H Q := h
theorem rd_cbMax (h : A σ H (MaxQ Q)) : tCB (fun xs H Q => ∃ i j, xs = [.int i, .int j] ∧ Q (.int (if j > i then j else i)) H) A σ H Q := h
theorem rd_cbMin (h : A σ H (MinQ Q)) : tCB (fun xs H Q => ∃ i j, xs = [.int i, .int j] ∧ Q (.int (if j < i then j else i)) H) A σ H Q := h
theorem rd_len (hx : H p = some (.lst xs)) (h : Q (.int xs.length) H) : LenQ K Q [.ref p] H := ⟨p, xs, rfl, .inl (SqL.of hx), h⟩
theorem rd_max (h : Q (.int (if j > i then j else i)) H) : MaxQ Q [.int i, .int j] H := ⟨i, j, rfl, h⟩
theorem rd_min (h : Q (.int (if j < i then j else i)) H) : MinQ Q [.int i, .int j] H := ⟨i, j, rfl, h⟩
theorem rd_rev (h : ta σ H (RevQ K Q)) : tRev K ta σ H Q := h
theorem rd_revL (hx : H p = some (.lst xs)) (h : ∀ l, H l = none → Q (.ref l) (upd H l (.lst xs.reverse))) : RevQ K Q (.ref p) H := ⟨p, xs, rfl, SqL.of hx, h⟩
theorem rd_lenS (hx : SqL K H p xs) (h : Q (.int xs.length) H) : LenQ K Q [.ref p] H := ⟨p, xs, rfl, .inl hx, h⟩
theorem rd_ixS {z : Int} (hx : SqL K H p xs) (e : atI xs z = some v) (h : Q v H) : rIxL K (.ref p) (.int z) H Q := ⟨p, xs, z, v, rfl, rfl, hx, e, h⟩
theorem rd_slS {lo hi : Option Int} (hx : SqL K H p xs) (h : ∀ l, H l = none → Q (.ref l) (upd H l (.lst (cutV xs lo hi)))) : rSlL K (.ref p) lo hi H Q := ⟨p, xs, rfl, hx, h⟩
theorem sf_raw {C dx : Addr} {fs : List (Str × V)} {Z : Hp → Prop} (e : H p = some (.ins C dx fs)) (c : Cls K C) (n : NoAttr K C f) (l : fs.length < 1000) (h : Z (upd H p (.ins C dx (putF f y fs)))) : SetF K f y Z (.ref p) H := ⟨p, C, dx, fs, rfl, e, c, n, l, h⟩
theorem rd_ixL {z : Int} (hx : H p = some (.lst xs)) (e : atI xs z = some v) (h : Q v H) : rIxL K (.ref p) (.int z) H Q := ⟨p, xs, z, v, rfl, rfl, SqL.of hx, e, h⟩
theorem rd_ixT {z : Int} (hx : SqT K H p xs) (e : atI xs z = some v) (h : Q v H) : rIxT K (.ref p) (.int z) H Q := ⟨p, xs, z, v, rfl, rfl, hx, e, h⟩
theorem rd_sl {r : V → Option Int → Option Int → Hp → VK → Prop} {tl th : TO} (h : te σ H fun x H1 => tl σ H1 fun l H2 => th σ H2 fun u H3 => r x l u H3 Q) : tSl r te tl th σ H Q := h
theorem rd_nopart {Z : Option Int → Hp → Prop} (h : Z none H) : tNoPart σ H Z := h
theorem rd_part {Z : Option Int → Hp → Prop} (h : te σ H fun x H1 => ∃ i, x = .int i ∧ Z (some i) H1) : tPart te σ H Z := h
theorem rd_int {Z : Int → Prop} (h : Z i) : ∃ k, V.int i = .int k ∧ Z k := ⟨i, rfl, h⟩
theorem rd_slL {lo hi : Option Int} (hx : H p = some (.lst xs)) (h : ∀ l, H l = none → Q (.ref l) (upd H l (.lst (cutV xs lo hi)))) : rSlL K (.ref p) lo hi H Q := ⟨p, xs, rfl, SqL.of hx, h⟩
theorem rd_sub {to ti : TE} {s3 : TSet} (h : to σ H fun o H1 => ti σ H1 fun i H2 => s3 o i v H2 fun H3 => S σ H3) : gSub to ti s3 v σ H S := h
theorem rd_setL {Z : Hp → Prop} {z : Int} {k : Nat} (hx : H p = some (.lst xs)) (e : ixN xs.length z = some k) (h : Z (upd H p (.lst (xs.set k v)))) : rSetL (.ref p) (.int z) v H Z := ⟨p, xs, z, k, rfl, rfl, hx, e, h⟩
theorem rd_mk {C : Addr} {sp : Sp} (h : ∀ x dx, H x = none → H dx = none → dx ≠ x → sp [.ref x] (upd (upd H dx (.own x)) x (.ins C dx [])) (fun v H2 => v = .non ∧ Q (.ref x) H2) E0) : tMakeH C sp σ H Q := h
theorem rd_gt (h : ∀ a, SqT K H a xs → Q (.ref a) H) : tGT K xs σ H Q := h
/-! loops -/
theorem fb_range {lo : Int} {n : Nat} {g : TG} (Pv : Nat → L2.St → Hp → Prop) (h0 : Pv 0 σ H)
    (hs : ∀ i σ H, i < n → Pv i σ H → g (.int (lo + i)) σ H fun σ2 H2 => t { D with nx := Pv (i + 1), ct := Pv (i + 1), bk := D.nx } σ2 H2) (hd : ∀ σ H, Pv n σ H → D.nx σ H) : ForB g t D σ (Itr lo n) H := for_range Pv h0 hs hd
theorem fb_rangeC {lo c : Int} {n : Nat} {g : TG} (Pv : Nat → L2.St → Hp → Prop) (h0 : Pv 0 σ H)
    (hs : ∀ i σ H, i < n → Pv i σ H → g (.int (lo + (i : Nat) * c)) σ H fun σ2 H2 => t { D with nx := Pv (i + 1), ct := Pv (i + 1), bk := D.nx } σ2 H2) (hd : ∀ σ H, Pv n σ H → D.nx σ H) : ForB g t D σ (Itc lo c n) H := for_rangeC Pv h0 hs hd
theorem fb_list {g : TG} (Pv : Nat → L2.St → Hp → Prop) (h0 : Pv 0 σ H) (hl : ∀ i σ H, i ≤ xs.length → Pv i σ H → SqL K H p xs)
    (hs : ∀ i x σ H, xs[i]? = some x → Pv i σ H → g x σ H fun σ2 H2 => t { D with nx := Pv (i + 1), ct := Pv (i + 1), bk := D.nx } σ2 H2) (hd : ∀ σ H, Pv xs.length σ H → D.nx σ H) : ForB g t D σ (Itl K p) H := for_list Pv h0 hl hs hd
theorem fb_enum {g : TG} (Pv : Nat → L2.St → Hp → Prop) (h0 : Pv 0 σ H) (hl : ∀ i σ H, i ≤ xs.length → Pv i σ H → SqL K H p xs)
    (hs : ∀ i x T σ H, xs[i]? = some x → Pv i σ H → H T = none → g (.ref T) σ (upd H T (.tup [.int (i : Nat), x])) fun σ2 H2 => t { D with nx := Pv (i + 1), ct := Pv (i + 1), bk := D.nx } σ2 H2) (hd : ∀ σ H, Pv xs.length σ H → D.nx σ H) : ForB g t D σ (Ite K p) H := by
  refine ⟨fun i m σ H => m = xs.length - i ∧ i ≤ xs.length ∧ Pv i σ H, ⟨xs.length, by simp, Nat.zero_le _, h0⟩, ?_⟩
  rintro i m σ H ⟨rfl, hi, pp⟩
  have hq := hl i σ H hi pp
  by_cases hlt : i < xs.length
  · refine .inr ⟨⟨xs, xs[i], hq, by simp [hlt]⟩, Pv (i + 1), fun σ' H' p' => ⟨xs.length - (i + 1), by omega, rfl, hlt, p'⟩, fun x H' y => ?_⟩
    obtain ⟨T, x', rfl, hT, rfl, y⟩ := y
    exact hs i x' T σ _ (y xs hq) pp hT
  · have e : i = xs.length := by omega
    subst e
    exact .inl ⟨⟨xs, hq, Nat.le_refl _⟩, hd σ H pp⟩
/-- (k, x) = the pair -/
theorem rd_pair {a b : Nat} (hT : H p = some (.tup [x, y])) (h : S ((σ.set a (some x)).set b (some y)) H) : gTup K 2 (gCons (gName a) (gCons (gName b) gNil)) (.ref p) σ H S :=
  ⟨p, _, rfl, SqT.of hT, rfl, x, _, rfl, y, _, rfl, rfl, h⟩
end
theorem cm_r {i : Int} {n : Nat} (h : n ≤ 1000000) : CMul i (n : Int) := .inr ⟨by omega, by omega⟩
theorem cm_l {j i : Int} (h1 : -1000000 ≤ i) (h2 : i ≤ 1000000) : CMul i j := .inl ⟨by omega, by omega⟩

def WhQ (Pv : Nat → L2.St → Hp → Prop) (m : Nat) (tb : TS) (D : Ends) (σ : L2.St) : Bool → Hp → Prop := fun b H =>
  if b = true then ∃ N : L2.St → Hp → Prop, (∀ σ' H', N σ' H' → ∃ m', m' < m ∧ Pv m' σ' H') ∧ tb { D with nx := N, ct := N, bk := D.nx } σ H else D.nx σ H
section
variable {σ : L2.St} {H : Hp} {D : Ends} {t : TS} {g : TG}
theorem rd_while {c : TT} (Pv : Nat → L2.St → Hp → Prop) (m : Nat) (h0 : Pv m σ H) (hs : ∀ m σ H, Pv m σ H → c σ H (WhQ Pv m t D σ)) : tWhile c t D σ H := ⟨Pv, ⟨m, h0⟩, hs⟩
theorem rd_whq {Pv : Nat → L2.St → Hp → Prop} {m : Nat} {z : Prop} [Decidable z] (h1 : z → t { D with nx := fun σ' H' => ∃ m', m' < m ∧ Pv m' σ' H', ct := fun σ' H' => ∃ m', m' < m ∧ Pv m' σ' H', bk := D.nx } σ H) (h2 : ¬ z → D.nx σ H) : WhQ Pv m t D σ (decide z) H :=
  rd_dec (fun h => ⟨_, fun _ _ p => p, h1 h⟩) h2
theorem fb_range0 {n : Nat} (Pv : Nat → L2.St → Hp → Prop) (h0 : Pv 0 σ H)
    (hs : ∀ (i : Nat) (σ : L2.St) (H : Hp), i < n → Pv i σ H → g (.int (i : Nat)) σ H fun σ2 H2 => t { D with nx := Pv (i + 1), ct := Pv (i + 1), bk := D.nx } σ2 H2) (hd : ∀ σ H, Pv n σ H → D.nx σ H) : ForB g t D σ (Itr 0 n) H :=
  fb_range Pv h0 (fun i σ H hi p => by rw [Int.zero_add]; exact hs i σ H hi p) hd
theorem fb_rangeN {m n : Nat} (Pv : Nat → L2.St → Hp → Prop) (h0 : Pv 0 σ H)
    (hs : ∀ (i : Nat) (σ : L2.St) (H : Hp), i < n → Pv i σ H → g (.int ((m + i : Nat) : Int)) σ H fun σ2 H2 => t { D with nx := Pv (i + 1), ct := Pv (i + 1), bk := D.nx } σ2 H2) (hd : ∀ σ H, Pv n σ H → D.nx σ H) : ForB g t D σ (Itr (m : Nat) n) H :=
  fb_range Pv h0 (fun i σ H hi p => by rw [← Int.natCast_add]; exact hs i σ H hi p) hd
theorem fb_down {n : Nat} (Pv : Nat → L2.St → Hp → Prop) (h0 : Pv 0 σ H)
    (hs : ∀ (i : Nat) (σ : L2.St) (H : Hp), i < n → Pv i σ H → g (.int ((n - 1 - i : Nat) : Int)) σ H fun σ2 H2 => t { D with nx := Pv (i + 1), ct := Pv (i + 1), bk := D.nx } σ2 H2) (hd : ∀ σ H, Pv n σ H → D.nx σ H) : ForB g t D σ (Itc ((n : Int) - 1) (-1) n) H :=
  fb_rangeC Pv h0 (fun i σ H hi p => by rw [show (n : Int) - 1 + (i : Nat) * (-1) = ((n - 1 - i : Nat) : Int) by omega]; exact hs i σ H hi p) hd
end
/-! ### comprehensions, list(..), %, range(n, 0, -1) -/
theorem boot_lst : bootBuiltins "list" = some (.type "list") := by decide +kernel
def LcA (D : Addr) (Nx : Hp → Prop) : VK := fun y H4 => ∃ acc, H4 D = some (.lst acc) ∧ acc.length < sizeLine ∧ Nx (upd H4 D (.lst (acc ++ [y])))
def LcT (te : TE) (σ2 : L2.St) (D : Addr) (Nx : Hp → Prop) : Bool → Hp → Prop := fun b H3 => if b = true then te σ2 H3 (LcA D Nx) else Nx H3
def LcG (tt : TT) (te : TE) (σ : L2.St) (vs : List Nat) (D : Addr) (Nx : Hp → Prop) : L2.St → Hp → Prop := fun σ2 H2 => wipe σ2 vs = wipe σ vs ∧ tt σ2 H2 (LcT te σ2 D Nx)
def LcB (g : TG) (tt : TT) (te : TE) (vs : List Nat) (σ : L2.St) (Q : VK) : It → Hp → Prop := fun J H1 => ∀ D, H1 D = none → ∃ W : Nat → Nat → Hp → Prop, (∃ m, W 0 m (upd H1 D (.lst []))) ∧ ∀ i m H, W i m H →
  (J.stop i H ∧ Q (.ref D) H) ∨ (J.go i H ∧ ∃ Nx : Hp → Prop, (∀ H', Nx H' → ∃ m', m' < m ∧ W (i + 1) m' H') ∧ ∀ x H', J.yld i H x H' → g x (wipe σ vs) H' (LcG tt te σ vs D Nx))
def RGz (K : PySem.W.Frag) (R : It → Hp → Prop) : List V → Hp → Prop := fun vs H => ∃ a b xs ys, vs = [.ref a, .ref b] ∧ SqL K H a xs ∧ SqL K H b ys ∧ R (Itz K a b) H
def LofQ (K : PySem.W.Frag) (Q : VK) : List V → Hp → Prop := fun xs H => ∃ p ys, xs = [.ref p] ∧ (SqL K H p ys ∨ SqT K H p ys) ∧ ∀ l, H l = none → Q (.ref l) (upd H l (.lst ys))
section
variable {K : PySem.W.Frag} {σ σ2 : L2.St} {H : Hp} {Q : VK} {te : TE} {tt : TT} {wi : TI} {g : TG} {vs : List Nat} {RI : It → Hp → Prop} {p q D : Addr} {xs ys acc : List V} {A : TA} {Nx : Hp → Prop} {y : V}
theorem rd_lc (h : wi σ H (LcB g tt te vs σ Q)) : tLc wi g tt te vs σ H Q := h
theorem rd_yes (h : te σ H (LcA D Nx)) : tYes σ H (LcT te σ D Nx) := h
theorem rd_zip (h : A σ H (RGz K RI)) : iZip K A σ H RI := h
theorem rd_rgz (hx : H p = some (.lst xs)) (hy : H q = some (.lst ys)) (h : RI (Itz K p q) H) : RGz K RI [.ref p, .ref q] H := ⟨p, q, xs, ys, rfl, SqL.of hx, SqL.of hy, h⟩
theorem rd_cbLst (h : A σ H (LofQ K Q)) : tCB (fun xs H Q => ∃ p ys, xs = [.ref p] ∧ (SqL K H p ys ∨ SqT K H p ys) ∧ ∀ l, H l = none → Q (.ref l) (upd H l (.lst ys))) A σ H Q := h
theorem rd_lof (hx : H p = some (.lst xs)) (h : ∀ l, H l = none → Q (.ref l) (upd H l (.lst xs))) : LofQ K Q [.ref p] H := ⟨p, xs, rfl, .inl (SqL.of hx), h⟩
theorem rd_mod {i j : Int} (c : 0 < j) (h : Q (.int (i % j)) H) : rI (fun _ j => 0 < j) (fun i j => .int (i % j)) (.int i) (.int j) H Q := ⟨i, j, rfl, rfl, c, h⟩
theorem rd_lg (e : wipe σ2 vs = wipe σ vs) (h : tt σ2 H (LcT te σ2 D Nx)) : LcG tt te σ vs D Nx σ2 H := ⟨e, h⟩
theorem rd_ltd {z : Prop} [Decidable z] (h1 : z → te σ2 H (LcA D Nx)) (h2 : ¬ z → Nx H) : LcT te σ2 D Nx (decide z) H := rd_dec h1 h2
theorem rd_la (hD : H D = some (.lst acc)) (z : acc.length < sizeLine) (h : Nx (upd H D (.lst (acc ++ [y])))) : LcA D Nx y H := ⟨acc, hD, z, h⟩
theorem lb_range {n : Nat} (Pv : Addr → Nat → Hp → Prop) (h0 : ∀ D, H D = none → Pv D 0 (upd H D (.lst []))) (hs : ∀ (D : Addr) (i : Nat) (H' : Hp), H D = none → i < n → Pv D i H' → g (.int (i : Nat)) (wipe σ vs) H' (LcG tt te σ vs D (Pv D (i + 1)))) (hd : ∀ D H', H D = none → Pv D n H' → Q (.ref D) H') :
    LcB g tt te vs σ Q (Itr 0 n) H := by
  intro D hD
  refine ⟨fun i m H => m = n - i ∧ i ≤ n ∧ Pv D i H, ⟨n, by simp, Nat.zero_le _, h0 D hD⟩, ?_⟩
  rintro i m H ⟨rfl, hi, p⟩
  by_cases hlt : i < n
  · refine .inr ⟨hlt, Pv D (i + 1), fun H' p' => ⟨n - (i + 1), by omega, rfl, hlt, p'⟩, fun x H' y => ?_⟩
    obtain ⟨e, y⟩ := y
    subst e y
    rw [Int.zero_add]
    exact hs D i _ hD hlt p
  · have e : i = n := by omega
    subst e
    exact .inl ⟨Nat.le_refl _, hd D H hD p⟩
theorem lb_enum (Pv : Addr → Nat → Hp → Prop) (h0 : ∀ D, H D = none → Pv D 0 (upd H D (.lst []))) (hl : ∀ D i H', H D = none → Pv D i H' → SqL K H' p xs)
    (hs : ∀ (D : Addr) (i : Nat) (x : V) (T : Addr) (H' : Hp), H D = none → xs[i]? = some x → Pv D i H' → H' T = none → g (.ref T) (wipe σ vs) (upd H' T (.tup [.int (i : Nat), x])) (LcG tt te σ vs D (Pv D (i + 1)))) (hd : ∀ D H', H D = none → Pv D xs.length H' → Q (.ref D) H') :
    LcB g tt te vs σ Q (Ite K p) H := by
  intro D hD
  refine ⟨fun i m H => m = xs.length - i ∧ i ≤ xs.length ∧ Pv D i H, ⟨xs.length, by simp, Nat.zero_le _, h0 D hD⟩, ?_⟩
  rintro i m H ⟨rfl, hi, pp⟩
  have hq := hl D i H hD pp
  by_cases hlt : i < xs.length
  · refine .inr ⟨⟨xs, xs[i], hq, by simp [hlt]⟩, Pv D (i + 1), fun H' p' => ⟨xs.length - (i + 1), by omega, rfl, hlt, p'⟩, fun x H' y => ?_⟩
    obtain ⟨T, x', rfl, hT, rfl, y⟩ := y
    exact hs D i x' T _ hD (y xs hq) pp hT
  · have e : i = xs.length := by omega
    subst e
    exact .inl ⟨⟨xs, hq, Nat.le_refl _⟩, hd D H hD pp⟩
theorem lb_zip {n : Nat} (hx : xs.length = n) (hy : ys.length = n) (Pv : Addr → Nat → Hp → Prop) (h0 : ∀ D, H D = none → Pv D 0 (upd H D (.lst []))) (hl : ∀ D i H', H D = none → Pv D i H' → SqL K H' p xs ∧ SqL K H' q ys)
    (hs : ∀ (D : Addr) (i : Nat) (x y : V) (T : Addr) (H' : Hp), H D = none → i < n → xs[i]? = some x → ys[i]? = some y → Pv D i H' → H' T = none → g (.ref T) (wipe σ vs) (upd H' T (.tup [x, y])) (LcG tt te σ vs D (Pv D (i + 1)))) (hd : ∀ D H', H D = none → Pv D n H' → Q (.ref D) H') :
    LcB g tt te vs σ Q (Itz K p q) H := by
  intro D hD
  refine ⟨fun i m H => m = n - i ∧ i ≤ n ∧ Pv D i H, ⟨n, by simp, Nat.zero_le _, h0 D hD⟩, ?_⟩
  rintro i m H ⟨rfl, hi, pp⟩
  obtain ⟨hq1, hq2⟩ := hl D i H hD pp
  by_cases hlt : i < n
  · refine .inr ⟨⟨xs, ys, xs[i], ys[i], hq1, hq2, by simp, by simp⟩, Pv D (i + 1), fun H' p' => ⟨n - (i + 1), by omega, rfl, hlt, p'⟩, fun x H' y => ?_⟩
    obtain ⟨T, x', y', rfl, hT, rfl, z1, z2⟩ := y
    exact hs D i x' y' T _ hD hlt (z1 xs hq1) (z2 ys hq2) pp hT
  · have e : i = n := by omega
    subst e
    exact .inl ⟨⟨xs, ys, hq1, hq2, .inl (by omega)⟩, hd D H hD pp⟩
end
/-- range(n, 0, -1) -/
theorem rd_rgd0 {RI : It → Hp → Prop} {H : Hp} {n : Nat} (z : n ≤ 1000000000) (h : RI (Itc (n : Int) (-1) n) H) : RG3 RI [.int (n : Nat), .int 0, .int (-1)] H := by
  refine ⟨_, _, _, _, rfl, RgC.neg (by omega) (by omega) (by omega) (by omega), ?_⟩
  rw [show ((n : Int) - 0).toNat = n by omega]; exact h
theorem fb_down0 {σ : L2.St} {H : Hp} {D : Ends} {t : TS} {g : TG} {n : Nat} (Pv : Nat → L2.St → Hp → Prop) (h0 : Pv 0 σ H)
    (hs : ∀ (i : Nat) (σ : L2.St) (H : Hp), i < n → Pv i σ H → g (.int ((n - i : Nat) : Int)) σ H fun σ2 H2 => t { D with nx := Pv (i + 1), ct := Pv (i + 1), bk := D.nx } σ2 H2) (hd : ∀ σ H, Pv n σ H → D.nx σ H) : ForB g t D σ (Itc (n : Int) (-1) n) H :=
  fb_rangeC Pv h0 (fun i σ H hi p => by rw [show (n : Int) + (i : Nat) * (-1) = ((n - i : Nat) : Int) by omega]; exact hs i σ H hi p) hd
/-- the scope of a comprehension that stands in row j -/
def lcScope (b : List Stmt) (j : Nat) : Scope := match b.getD j (.Pass ⟨0, 0, 0, 0⟩) with
  | .Assign _ (.ListComp _ _ sc _) _ => sc
  | .Return (some (.ListComp _ _ sc _)) _ => sc
  | _ => { kind := .function, names := [], isGenerator := false, isCoroutine := false }
end My


set_option Elab.async false
set_option linter.all false
set_option maxRecDepth 100000
set_option maxHeartbeats 2000000
namespace My
open PySem PySem.Spec PyProof.Rows L2
open Kv366 (Abs)
/-! ### the class -/
theorem ne_begun_fill : (("begun" : Str) = "fill") = False := by
  apply eq_false
  decide +kernel
theorem ne_begun_lay : (("begun" : Str) = "lay") = False := by
  apply eq_false
  decide +kernel
theorem ne_begun_keep : (("begun" : Str) = "keep") = False := by
  apply eq_false
  decide +kernel
theorem ne_begun_fleet : (("begun" : Str) = "fleet") = False := by
  apply eq_false
  decide +kernel
theorem ne_begun_ways : (("begun" : Str) = "ways") = False := by
  apply eq_false
  decide +kernel
theorem ne_fill_begun : (("fill" : Str) = "begun") = False := by
  apply eq_false
  decide +kernel
theorem ne_fill_lay : (("fill" : Str) = "lay") = False := by
  apply eq_false
  decide +kernel
theorem ne_fill_keep : (("fill" : Str) = "keep") = False := by
  apply eq_false
  decide +kernel
theorem ne_fill_fleet : (("fill" : Str) = "fleet") = False := by
  apply eq_false
  decide +kernel
theorem ne_fill_ways : (("fill" : Str) = "ways") = False := by
  apply eq_false
  decide +kernel
theorem ne_lay_begun : (("lay" : Str) = "begun") = False := by
  apply eq_false
  decide +kernel
theorem ne_lay_fill : (("lay" : Str) = "fill") = False := by
  apply eq_false
  decide +kernel
theorem ne_lay_keep : (("lay" : Str) = "keep") = False := by
  apply eq_false
  decide +kernel
theorem ne_lay_fleet : (("lay" : Str) = "fleet") = False := by
  apply eq_false
  decide +kernel
theorem ne_lay_ways : (("lay" : Str) = "ways") = False := by
  apply eq_false
  decide +kernel
theorem ne_keep_begun : (("keep" : Str) = "begun") = False := by
  apply eq_false
  decide +kernel
theorem ne_keep_fill : (("keep" : Str) = "fill") = False := by
  apply eq_false
  decide +kernel
theorem ne_keep_lay : (("keep" : Str) = "lay") = False := by
  apply eq_false
  decide +kernel
theorem ne_keep_fleet : (("keep" : Str) = "fleet") = False := by
  apply eq_false
  decide +kernel
theorem ne_keep_ways : (("keep" : Str) = "ways") = False := by
  apply eq_false
  decide +kernel
theorem ne_fleet_begun : (("fleet" : Str) = "begun") = False := by
  apply eq_false
  decide +kernel
theorem ne_fleet_fill : (("fleet" : Str) = "fill") = False := by
  apply eq_false
  decide +kernel
theorem ne_fleet_lay : (("fleet" : Str) = "lay") = False := by
  apply eq_false
  decide +kernel
theorem ne_fleet_keep : (("fleet" : Str) = "keep") = False := by
  apply eq_false
  decide +kernel
theorem ne_fleet_ways : (("fleet" : Str) = "ways") = False := by
  apply eq_false
  decide +kernel
theorem ne_ways_begun : (("ways" : Str) = "begun") = False := by
  apply eq_false
  decide +kernel
theorem ne_ways_fill : (("ways" : Str) = "fill") = False := by
  apply eq_false
  decide +kernel
theorem ne_ways_lay : (("ways" : Str) = "lay") = False := by
  apply eq_false
  decide +kernel
theorem ne_ways_keep : (("ways" : Str) = "keep") = False := by
  apply eq_false
  decide +kernel
theorem ne_ways_fleet : (("ways" : Str) = "fleet") = False := by
  apply eq_false
  decide +kernel
def jf (b : Bool) (a : Abs) (pw : Addr) : List (Str × V) := [(("begun" : Str), V.bl b), (("fill" : Str), V.int (a.fill : Nat)), (("lay" : Str), V.int (a.lay : Nat)), (("keep" : Str), V.int (a.keep : Nat)), (("fleet" : Str), V.int (a.lorries : Nat)), (("ways" : Str), V.ref pw)]
theorem jf_begun (b : Bool) (a : Abs) (pw : Addr) : (jf b a pw).lookup ("begun" : Str) = some (V.bl b) := by
  have h := lookup_putF "begun" "begun" (V.bl b) (jf b a pw)
  rw [if_pos rfl, show putF "begun" (V.bl b) (jf b a pw) = jf b a pw by simp only [jf, putF, ne_begun_fill, ne_begun_lay, ne_begun_keep, ne_begun_fleet, ne_begun_ways, ne_fill_begun, ne_fill_lay, ne_fill_keep, ne_fill_fleet, ne_fill_ways, ne_lay_begun, ne_lay_fill, ne_lay_keep, ne_lay_fleet, ne_lay_ways, ne_keep_begun, ne_keep_fill, ne_keep_lay, ne_keep_fleet, ne_keep_ways, ne_fleet_begun, ne_fleet_fill, ne_fleet_lay, ne_fleet_keep, ne_fleet_ways, ne_ways_begun, ne_ways_fill, ne_ways_lay, ne_ways_keep, ne_ways_fleet, if_false, if_true]] at h
  exact h
theorem jp_begun (b : Bool) (a : Abs) (pw : Addr) (c : Bool) : putF "begun" (V.bl c) (jf b a pw) = jf c a pw := by
  simp only [jf, putF, ne_begun_fill, ne_begun_lay, ne_begun_keep, ne_begun_fleet, ne_begun_ways, ne_fill_begun, ne_fill_lay, ne_fill_keep, ne_fill_fleet, ne_fill_ways, ne_lay_begun, ne_lay_fill, ne_lay_keep, ne_lay_fleet, ne_lay_ways, ne_keep_begun, ne_keep_fill, ne_keep_lay, ne_keep_fleet, ne_keep_ways, ne_fleet_begun, ne_fleet_fill, ne_fleet_lay, ne_fleet_keep, ne_fleet_ways, ne_ways_begun, ne_ways_fill, ne_ways_lay, ne_ways_keep, ne_ways_fleet, if_false, if_true]
theorem jf_fill (b : Bool) (a : Abs) (pw : Addr) : (jf b a pw).lookup ("fill" : Str) = some (V.int (a.fill : Nat)) := by
  have h := lookup_putF "fill" "fill" (V.int (a.fill : Nat)) (jf b a pw)
  rw [if_pos rfl, show putF "fill" (V.int (a.fill : Nat)) (jf b a pw) = jf b a pw by simp only [jf, putF, ne_begun_fill, ne_begun_lay, ne_begun_keep, ne_begun_fleet, ne_begun_ways, ne_fill_begun, ne_fill_lay, ne_fill_keep, ne_fill_fleet, ne_fill_ways, ne_lay_begun, ne_lay_fill, ne_lay_keep, ne_lay_fleet, ne_lay_ways, ne_keep_begun, ne_keep_fill, ne_keep_lay, ne_keep_fleet, ne_keep_ways, ne_fleet_begun, ne_fleet_fill, ne_fleet_lay, ne_fleet_keep, ne_fleet_ways, ne_ways_begun, ne_ways_fill, ne_ways_lay, ne_ways_keep, ne_ways_fleet, if_false, if_true]] at h
  exact h
theorem jp_fill (b : Bool) (a : Abs) (pw : Addr) (n : Nat) : putF "fill" (V.int (n : Nat)) (jf b a pw) = jf b { a with fill := n } pw := by
  simp only [jf, putF, ne_begun_fill, ne_begun_lay, ne_begun_keep, ne_begun_fleet, ne_begun_ways, ne_fill_begun, ne_fill_lay, ne_fill_keep, ne_fill_fleet, ne_fill_ways, ne_lay_begun, ne_lay_fill, ne_lay_keep, ne_lay_fleet, ne_lay_ways, ne_keep_begun, ne_keep_fill, ne_keep_lay, ne_keep_fleet, ne_keep_ways, ne_fleet_begun, ne_fleet_fill, ne_fleet_lay, ne_fleet_keep, ne_fleet_ways, ne_ways_begun, ne_ways_fill, ne_ways_lay, ne_ways_keep, ne_ways_fleet, if_false, if_true]
theorem jf_lay (b : Bool) (a : Abs) (pw : Addr) : (jf b a pw).lookup ("lay" : Str) = some (V.int (a.lay : Nat)) := by
  have h := lookup_putF "lay" "lay" (V.int (a.lay : Nat)) (jf b a pw)
  rw [if_pos rfl, show putF "lay" (V.int (a.lay : Nat)) (jf b a pw) = jf b a pw by simp only [jf, putF, ne_begun_fill, ne_begun_lay, ne_begun_keep, ne_begun_fleet, ne_begun_ways, ne_fill_begun, ne_fill_lay, ne_fill_keep, ne_fill_fleet, ne_fill_ways, ne_lay_begun, ne_lay_fill, ne_lay_keep, ne_lay_fleet, ne_lay_ways, ne_keep_begun, ne_keep_fill, ne_keep_lay, ne_keep_fleet, ne_keep_ways, ne_fleet_begun, ne_fleet_fill, ne_fleet_lay, ne_fleet_keep, ne_fleet_ways, ne_ways_begun, ne_ways_fill, ne_ways_lay, ne_ways_keep, ne_ways_fleet, if_false, if_true]] at h
  exact h
theorem jp_lay (b : Bool) (a : Abs) (pw : Addr) (n : Nat) : putF "lay" (V.int (n : Nat)) (jf b a pw) = jf b { a with lay := n } pw := by
  simp only [jf, putF, ne_begun_fill, ne_begun_lay, ne_begun_keep, ne_begun_fleet, ne_begun_ways, ne_fill_begun, ne_fill_lay, ne_fill_keep, ne_fill_fleet, ne_fill_ways, ne_lay_begun, ne_lay_fill, ne_lay_keep, ne_lay_fleet, ne_lay_ways, ne_keep_begun, ne_keep_fill, ne_keep_lay, ne_keep_fleet, ne_keep_ways, ne_fleet_begun, ne_fleet_fill, ne_fleet_lay, ne_fleet_keep, ne_fleet_ways, ne_ways_begun, ne_ways_fill, ne_ways_lay, ne_ways_keep, ne_ways_fleet, if_false, if_true]
theorem jf_keep (b : Bool) (a : Abs) (pw : Addr) : (jf b a pw).lookup ("keep" : Str) = some (V.int (a.keep : Nat)) := by
  have h := lookup_putF "keep" "keep" (V.int (a.keep : Nat)) (jf b a pw)
  rw [if_pos rfl, show putF "keep" (V.int (a.keep : Nat)) (jf b a pw) = jf b a pw by simp only [jf, putF, ne_begun_fill, ne_begun_lay, ne_begun_keep, ne_begun_fleet, ne_begun_ways, ne_fill_begun, ne_fill_lay, ne_fill_keep, ne_fill_fleet, ne_fill_ways, ne_lay_begun, ne_lay_fill, ne_lay_keep, ne_lay_fleet, ne_lay_ways, ne_keep_begun, ne_keep_fill, ne_keep_lay, ne_keep_fleet, ne_keep_ways, ne_fleet_begun, ne_fleet_fill, ne_fleet_lay, ne_fleet_keep, ne_fleet_ways, ne_ways_begun, ne_ways_fill, ne_ways_lay, ne_ways_keep, ne_ways_fleet, if_false, if_true]] at h
  exact h
theorem jp_keep (b : Bool) (a : Abs) (pw : Addr) (n : Nat) : putF "keep" (V.int (n : Nat)) (jf b a pw) = jf b { a with keep := n } pw := by
  simp only [jf, putF, ne_begun_fill, ne_begun_lay, ne_begun_keep, ne_begun_fleet, ne_begun_ways, ne_fill_begun, ne_fill_lay, ne_fill_keep, ne_fill_fleet, ne_fill_ways, ne_lay_begun, ne_lay_fill, ne_lay_keep, ne_lay_fleet, ne_lay_ways, ne_keep_begun, ne_keep_fill, ne_keep_lay, ne_keep_fleet, ne_keep_ways, ne_fleet_begun, ne_fleet_fill, ne_fleet_lay, ne_fleet_keep, ne_fleet_ways, ne_ways_begun, ne_ways_fill, ne_ways_lay, ne_ways_keep, ne_ways_fleet, if_false, if_true]
theorem jf_fleet (b : Bool) (a : Abs) (pw : Addr) : (jf b a pw).lookup ("fleet" : Str) = some (V.int (a.lorries : Nat)) := by
  have h := lookup_putF "fleet" "fleet" (V.int (a.lorries : Nat)) (jf b a pw)
  rw [if_pos rfl, show putF "fleet" (V.int (a.lorries : Nat)) (jf b a pw) = jf b a pw by simp only [jf, putF, ne_begun_fill, ne_begun_lay, ne_begun_keep, ne_begun_fleet, ne_begun_ways, ne_fill_begun, ne_fill_lay, ne_fill_keep, ne_fill_fleet, ne_fill_ways, ne_lay_begun, ne_lay_fill, ne_lay_keep, ne_lay_fleet, ne_lay_ways, ne_keep_begun, ne_keep_fill, ne_keep_lay, ne_keep_fleet, ne_keep_ways, ne_fleet_begun, ne_fleet_fill, ne_fleet_lay, ne_fleet_keep, ne_fleet_ways, ne_ways_begun, ne_ways_fill, ne_ways_lay, ne_ways_keep, ne_ways_fleet, if_false, if_true]] at h
  exact h
theorem jp_fleet (b : Bool) (a : Abs) (pw : Addr) (n : Nat) : putF "fleet" (V.int (n : Nat)) (jf b a pw) = jf b { a with lorries := n } pw := by
  simp only [jf, putF, ne_begun_fill, ne_begun_lay, ne_begun_keep, ne_begun_fleet, ne_begun_ways, ne_fill_begun, ne_fill_lay, ne_fill_keep, ne_fill_fleet, ne_fill_ways, ne_lay_begun, ne_lay_fill, ne_lay_keep, ne_lay_fleet, ne_lay_ways, ne_keep_begun, ne_keep_fill, ne_keep_lay, ne_keep_fleet, ne_keep_ways, ne_fleet_begun, ne_fleet_fill, ne_fleet_lay, ne_fleet_keep, ne_fleet_ways, ne_ways_begun, ne_ways_fill, ne_ways_lay, ne_ways_keep, ne_ways_fleet, if_false, if_true]
theorem jf_ways (b : Bool) (a : Abs) (pw : Addr) : (jf b a pw).lookup ("ways" : Str) = some (V.ref pw) := by
  have h := lookup_putF "ways" "ways" (V.ref pw) (jf b a pw)
  rw [if_pos rfl, show putF "ways" (V.ref pw) (jf b a pw) = jf b a pw by simp only [jf, putF, ne_begun_fill, ne_begun_lay, ne_begun_keep, ne_begun_fleet, ne_begun_ways, ne_fill_begun, ne_fill_lay, ne_fill_keep, ne_fill_fleet, ne_fill_ways, ne_lay_begun, ne_lay_fill, ne_lay_keep, ne_lay_fleet, ne_lay_ways, ne_keep_begun, ne_keep_fill, ne_keep_lay, ne_keep_fleet, ne_keep_ways, ne_fleet_begun, ne_fleet_fill, ne_fleet_lay, ne_fleet_keep, ne_fleet_ways, ne_ways_begun, ne_ways_fill, ne_ways_lay, ne_ways_keep, ne_ways_fleet, if_false, if_true]] at h
  exact h
theorem jp_ways (b : Bool) (a : Abs) (pw : Addr) (q : Addr) : putF "ways" (V.ref q) (jf b a pw) = jf b a q := by
  simp only [jf, putF, ne_begun_fill, ne_begun_lay, ne_begun_keep, ne_begun_fleet, ne_begun_ways, ne_fill_begun, ne_fill_lay, ne_fill_keep, ne_fill_fleet, ne_fill_ways, ne_lay_begun, ne_lay_fill, ne_lay_keep, ne_lay_fleet, ne_lay_ways, ne_keep_begun, ne_keep_fill, ne_keep_lay, ne_keep_fleet, ne_keep_ways, ne_fleet_begun, ne_fleet_fill, ne_fleet_lay, ne_fleet_keep, ne_fleet_ways, ne_ways_begun, ne_ways_fill, ne_ways_lay, ne_ways_keep, ne_ways_fleet, if_false, if_true]
theorem jf_len (b : Bool) (a : Abs) (pw : Addr) : (jf b a pw).length < 1000 := by
  show 6 < 1000
  decide
theorem jf_made (b : Bool) (a : Abs) (pw : Addr) : (putF "ways" (V.ref pw) (putF "fleet" (V.int (a.lorries : Nat)) (putF "keep" (V.int (a.keep : Nat)) (putF "lay" (V.int (a.lay : Nat)) (putF "fill" (V.int (a.fill : Nat)) (putF "begun" (V.bl b) ([] : List (Str × V)))))))) = jf b a pw := by
  simp only [jf, putF, ne_begun_fill, ne_begun_lay, ne_begun_keep, ne_begun_fleet, ne_begun_ways, ne_fill_begun, ne_fill_lay, ne_fill_keep, ne_fill_fleet, ne_fill_ways, ne_lay_begun, ne_lay_fill, ne_lay_keep, ne_lay_fleet, ne_lay_ways, ne_keep_begun, ne_keep_fill, ne_keep_lay, ne_keep_fleet, ne_keep_ways, ne_fleet_begun, ne_fleet_fill, ne_fleet_lay, ne_fleet_keep, ne_fleet_ways, ne_ways_begun, ne_ways_fill, ne_ways_lay, ne_ways_keep, ne_ways_fleet, if_false]
/-- the class's facts -/
structure Cl (K : PySem.W.Frag) (C : Addr) : Prop where
  cls : Cls K C
  n_begun : NoAttr K C "begun"
  n_fill : NoAttr K C "fill"
  n_lay : NoAttr K C "lay"
  n_keep : NoAttr K C "keep"
  n_fleet : NoAttr K C "fleet"
  n_ways : NoAttr K C "ways"
/-! ### the data -/
def ivs (l : List Nat) : List V := l.map fun (n : Nat) => V.int (n : Int)
theorem ivs_len (l : List Nat) : (ivs l).length = l.length := List.length_map ..
structure Fit (a : Abs) : Prop where
  f : a.fill ≤ 60
  l : a.lay ≤ 60
  k : a.keep ≤ 300
  o : 1 ≤ a.lorries
  u : a.lorries ≤ 20
  n : a.n ≤ 20
structure JobAt (C : Addr) (H : Hp) (p pw : Addr) (b : Bool) (a : Abs) : Prop where
  at_ : ∃ dx, H p = some (.ins C dx (jf b a pw))
  ws : H pw = some (.lst (ivs a.drives))
  fit : Fit a
theorem JobAt.same {C : Addr} {H H' : Hp} {p pw : Addr} {b : Bool} {a : Abs} (J : JobAt C H p pw b a) (s : Same H H') : JobAt C H' p pw b a := by
  obtain ⟨dx, e⟩ := J.at_
  exact ⟨⟨dx, s _ _ e⟩, s _ _ J.ws, J.fit⟩
theorem same_new {H : Hp} {q : Addr} {o : HO} (h : H q = none) : Same H (upd H q o) := fun b u e => by rw [upd_ne (ne_of_none e h)]; exact e
theorem same_upd {H H' : Hp} {q : Addr} {o : HO} (s : Same H H') (h : H q = none) : Same H (upd H' q o) := fun b u e => by rw [upd_ne (ne_of_none e h)]; exact s b u e
section
variable {K : PySem.W.Frag} {C : Addr} {H : Hp} {p pw : Addr} {b : Bool} {a : Abs} {Q : VK}
theorem rd_begun (c : Cl K C) (J : JobAt C H p pw b a) (h : Q (V.bl b) H) : FldAt K "begun" Q (.ref p) H := by
  obtain ⟨dx, e⟩ := J.at_
  exact ⟨p, C, dx, _, _, rfl, e, c.cls, c.n_begun, jf_begun b a pw, h⟩
theorem rd_fill (c : Cl K C) (J : JobAt C H p pw b a) (h : Q (V.int (a.fill : Nat)) H) : FldAt K "fill" Q (.ref p) H := by
  obtain ⟨dx, e⟩ := J.at_
  exact ⟨p, C, dx, _, _, rfl, e, c.cls, c.n_fill, jf_fill b a pw, h⟩
theorem rd_lay (c : Cl K C) (J : JobAt C H p pw b a) (h : Q (V.int (a.lay : Nat)) H) : FldAt K "lay" Q (.ref p) H := by
  obtain ⟨dx, e⟩ := J.at_
  exact ⟨p, C, dx, _, _, rfl, e, c.cls, c.n_lay, jf_lay b a pw, h⟩
theorem rd_keep (c : Cl K C) (J : JobAt C H p pw b a) (h : Q (V.int (a.keep : Nat)) H) : FldAt K "keep" Q (.ref p) H := by
  obtain ⟨dx, e⟩ := J.at_
  exact ⟨p, C, dx, _, _, rfl, e, c.cls, c.n_keep, jf_keep b a pw, h⟩
theorem rd_fleet (c : Cl K C) (J : JobAt C H p pw b a) (h : Q (V.int (a.lorries : Nat)) H) : FldAt K "fleet" Q (.ref p) H := by
  obtain ⟨dx, e⟩ := J.at_
  exact ⟨p, C, dx, _, _, rfl, e, c.cls, c.n_fleet, jf_fleet b a pw, h⟩
theorem rd_ways (c : Cl K C) (J : JobAt C H p pw b a) (h : Q (V.ref pw) H) : FldAt K "ways" Q (.ref p) H := by
  obtain ⟨dx, e⟩ := J.at_
  exact ⟨p, C, dx, _, _, rfl, e, c.cls, c.n_ways, jf_ways b a pw, h⟩
theorem rd_ixW {k : Nat} (J : JobAt C H p pw b a) (hk : k < a.n) (h : Q (.int (a.d k : Nat)) H) : rIxL K (.ref pw) (.int (k : Nat)) H Q := by
  refine rd_ixL J.ws (atI_nat ?_) h
  unfold ivs Kv366.Abs.d
  rw [List.getElem?_map, List.getD_eq_getElem?_getD, List.getElem?_eq_getElem (show k < a.drives.length from hk)]
  rfl
theorem rd_ixWE {k : Nat} {z : Int} (J : JobAt C H p pw b a) (e : z = (k : Int)) (hk : k < a.n) (h : Q (.int (a.d k : Nat)) H) : rIxL K (.ref pw) (.int z) H Q := by
  subst e
  exact rd_ixW J hk h
theorem rd_lenW (J : JobAt C H p pw b a) (h : Q (.int (a.n : Nat)) H) : LenQ K Q [.ref pw] H := by
  refine rd_len J.ws ?_
  rw [ivs_len]
  exact h
end
theorem cx_K {CX : CXT} {P : Program} {w : World} {K : PySem.W.Frag} {mg : Str → Option Value} {base : Heap} {N : List Str} {q : Str} {sc : Scope} {f : Addr} {cdv : Value} {A : Around} {outer : List Env} {s : Shared} {H : Hp} {E : XK} :
    (cxOf CX P w K mg base N q sc f cdv A outer s H E).nox.K = K := rfl
/-! ### the text -/
structure Txt (K : PySem.W.Frag) (mg : Str → Option Value) (C : Addr) : Prop where
  c : Cl K C
  c_BY_AGE : GInt mg "BY_AGE" (0)
  c_BY_LORRIES : GInt mg "BY_LORRIES" (1)
  c_NONE_SUCH : GInt mg "NONE_SUCH" (-2)
  c_NO_LOADS : GInt mg "NO_LOADS" (-6)
  c_NOT_BEGUN : GInt mg "NOT_BEGUN" (-11)
  c_IT_CAN_BE : GInt mg "IT_CAN_BE" (-17)
  c_OUT_OF_RANGE : GInt mg "OUT_OF_RANGE" (-22)
  c_TOO_MANY : GInt mg "TOO_MANY" (-28)
  c_IT_CANNOT_BE : GInt mg "IT_CANNOT_BE" (-33)
  c_MOST_WORK : GInt mg "MOST_WORK" (60)
  c_MOST_KEEP : GInt mg "MOST_KEEP" (300)
  c_MOST_WAY : GInt mg "MOST_WAY" (120)
  c_MOST_LORRIES : GInt mg "MOST_LORRIES" (20)
  c_MOST_LOADS : GInt mg "MOST_LOADS" (20)
  c_MOST_SPARE : GInt mg "MOST_SPARE" (300)
  c_LAST_START : GInt mg "LAST_START" (5000)
  c_BEGIN : GInt mg "BEGIN" (0)
  c_LOAD : GInt mg "LOAD" (1)
  c_DRIVE : GInt mg "DRIVE" (2)
  c_LESS : GInt mg "LESS" (3)
  c_LORRIES : GInt mg "LORRIES" (4)
  c_FILLING : GInt mg "FILLING" (5)
  c_LAYING : GInt mg "LAYING" (6)
  c_KEEPING : GInt mg "KEEPING" (7)
  c_CAN : GInt mg "CAN" (8)
  c_WHY : GInt mg "WHY" (9)
  c_START : GInt mg "START" (10)
  c_SOONEST : GInt mg "SOONEST" (11)
  c_LATEST : GInt mg "LATEST" (12)
  c_AGES : GInt mg "AGES" (13)
  c_WAITS : GInt mg "WAITS" (14)
  c_IFSTART : GInt mg "IFSTART" (15)
  c_ENDS : GInt mg "ENDS" (16)
  c_TRIED : GInt mg "TRIED" (17)
  c_FEWEST : GInt mg "FEWEST" (18)
  c_LEASTLAY : GInt mg "LEASTLAY" (19)
  c_LEASTKEEP : GInt mg "LEASTKEEP" (20)
  c_MOSTFILL : GInt mg "MOSTFILL" (21)
  c_SPARE : GInt mg "SPARE" (22)
  c_TOUR : GInt mg "TOUR" (23)
  c_DRIVES : GInt mg "DRIVES" (24)
  c_TAKES : GTup K mg "TAKES" [.int (3), .int (1), .int (2), .int (0), .int (1), .int (1), .int (1), .int (1), .int (0), .int (0), .int (0), .int (1), .int (1), .int (1), .int (1), .int (1), .int (1), .int (1), .int (0), .int (0), .int (0), .int (0), .int (1), .int (1), .int (0), .int (0)]
  b_enumerate : mg "enumerate" = none
  b_len : mg "len" = none
  b_list : mg "list" = none
  b_max : mg "max" = none
  b_min : mg "min" = none
  b_range : mg "range" = none
  b_zip : mg "zip" = none
def top (i : Nat) : Stmt := PySem.Challenge.pw_pavedloads_s01_answers.main.body.getD i (.Pass ⟨0, 0, 0, 0⟩)
abbrev s_Job___init__ : Stmt := inClass (top 1) 0
theorem sc_Job___init__ : FnScope ["self"] ["self"] (defScope s_Job___init__) := ⟨rfl, rfl, rfl, by decide +kernel, rfl, by decide +kernel, by decide +kernel⟩
abbrev s_copy_of : Stmt := top 2
theorem sc_copy_of : FnScope ["job", "other"] ["job"] (defScope s_copy_of) := ⟨rfl, rfl, rfl, by decide +kernel, rfl, by decide +kernel, by decide +kernel⟩
abbrev s_tell_by_age : Stmt := top 6
theorem sc_tell_by_age : FnScope ["job", "j", "k", "between"] ["job", "j", "k"] (defScope s_tell_by_age) := ⟨rfl, rfl, rfl, by decide +kernel, rfl, by decide +kernel, by decide +kernel⟩
abbrev s_tell_by_lorries : Stmt := top 7
theorem sc_tell_by_lorries : FnScope ["job", "j", "k", "between", "laid"] ["job", "j", "k"] (defScope s_tell_by_lorries) := ⟨rfl, rfl, rfl, by decide +kernel, rfl, by decide +kernel, by decide +kernel⟩
abbrev s_first_why_not : Stmt := top 8
theorem sc_first_why_not : FnScope ["job", "number", "j", "k"] ["job"] (defScope s_first_why_not) := ⟨rfl, rfl, rfl, by decide +kernel, rfl, by decide +kernel, by decide +kernel⟩
abbrev s_most_ahead : Stmt := top 9
theorem sc_most_ahead : FnScope ["job", "k", "before", "ahead"] ["job", "k", "before"] (defScope s_most_ahead) := ⟨rfl, rfl, rfl, by decide +kernel, rfl, by decide +kernel, by decide +kernel⟩
abbrev s_can_be : Stmt := top 10
theorem sc_can_be : FnScope ["job", "ahead", "k", "way"] ["job"] (defScope s_can_be) := ⟨rfl, rfl, rfl, by decide +kernel, rfl, by decide +kernel, by decide +kernel⟩
abbrev s_soonest_start : Stmt := top 11
theorem sc_soonest_start : FnScope ["job", "soonest", "k", "way"] ["job"] (defScope s_soonest_start) := ⟨rfl, rfl, rfl, by decide +kernel, rfl, by decide +kernel, by decide +kernel⟩
abbrev s_has_plan : Stmt := top 12
theorem sc_has_plan : FnScope ["job", "paver_start"] ["job", "paver_start"] (defScope s_has_plan) := ⟨rfl, rfl, rfl, by decide +kernel, rfl, by decide +kernel, by decide +kernel⟩
abbrev s_begun_at : Stmt := top 13
theorem sc_begun_at : FnScope ["job", "paver_start", "k"] ["job", "paver_start", "k"] (defScope s_begun_at) := ⟨rfl, rfl, rfl, by decide +kernel, rfl, by decide +kernel, by decide +kernel⟩
abbrev s_back_at : Stmt := top 14
theorem sc_back_at : FnScope ["job", "paver_start", "k"] ["job", "paver_start", "k"] (defScope s_back_at) := ⟨rfl, rfl, rfl, by decide +kernel, rfl, by decide +kernel, by decide +kernel⟩
abbrev s_not_before : Stmt := top 15
theorem sc_not_before : FnScope ["job", "paver_start", "k", "soonest"] ["job", "paver_start", "k"] (defScope s_not_before) := ⟨rfl, rfl, rfl, by decide +kernel, rfl, by decide +kernel, by decide +kernel⟩
abbrev s_filled_soonest : Stmt := top 16
theorem sc_filled_soonest : FnScope ["job", "paver_start", "filled", "plant_free", "k"] ["job", "paver_start"] (defScope s_filled_soonest) := ⟨rfl, rfl, rfl, by decide +kernel, rfl, by decide +kernel, by decide +kernel⟩
abbrev s_ages_soonest : Stmt := top 17
theorem sc_ages_soonest : FnScope ["job", "paver_start", "k", "filled"] ["job", "paver_start"] (defScope s_ages_soonest) := ⟨rfl, rfl, rfl, by decide +kernel, rfl, by decide +kernel, by decide +kernel⟩
abbrev s_filled_latest : Stmt := top 18
theorem sc_filled_latest : FnScope ["job", "paver_start", "backward", "number", "next_filling", "k", "filled"] ["job", "paver_start"] (defScope s_filled_latest) := ⟨rfl, rfl, rfl, by decide +kernel, rfl, by decide +kernel, by decide +kernel⟩
abbrev s_is_plan : Stmt := top 19
theorem sc_is_plan : FnScope ["job", "paver_start", "filled", "plant_free", "k", "way"] ["job", "paver_start", "filled"] (defScope s_is_plan) := ⟨rfl, rfl, rfl, by decide +kernel, rfl, by decide +kernel, by decide +kernel⟩
abbrev s_is_work : Stmt := top 33
theorem sc_is_work : FnScope ["minutes"] ["minutes"] (defScope s_is_work) := ⟨rfl, rfl, rfl, by decide +kernel, rfl, by decide +kernel, by decide +kernel⟩
abbrev s_is_keep : Stmt := top 34
theorem sc_is_keep : FnScope ["minutes"] ["minutes"] (defScope s_is_keep) := ⟨rfl, rfl, rfl, by decide +kernel, rfl, by decide +kernel, by decide +kernel⟩
abbrev s_is_way : Stmt := top 35
theorem sc_is_way : FnScope ["minutes"] ["minutes"] (defScope s_is_way) := ⟨rfl, rfl, rfl, by decide +kernel, rfl, by decide +kernel, by decide +kernel⟩
abbrev s_is_fleet : Stmt := top 36
theorem sc_is_fleet : FnScope ["number"] ["number"] (defScope s_is_fleet) := ⟨rfl, rfl, rfl, by decide +kernel, rfl, by decide +kernel, by decide +kernel⟩
abbrev s_begin : Stmt := top 37
theorem sc_begin : FnScope ["job", "fill", "lay", "keep"] ["job", "fill", "lay", "keep"] (defScope s_begin) := ⟨rfl, rfl, rfl, by decide +kernel, rfl, by decide +kernel, by decide +kernel⟩
abbrev s_load : Stmt := top 38
theorem sc_load : FnScope ["job", "way"] ["job", "way"] (defScope s_load) := ⟨rfl, rfl, rfl, by decide +kernel, rfl, by decide +kernel, by decide +kernel⟩
abbrev s_drive : Stmt := top 39
theorem sc_drive : FnScope ["job", "k", "way", "before"] ["job", "k", "way"] (defScope s_drive) := ⟨rfl, rfl, rfl, by decide +kernel, rfl, by decide +kernel, by decide +kernel⟩
abbrev s_less : Stmt := top 40
theorem sc_less : FnScope ["job"] ["job"] (defScope s_less) := ⟨rfl, rfl, rfl, by decide +kernel, rfl, by decide +kernel, by decide +kernel⟩
abbrev s_lorries : Stmt := top 41
theorem sc_lorries : FnScope ["job", "number", "before"] ["job", "number"] (defScope s_lorries) := ⟨rfl, rfl, rfl, by decide +kernel, rfl, by decide +kernel, by decide +kernel⟩
abbrev s_filling : Stmt := top 42
theorem sc_filling : FnScope ["job", "minutes", "before"] ["job", "minutes"] (defScope s_filling) := ⟨rfl, rfl, rfl, by decide +kernel, rfl, by decide +kernel, by decide +kernel⟩
abbrev s_laying : Stmt := top 43
theorem sc_laying : FnScope ["job", "minutes", "before"] ["job", "minutes"] (defScope s_laying) := ⟨rfl, rfl, rfl, by decide +kernel, rfl, by decide +kernel, by decide +kernel⟩
abbrev s_keeping : Stmt := top 44
theorem sc_keeping : FnScope ["job", "minutes", "before"] ["job", "minutes"] (defScope s_keeping) := ⟨rfl, rfl, rfl, by decide +kernel, rfl, by decide +kernel, by decide +kernel⟩
abbrev s_fewest : Stmt := top 47
theorem sc_fewest : FnScope ["job", "other", "fleet"] ["job"] (defScope s_fewest) := ⟨rfl, rfl, rfl, by decide +kernel, rfl, by decide +kernel, by decide +kernel⟩
abbrev s_leastlay : Stmt := top 48
theorem sc_leastlay : FnScope ["job", "other", "lay"] ["job"] (defScope s_leastlay) := ⟨rfl, rfl, rfl, by decide +kernel, rfl, by decide +kernel, by decide +kernel⟩
abbrev s_leastkeep : Stmt := top 49
theorem sc_leastkeep : FnScope ["job", "other", "keep"] ["job"] (defScope s_leastkeep) := ⟨rfl, rfl, rfl, by decide +kernel, rfl, by decide +kernel, by decide +kernel⟩
abbrev s_mostfill : Stmt := top 50
theorem sc_mostfill : FnScope ["job", "other", "fill"] ["job"] (defScope s_mostfill) := ⟨rfl, rfl, rfl, by decide +kernel, rfl, by decide +kernel, by decide +kernel⟩
abbrev s_spare : Stmt := top 51
theorem sc_spare : FnScope ["job", "k", "other", "more"] ["job", "k"] (defScope s_spare) := ⟨rfl, rfl, rfl, by decide +kernel, rfl, by decide +kernel, by decide +kernel⟩
abbrev s_tour : Stmt := top 53
theorem sc_tour : FnScope ["job", "lorry", "gone", "k"] ["job", "lorry"] (defScope s_tour) := ⟨rfl, rfl, rfl, by decide +kernel, rfl, by decide +kernel, by decide +kernel⟩
abbrev s_drives : Stmt := top 54
theorem sc_drives : FnScope ["job"] ["job"] (defScope s_drives) := ⟨rfl, rfl, rfl, by decide +kernel, rfl, by decide +kernel, by decide +kernel⟩
abbrev s_state : Stmt := top 55
theorem sc_state : FnScope ["job"] ["job"] (defScope s_state) := ⟨rfl, rfl, rfl, by decide +kernel, rfl, by decide +kernel, by decide +kernel⟩
abbrev s_can : Stmt := top 58
theorem sc_can : FnScope ["job"] ["job"] (defScope s_can) := ⟨rfl, rfl, rfl, by decide +kernel, rfl, by decide +kernel, by decide +kernel⟩
abbrev s_why : Stmt := top 59
theorem sc_why : FnScope ["job", "told"] ["job"] (defScope s_why) := ⟨rfl, rfl, rfl, by decide +kernel, rfl, by decide +kernel, by decide +kernel⟩
abbrev s_start : Stmt := top 60
theorem sc_start : FnScope ["job"] ["job"] (defScope s_start) := ⟨rfl, rfl, rfl, by decide +kernel, rfl, by decide +kernel, by decide +kernel⟩
abbrev s_ifstart : Stmt := top 61
theorem sc_ifstart : FnScope ["job", "paver_start"] ["job", "paver_start"] (defScope s_ifstart) := ⟨rfl, rfl, rfl, by decide +kernel, rfl, by decide +kernel, by decide +kernel⟩
abbrev s_start_refusal : Stmt := top 62
theorem sc_start_refusal : FnScope ["job", "paver_start"] ["job", "paver_start"] (defScope s_start_refusal) := ⟨rfl, rfl, rfl, by decide +kernel, rfl, by decide +kernel, by decide +kernel⟩
abbrev s_soonest : Stmt := top 63
theorem sc_soonest : FnScope ["job", "paver_start", "refusal"] ["job", "paver_start"] (defScope s_soonest) := ⟨rfl, rfl, rfl, by decide +kernel, rfl, by decide +kernel, by decide +kernel⟩
abbrev s_latest : Stmt := top 64
theorem sc_latest : FnScope ["job", "paver_start", "refusal"] ["job", "paver_start"] (defScope s_latest) := ⟨rfl, rfl, rfl, by decide +kernel, rfl, by decide +kernel, by decide +kernel⟩
abbrev s_ages : Stmt := top 65
theorem sc_ages : FnScope ["job", "paver_start", "refusal"] ["job", "paver_start"] (defScope s_ages) := ⟨rfl, rfl, rfl, by decide +kernel, rfl, by decide +kernel, by decide +kernel⟩
abbrev s_waits : Stmt := top 66
theorem sc_waits : FnScope ["job", "paver_start", "refusal", "waited", "age", "way"] ["job", "paver_start"] (defScope s_waits) := ⟨rfl, rfl, rfl, by decide +kernel, rfl, by decide +kernel, by decide +kernel⟩
abbrev s_ends : Stmt := top 67
theorem sc_ends : FnScope ["job", "paver_start", "refusal"] ["job", "paver_start"] (defScope s_ends) := ⟨rfl, rfl, rfl, by decide +kernel, rfl, by decide +kernel, by decide +kernel⟩
abbrev s_tried : Stmt := top 68
theorem sc_tried : FnScope ["job", "paver_start", "row"] ["job", "paver_start", "row"] (defScope s_tried) := ⟨rfl, rfl, rfl, by decide +kernel, rfl, by decide +kernel, by decide +kernel⟩
abbrev s_call_end : Stmt := top 96
theorem sc_call_end : FnScope ["calls", "at", "end"] ["calls", "at"] (defScope s_call_end) := ⟨rfl, rfl, rfl, by decide +kernel, rfl, by decide +kernel, by decide +kernel⟩
abbrev s_telling_answer : Stmt := top 97
theorem sc_telling_answer : FnScope ["job", "call", "told"] ["job", "call", "told"] (defScope s_telling_answer) := ⟨rfl, rfl, rfl, by decide +kernel, rfl, by decide +kernel, by decide +kernel⟩
abbrev s_looking_answer : Stmt := top 98
theorem sc_looking_answer : FnScope ["job", "call", "told"] ["job", "call", "told"] (defScope s_looking_answer) := ⟨rfl, rfl, rfl, by decide +kernel, rfl, by decide +kernel, by decide +kernel⟩
abbrev s_limits_answer : Stmt := top 99
theorem sc_limits_answer : FnScope ["job", "call", "told"] ["job", "call", "told"] (defScope s_limits_answer) := ⟨rfl, rfl, rfl, by decide +kernel, rfl, by decide +kernel, by decide +kernel⟩
abbrev s_listing_answer : Stmt := top 100
theorem sc_listing_answer : FnScope ["job", "call", "told"] ["job", "call", "told"] (defScope s_listing_answer) := ⟨rfl, rfl, rfl, by decide +kernel, rfl, by decide +kernel, by decide +kernel⟩
abbrev s_answer : Stmt := top 101
theorem sc_answer : FnScope ["job", "call", "told"] ["job", "call", "told"] (defScope s_answer) := ⟨rfl, rfl, rfl, by decide +kernel, rfl, by decide +kernel, by decide +kernel⟩
abbrev s_answers : Stmt := top 102
theorem sc_answers : FnScope ["calls", "job", "given", "at", "end", "numbers"] ["calls"] (defScope s_answers) := ⟨rfl, rfl, rfl, by decide +kernel, rfl, by decide +kernel, by decide +kernel⟩
theorem bk_ages_soonest : BlkOk ["job", "paver_start", "k", "filled"] (defScope s_ages_soonest) (lcScope (defBody s_ages_soonest) 0) [("k", 2), ("filled", 3)] := blkOk_by (by decide +kernel)
theorem bk_tour : BlkOk ["job", "lorry", "gone", "k"] (defScope s_tour) (lcScope (defBody s_tour) 1) [("k", 3)] := blkOk_by (by decide +kernel)
theorem bk_waits : BlkOk ["job", "paver_start", "refusal", "waited", "age", "way"] (defScope s_waits) (lcScope (defBody s_waits) 2) [("age", 4), ("way", 5)] := blkOk_by (by decide +kernel)
end My


set_option Elab.async false
set_option linter.all false
set_option maxRecDepth 100000
set_option maxHeartbeats 2000000
namespace My
open PySem PySem.Spec PyProof.Rows L2
open Kv366 (Abs)
-- rd begin
local macro_rules | `(tactic| walk_at "rd") => `(tactic| repeat (first
  | with_reducible refine rd_seq ?_
  | with_reducible refine rd_asg ?_
  | with_reducible refine rd_name ?_
  | with_reducible refine rd_op ?_
  | ((with_reducible apply rd_var); exact rfl)
  | with_reducible refine rd_c ?_
  | with_reducible refine rd_I0 ?_
  | with_reducible refine rd_fld ?_
  | with_reducible refine rd_begun (by assumption) (by assumption) ?_
  | with_reducible refine rd_fill (by assumption) (by assumption) ?_
  | with_reducible refine rd_lay (by assumption) (by assumption) ?_
  | with_reducible refine rd_keep (by assumption) (by assumption) ?_
  | with_reducible refine rd_fleet (by assumption) (by assumption) ?_
  | with_reducible refine rd_ways (by assumption) (by assumption) ?_
  | with_reducible refine rd_cons ?_
  | with_reducible refine rd_nil ?_
  | with_reducible refine rd_call ?_
  | with_reducible refine rd_cbLen ?_
  | with_reducible refine rd_cbMax ?_
  | with_reducible refine rd_cbMin ?_
  | with_reducible refine rd_if ?_
  | with_reducible refine rd_test ?_
  | with_reducible refine rd_tB ?_
  | with_reducible refine rd_bl ?_
  | with_reducible refine rd_ret ?_
  | with_reducible refine rd_drop ?_
  | with_reducible refine rd_eqI ?_
  | with_reducible refine rd_neI ?_
  | with_reducible refine rd_chain ?_
  | with_reducible refine rd_not ?_
  | with_reducible refine rd_and ?_
  | with_reducible refine rd_or ?_
  | with_reducible refine rd_andV ?_
  | with_reducible refine rd_orV ?_
  | with_reducible refine rd_notV ?_
  | with_reducible refine rd_ifE ?_
  | with_reducible refine rd_un ?_
  | with_reducible refine rd_U ?_
  | with_reducible refine rd_sfld ?_
  | with_reducible refine rd_lst ?_
  | ((with_reducible apply rd_lstq); exact rfl)
  | with_reducible refine rd_for ?_
  | with_reducible refine rd_lc ?_
  | with_reducible refine rd_yes ?_
  | with_reducible refine rd_zip ?_
  | with_reducible refine rd_rgz (by assumption) (by assumption) ?_
  | with_reducible refine rd_cbLst ?_
  | with_reducible refine rd_lof (by assumption) ?_
  | with_reducible refine rd_mod (by omega) ?_
  | with_reducible refine rd_rng1 ?_
  | with_reducible refine rd_rng2 ?_
  | with_reducible refine rd_rng3 ?_
  | with_reducible refine rd_enum ?_
  | with_reducible refine rd_ilist ?_
  | with_reducible refine rd_bm ?_
  | with_reducible refine rd_bm0 ?_
  | with_reducible refine rd_tyL (by assumption) ?_
  | with_reducible refine rd_lenW (by assumption) ?_
  | with_reducible refine rd_len (by assumption) ?_
  | with_reducible refine rd_lenS (by assumption) ?_
  | with_reducible refine rd_max ?_
  | with_reducible refine rd_min ?_
  | with_reducible refine rd_sl ?_
  | with_reducible refine rd_nopart ?_
  | with_reducible refine rd_part ?_
  | with_reducible refine rd_int ?_
  | with_reducible refine rd_slL (by assumption) ?_
  | with_reducible refine rd_slS (by assumption) ?_
  | with_reducible refine rd_rev ?_
  | with_reducible refine rd_revL (by assumption) ?_
  | with_reducible refine rd_sub ?_
  | with_reducible refine rd_mk ?_
  | with_reducible refine rd_I (by first | exact cm_r (by omega) | exact cm_l (by omega) (by omega)) ?_
  | with_reducible refine rd_ixW (by assumption) (by omega) ?_
  | ((with_reducible apply rd_ixL); assumption; exact rfl)
  | with_reducible refine rd_next ?_
  | with_reducible refine rd_brk ?_
  | with_reducible refine rd_cont ?_
  | with_reducible refine iteF ?_
  | with_reducible refine iteT ?_))
local macro_rules | `(tactic| walk_at "rd1") => `(tactic| first
  | with_reducible refine rd_seq ?_
  | with_reducible refine rd_asg ?_
  | with_reducible refine rd_name ?_
  | with_reducible refine rd_op ?_
  | ((with_reducible apply rd_var); exact rfl)
  | with_reducible refine rd_c ?_
  | with_reducible refine rd_I0 ?_
  | with_reducible refine rd_fld ?_
  | with_reducible refine rd_begun (by assumption) (by assumption) ?_
  | with_reducible refine rd_fill (by assumption) (by assumption) ?_
  | with_reducible refine rd_lay (by assumption) (by assumption) ?_
  | with_reducible refine rd_keep (by assumption) (by assumption) ?_
  | with_reducible refine rd_fleet (by assumption) (by assumption) ?_
  | with_reducible refine rd_ways (by assumption) (by assumption) ?_
  | with_reducible refine rd_cons ?_
  | with_reducible refine rd_nil ?_
  | with_reducible refine rd_call ?_
  | with_reducible refine rd_cbLen ?_
  | with_reducible refine rd_cbMax ?_
  | with_reducible refine rd_cbMin ?_
  | with_reducible refine rd_if ?_
  | with_reducible refine rd_test ?_
  | with_reducible refine rd_tB ?_
  | with_reducible refine rd_bl ?_
  | with_reducible refine rd_ret ?_
  | with_reducible refine rd_drop ?_
  | with_reducible refine rd_eqI ?_
  | with_reducible refine rd_neI ?_
  | with_reducible refine rd_chain ?_
  | with_reducible refine rd_not ?_
  | with_reducible refine rd_and ?_
  | with_reducible refine rd_or ?_
  | with_reducible refine rd_andV ?_
  | with_reducible refine rd_orV ?_
  | with_reducible refine rd_notV ?_
  | with_reducible refine rd_ifE ?_
  | with_reducible refine rd_un ?_
  | with_reducible refine rd_U ?_
  | with_reducible refine rd_sfld ?_
  | with_reducible refine rd_lst ?_
  | ((with_reducible apply rd_lstq); exact rfl)
  | with_reducible refine rd_for ?_
  | with_reducible refine rd_lc ?_
  | with_reducible refine rd_yes ?_
  | with_reducible refine rd_zip ?_
  | with_reducible refine rd_rgz (by assumption) (by assumption) ?_
  | with_reducible refine rd_cbLst ?_
  | with_reducible refine rd_lof (by assumption) ?_
  | with_reducible refine rd_mod (by omega) ?_
  | with_reducible refine rd_rng1 ?_
  | with_reducible refine rd_rng2 ?_
  | with_reducible refine rd_rng3 ?_
  | with_reducible refine rd_enum ?_
  | with_reducible refine rd_ilist ?_
  | with_reducible refine rd_bm ?_
  | with_reducible refine rd_bm0 ?_
  | with_reducible refine rd_tyL (by assumption) ?_
  | with_reducible refine rd_lenW (by assumption) ?_
  | with_reducible refine rd_len (by assumption) ?_
  | with_reducible refine rd_lenS (by assumption) ?_
  | with_reducible refine rd_max ?_
  | with_reducible refine rd_min ?_
  | with_reducible refine rd_sl ?_
  | with_reducible refine rd_nopart ?_
  | with_reducible refine rd_part ?_
  | with_reducible refine rd_int ?_
  | with_reducible refine rd_slL (by assumption) ?_
  | with_reducible refine rd_slS (by assumption) ?_
  | with_reducible refine rd_rev ?_
  | with_reducible refine rd_revL (by assumption) ?_
  | with_reducible refine rd_sub ?_
  | with_reducible refine rd_mk ?_
  | with_reducible refine rd_I (by first | exact cm_r (by omega) | exact cm_l (by omega) (by omega)) ?_
  | with_reducible refine rd_ixW (by assumption) (by omega) ?_
  | ((with_reducible apply rd_ixL); assumption; exact rfl)
  | with_reducible refine rd_next ?_
  | with_reducible refine rd_brk ?_
  | with_reducible refine rd_cont ?_
  | with_reducible refine iteF ?_
  | with_reducible refine iteT ?_)
local macro_rules | `(tactic| walk_at "pick") => `(tactic| repeat (first
  | (refine rd_dec (fun e => absurd e (by decide)) (fun _ => ?_))
  | (refine rd_dec (fun _ => ?_) (fun e => absurd (by decide) e))
  | (refine rd_ndec (fun e => absurd (by decide) e) (fun _ => ?_))
  | (refine rd_ndec (fun _ => ?_) (fun e => absurd e (by decide)))
  | with_reducible refine rd_seq ?_
  | with_reducible refine rd_asg ?_
  | with_reducible refine rd_name ?_
  | with_reducible refine rd_op ?_
  | ((with_reducible apply rd_var); exact rfl)
  | with_reducible refine rd_c ?_
  | with_reducible refine rd_I0 ?_
  | with_reducible refine rd_fld ?_
  | with_reducible refine rd_begun (by assumption) (by assumption) ?_
  | with_reducible refine rd_fill (by assumption) (by assumption) ?_
  | with_reducible refine rd_lay (by assumption) (by assumption) ?_
  | with_reducible refine rd_keep (by assumption) (by assumption) ?_
  | with_reducible refine rd_fleet (by assumption) (by assumption) ?_
  | with_reducible refine rd_ways (by assumption) (by assumption) ?_
  | with_reducible refine rd_cons ?_
  | with_reducible refine rd_nil ?_
  | with_reducible refine rd_call ?_
  | with_reducible refine rd_cbLen ?_
  | with_reducible refine rd_cbMax ?_
  | with_reducible refine rd_cbMin ?_
  | with_reducible refine rd_if ?_
  | with_reducible refine rd_test ?_
  | with_reducible refine rd_tB ?_
  | with_reducible refine rd_bl ?_
  | with_reducible refine rd_ret ?_
  | with_reducible refine rd_drop ?_
  | with_reducible refine rd_eqI ?_
  | with_reducible refine rd_neI ?_
  | with_reducible refine rd_chain ?_
  | with_reducible refine rd_not ?_
  | with_reducible refine rd_and ?_
  | with_reducible refine rd_or ?_
  | with_reducible refine rd_andV ?_
  | with_reducible refine rd_orV ?_
  | with_reducible refine rd_notV ?_
  | with_reducible refine rd_ifE ?_
  | with_reducible refine rd_un ?_
  | with_reducible refine rd_U ?_
  | with_reducible refine rd_sfld ?_
  | with_reducible refine rd_lst ?_
  | ((with_reducible apply rd_lstq); exact rfl)
  | with_reducible refine rd_for ?_
  | with_reducible refine rd_lc ?_
  | with_reducible refine rd_yes ?_
  | with_reducible refine rd_zip ?_
  | with_reducible refine rd_rgz (by assumption) (by assumption) ?_
  | with_reducible refine rd_cbLst ?_
  | with_reducible refine rd_lof (by assumption) ?_
  | with_reducible refine rd_mod (by omega) ?_
  | with_reducible refine rd_rng1 ?_
  | with_reducible refine rd_rng2 ?_
  | with_reducible refine rd_rng3 ?_
  | with_reducible refine rd_enum ?_
  | with_reducible refine rd_ilist ?_
  | with_reducible refine rd_bm ?_
  | with_reducible refine rd_bm0 ?_
  | with_reducible refine rd_tyL (by assumption) ?_
  | with_reducible refine rd_lenW (by assumption) ?_
  | with_reducible refine rd_len (by assumption) ?_
  | with_reducible refine rd_lenS (by assumption) ?_
  | with_reducible refine rd_max ?_
  | with_reducible refine rd_min ?_
  | with_reducible refine rd_sl ?_
  | with_reducible refine rd_nopart ?_
  | with_reducible refine rd_part ?_
  | with_reducible refine rd_int ?_
  | with_reducible refine rd_slL (by assumption) ?_
  | with_reducible refine rd_slS (by assumption) ?_
  | with_reducible refine rd_rev ?_
  | with_reducible refine rd_revL (by assumption) ?_
  | with_reducible refine rd_sub ?_
  | with_reducible refine rd_mk ?_
  | with_reducible refine rd_I (by first | exact cm_r (by omega) | exact cm_l (by omega) (by omega)) ?_
  | with_reducible refine rd_ixW (by assumption) (by omega) ?_
  | ((with_reducible apply rd_ixL); assumption; exact rfl)
  | with_reducible refine rd_next ?_
  | with_reducible refine rd_brk ?_
  | with_reducible refine rd_cont ?_
  | with_reducible refine iteF ?_
  | with_reducible refine iteT ?_))
local macro_rules | `(tactic| walk_at "rd0") => `(tactic| try dsimp only [cx_K])
-- rd end
section
variable {P : Program} {w : World} {K : PySem.W.Frag} {mg : Str → Option Value} {base : Heap} {C : Addr}
def spOld (C : Addr) : Sp := fun vs H Q _ => ∃ (p pw : Addr) (b : Bool) (a : Abs) (j k : Nat), vs = [.ref p, .int (j : Nat), .int (k : Nat)] ∧ JobAt C H p pw b a ∧ j ≤ k ∧ k < a.n ∧ Q (.bl (a.old j k)) H
def spLate (C : Addr) : Sp := fun vs H Q _ => ∃ (p pw : Addr) (b : Bool) (a : Abs) (j k : Nat), vs = [.ref p, .int (j : Nat), .int (k : Nat)] ∧ JobAt C H p pw b a ∧ j ≤ k ∧ k < a.n ∧ Q (.bl (a.late j k)) H
theorem has_tell_by_age (T : Txt K mg C) (U : Top K mg "tell_by_age" s_tell_by_age ["job", "j", "k"]) : Has P w K mg base 1 "tell_by_age" ["job", "j", "k"] (spOld C) := by
  refine U.has sc_tell_by_age (by first | (rintro _ _ _ _ ⟨_, rfl, _⟩; rfl) | (rintro _ _ _ _ ⟨_, _, rfl, _⟩; rfl) | (rintro _ _ _ _ ⟨_, _, _, rfl, _⟩; rfl) | (rintro _ _ _ _ ⟨_, _, _, _, rfl, _⟩; rfl) | (rintro _ _ _ _ ⟨_, _, _, _, _, rfl, _⟩; rfl) | (rintro _ _ _ _ ⟨_, _, _, _, _, _, rfl, _⟩; rfl) | (rintro _ _ _ _ ⟨_, _, _, _, _, _, _, rfl, _⟩; rfl) | (rintro _ _ _ _ ⟨_, _, _, _, _, _, _, _, rfl, _⟩; rfl)) (fun f cdv A outer s H vs Q E hr h => ?_)
  obtain ⟨p, pw, b, a, j, k, rfl, J, hjk, hk, q⟩ := h
  have cl := T.c
  have sc := sc_tell_by_age
  obtain ⟨f1, f2, f3, f4, f5, f6⟩ := J.fit
  refine ⟨_, (pss_cons (ps_set (i := 3) sc.nd rfl (Or.inl rfl) (pe_op op_sub (pv 2) (pv 1))) (pss_one (ps_ret (pe_cmpR op_lt (pe_op op_add (pe_op op_mul (pv 3) (pe_fld (pv 0) rfl)) (pe_fld (pv 0) rfl)) (pe_op op_add (pe_op op_mul (pv 3) (pe_fld (pv 0) rfl)) (pe_ix ix_list (pe_fld (pv 0) rfl) (pv 2) (fun _ _ => rfl))) (nomark _))))), ?_⟩
  walk_at "rd0"
  walk_at "rd"
  rw [Mth.old_int hjk]
  exact q
theorem has_tell_by_lorries (T : Txt K mg C) (U : Top K mg "tell_by_lorries" s_tell_by_lorries ["job", "j", "k"]) : Has P w K mg base 1 "tell_by_lorries" ["job", "j", "k"] (spLate C) := by
  refine U.has sc_tell_by_lorries (by first | (rintro _ _ _ _ ⟨_, rfl, _⟩; rfl) | (rintro _ _ _ _ ⟨_, _, rfl, _⟩; rfl) | (rintro _ _ _ _ ⟨_, _, _, rfl, _⟩; rfl) | (rintro _ _ _ _ ⟨_, _, _, _, rfl, _⟩; rfl) | (rintro _ _ _ _ ⟨_, _, _, _, _, rfl, _⟩; rfl) | (rintro _ _ _ _ ⟨_, _, _, _, _, _, rfl, _⟩; rfl) | (rintro _ _ _ _ ⟨_, _, _, _, _, _, _, rfl, _⟩; rfl) | (rintro _ _ _ _ ⟨_, _, _, _, _, _, _, _, rfl, _⟩; rfl)) (fun f cdv A outer s H vs Q E hr h => ?_)
  obtain ⟨p, pw, b, a, j, k, rfl, J, hjk, hk, q⟩ := h
  have cl := T.c
  have sc := sc_tell_by_lorries
  obtain ⟨f1, f2, f3, f4, f5, f6⟩ := J.fit
  refine ⟨_, (pss_cons (ps_if (pt_cmpR op_lt (pv 1) (pe_fld (pv 0) rfl) (nomark _)) (pss_one (ps_ret pe_bl)) pss_nil) (pss_cons (ps_set (i := 3) sc.nd rfl (Or.inl rfl) (pe_op op_sub (pv 2) (pv 1))) (pss_cons (ps_set (i := 4) sc.nd rfl (Or.inl rfl) (pe_op op_mul (pe_op op_sub (pe_op op_add (pv 3) (pe_fld (pv 0) rfl)) pe_int) (pe_fld (pv 0) rfl))) (pss_one (ps_ret (pe_cmpR op_lt (pv 4) (pe_op op_add (pe_op op_add (pe_op op_mul (pe_op op_add (pv 3) pe_int) (pe_fld (pv 0) rfl)) (pe_ix ix_list (pe_fld (pv 0) rfl) (pe_op op_sub (pv 1) (pe_fld (pv 0) rfl)) (fun _ _ => rfl))) (pe_ix ix_list (pe_fld (pv 0) rfl) (pv 2) (fun _ _ => rfl))) (nomark _))))))), ?_⟩
  walk_at "rd0"
  walk_at "rd"
  refine rd_dec (fun e => ?_) (fun e => ?_)
  · walk_at "rd"
    rw [Mth.late_not (by omega)] at q
    exact q
  · walk_at "rd"
    refine rd_ixWE (k := j - a.lorries) (by assumption) (by omega) (by omega) ?_
    walk_at "rd"
    rw [Mth.late_int hjk (by omega) f4]
    exact q
def whyL (a : Abs) : List Nat := match a.why with
  | none => []
  | some (x, j, k) => [x, j, k]
def spWhy (C : Addr) : Sp := fun vs H Q _ => ∃ (p pw : Addr) (b : Bool) (a : Abs), vs = [.ref p] ∧ JobAt C H p pw b a ∧ ∀ (H' : Hp) (l : Addr), Same H H' → H l = none → H' l = some (.lst (ivs (whyL a))) → Q (.ref l) H'
theorem has_first_why_not (T : Txt K mg C) (U : Top K mg "first_why_not" s_first_why_not ["job"]) (h_tell_by_age : Has P w K mg base 1 "tell_by_age" ["job", "j", "k"] (spOld C)) (h_tell_by_lorries : Has P w K mg base 1 "tell_by_lorries" ["job", "j", "k"] (spLate C)) : Has P w K mg base 2 "first_why_not" ["job"] (spWhy C) := by
  refine U.has sc_first_why_not (by first | (rintro _ _ _ _ ⟨_, rfl, _⟩; rfl) | (rintro _ _ _ _ ⟨_, _, rfl, _⟩; rfl) | (rintro _ _ _ _ ⟨_, _, _, rfl, _⟩; rfl) | (rintro _ _ _ _ ⟨_, _, _, _, rfl, _⟩; rfl) | (rintro _ _ _ _ ⟨_, _, _, _, _, rfl, _⟩; rfl) | (rintro _ _ _ _ ⟨_, _, _, _, _, _, rfl, _⟩; rfl) | (rintro _ _ _ _ ⟨_, _, _, _, _, _, _, rfl, _⟩; rfl) | (rintro _ _ _ _ ⟨_, _, _, _, _, _, _, _, rfl, _⟩; rfl)) (fun f cdv A outer s H vs Q E hr h => ?_)
  obtain ⟨p, pw, b, a, rfl, J, q⟩ := h
  have cl := T.c
  have sc := sc_first_why_not
  obtain ⟨f1, f2, f3, f4, f5, f6⟩ := J.fit
  refine ⟨_, (pss_cons (ps_set (i := 1) sc.nd rfl (Or.inl rfl) (pe_callB call_len_seq rfl T.b_len PySem.boot_len (pa_cons (pe_fld (pv 0) rfl) pa_nil))) (pss_cons (ps_for PassesOwn.never rfl (pi_range1 rfl T.b_range (pa_cons (pv 1) pa_nil)) (pg_name (i := 2) sc.nd rfl (Or.inl rfl) (Or.inr rfl)) (pss_one (ps_for PassesOwn.never rfl (pi_range2 rfl T.b_range (pa_cons (pv 2) (pa_cons (pv 1) pa_nil))) (pg_name (i := 3) sc.nd rfl (Or.inl rfl) (Or.inr rfl)) (pss_cons (ps_if (pt_val (pe_callH h_tell_by_age (hr.mono (by decide)) rfl (pa_cons (pv 0) (pa_cons (pv 2) (pa_cons (pv 3) pa_nil))))) (pss_one (ps_ret (pe_lst (pa_cons (pe_gi rfl T.c_BY_AGE) (pa_cons (pv 2) (pa_cons (pv 3) pa_nil)))))) pss_nil) (pss_one (ps_if (pt_val (pe_callH h_tell_by_lorries (hr.mono (by decide)) rfl (pa_cons (pv 0) (pa_cons (pv 2) (pa_cons (pv 3) pa_nil))))) (pss_one (ps_ret (pe_lst (pa_cons (pe_gi rfl T.c_BY_LORRIES) (pa_cons (pv 2) (pa_cons (pv 3) pa_nil)))))) pss_nil)))))) (pss_one (ps_ret (pe_lst pa_nil))))), ?_⟩
  walk_at "rd0"
  walk_at "rd"
  refine rd_rg1 (by omega) ?_
  refine fb_range0 (fun i σ H' => ∃ v2 v3, σ = [some (.ref p), some (.int (a.n : Nat)), v2, v3] ∧ H' = H ∧ ∀ j' k', j' < i → j' ≤ k' → k' < a.n → Mth.tell a j' k' = false) ⟨none, none, rfl, rfl, fun j' k' h => absurd h (Nat.not_lt_zero _)⟩ ?_ ?_
  · rintro j σ H' hj ⟨v2, v3, rfl, rfl, hno⟩
    walk_at "rd"
    refine rd_rg2 (by omega) (by omega) ?_
    refine fb_rangeN (fun i σ H'' => ∃ v3, σ = [some (.ref p), some (.int (a.n : Nat)), some (.int (j : Nat)), v3] ∧ H'' = H' ∧ ∀ k', j ≤ k' → k' < j + i → Mth.tell a j k' = false) ⟨_, rfl, rfl, fun k' h1 h2 => absurd h1 (by omega)⟩ ?_ ?_
    · rintro i σ H'' hi ⟨v3, rfl, rfl, hno2⟩
      walk_at "rd"
      refine ⟨p, pw, b, a, j, j + i, rfl, J, by omega, by omega, ?_⟩
      walk_at "rd"
      refine rd_bool (fun e => ?_) (fun e => ?_)
      · walk_at "rd"
        intro l hl
        refine q _ l (same_new hl) hl ?_
        rw [upd_same]
        unfold whyL
        rw [Mth.why_some (j := j) (k := j + i) (by omega) (by omega) (by unfold Mth.tell; rw [e]; rfl) hno (fun k' h1 h2 => hno2 k' h1 h2), e]
        rfl
      · walk_at "rd"
        refine ⟨p, pw, b, a, j, j + i, rfl, J, by omega, by omega, ?_⟩
        walk_at "rd"
        refine rd_bool (fun e2 => ?_) (fun e2 => ?_)
        · walk_at "rd"
          intro l hl
          refine q _ l (same_new hl) hl ?_
          rw [upd_same]
          unfold whyL
          rw [Mth.why_some (j := j) (k := j + i) (by omega) (by omega) (by unfold Mth.tell; rw [e, e2]; rfl) hno (fun k' h1 h2 => hno2 k' h1 h2), e]
          rfl
        · walk_at "rd"
          refine ⟨_, rfl, rfl, fun k' h1 h2 => ?_⟩
          by_cases hk : k' = j + i
          · subst hk
            unfold Mth.tell
            rw [e, e2]
            rfl
          · exact hno2 k' h1 (by omega)
    · rintro σ H'' ⟨v3, rfl, rfl, hno2⟩
      refine ⟨_, _, rfl, rfl, fun j' k' h1 h2 h3 => ?_⟩
      by_cases hj' : j' = j
      · subst hj'
        exact hno2 k' h2 (by omega)
      · exact hno j' k' (by omega) h2 h3
  · rintro σ H' ⟨v2, v3, rfl, rfl, hno⟩
    walk_at "rd"
    intro l hl
    refine q _ l (same_new hl) hl ?_
    rw [upd_same]
    unfold whyL
    rw [Mth.why_none fun j k h1 h2 => hno j k (by omega) h1 h2]
    rfl
def spCanBe (C : Addr) : Sp := fun vs H Q _ => ∃ (p pw : Addr) (b : Bool) (a : Abs), vs = [.ref p] ∧ JobAt C H p pw b a ∧ ∀ H' : Hp, Same H H' → Q (.bl a.can) H'
def spAhead (C : Addr) : Sp := fun vs H Q _ => ∃ (p pw : Addr) (b : Bool) (a : Abs) (k : Nat) (z : Int), vs = [.ref p, .int (k : Nat), .int z] ∧ JobAt C H p pw b a ∧ k < a.n ∧ Q (.int (Mth.ahStep a k z)) H
theorem has_most_ahead (T : Txt K mg C) (U : Top K mg "most_ahead" s_most_ahead ["job", "k", "before"]) : Has P w K mg base 1 "most_ahead" ["job", "k", "before"] (spAhead C) := by
  refine U.has sc_most_ahead (by first | (rintro _ _ _ _ ⟨_, rfl, _⟩; rfl) | (rintro _ _ _ _ ⟨_, _, rfl, _⟩; rfl) | (rintro _ _ _ _ ⟨_, _, _, rfl, _⟩; rfl) | (rintro _ _ _ _ ⟨_, _, _, _, rfl, _⟩; rfl) | (rintro _ _ _ _ ⟨_, _, _, _, _, rfl, _⟩; rfl) | (rintro _ _ _ _ ⟨_, _, _, _, _, _, rfl, _⟩; rfl) | (rintro _ _ _ _ ⟨_, _, _, _, _, _, _, rfl, _⟩; rfl) | (rintro _ _ _ _ ⟨_, _, _, _, _, _, _, _, rfl, _⟩; rfl)) (fun f cdv A outer s H vs Q E hr h => ?_)
  obtain ⟨p, pw, b, a, k, z, rfl, J, hk, q⟩ := h
  have cl := T.c
  have sc := sc_most_ahead
  obtain ⟨f1, f2, f3, f4, f5, f6⟩ := J.fit
  refine ⟨_, (pss_cons (ps_set (i := 3) sc.nd rfl (Or.inl rfl) (pe_fld (pv 0) rfl)) (pss_cons (ps_if (pt_cmpR op_gt (pv 1) pe_int (nomark _)) (pss_one (ps_set (i := 3) sc.nd rfl (Or.inl rfl) (pe_callB (call_min2 rfl) rfl T.b_min boot_min (pa_cons (pv 3) (pa_cons (pe_op op_sub (pe_op op_add (pv 2) (pe_fld (pv 0) rfl)) (pe_fld (pv 0) rfl)) pa_nil))))) pss_nil) (pss_cons (ps_if (pt_cmpR op_lt (pv 1) (pe_fld (pv 0) rfl) (nomark _)) (pss_one (ps_ret (pv 3))) pss_nil) (pss_one (ps_ret (pe_callB (call_min2 rfl) rfl T.b_min boot_min (pa_cons (pv 3) (pa_cons (pe_op op_sub (pe_op op_sub (pe_op op_mul (pe_op op_sub (pe_fld (pv 0) rfl) pe_int) (pe_fld (pv 0) rfl)) (pe_ix ix_list (pe_fld (pv 0) rfl) (pe_op op_sub (pv 1) (pe_fld (pv 0) rfl)) (fun _ _ => rfl))) (pe_fld (pv 0) rfl)) pa_nil)))))))), ?_⟩
  walk_at "rd0"
  unfold Mth.ahStep Mth.mn at q
  walk_at "rd"
  refine rd_dec (fun e => ?_) (fun e => ?_)
  · simp only [if_pos (show 0 < k by omega)] at q
    walk_at "rd"
    refine rd_dec (fun e2 => ?_) (fun e2 => ?_)
    · rw [if_pos (by omega)] at q
      walk_at "rd"
      exact q
    · rw [if_neg (by omega)] at q
      walk_at "rd"
      refine rd_ixWE (k := k - a.lorries) (by assumption) (by omega) (by omega) ?_
      walk_at "rd"
      exact q
  · simp only [if_neg (show ¬ 0 < k by omega)] at q
    walk_at "rd"
    refine rd_dec (fun e2 => ?_) (fun e2 => ?_)
    · rw [if_pos (by omega)] at q
      walk_at "rd"
      exact q
    · rw [if_neg (by omega)] at q
      walk_at "rd"
      refine rd_ixWE (k := k - a.lorries) (by assumption) (by omega) (by omega) ?_
      walk_at "rd"
      exact q
theorem ivs_at {a : Abs} {i : Nat} {x : V} (hx : (ivs a.drives)[i]? = some x) : i < a.n ∧ x = .int (a.d i : Nat) := by
  have hi : i < a.n := by
    have := (List.getElem?_eq_some_iff.mp hx).1
    rw [ivs_len] at this
    exact this
  refine ⟨hi, ?_⟩
  unfold ivs at hx
  rw [List.getElem?_map, List.getElem?_eq_getElem (show i < a.drives.length from hi)] at hx
  have := (Option.some.inj hx).symm
  rw [this]
  unfold Kv366.Abs.d
  rw [List.getD_eq_getElem?_getD, List.getElem?_eq_getElem (show i < a.drives.length from hi)]
  rfl
theorem has_can_be (T : Txt K mg C) (U : Top K mg "can_be" s_can_be ["job"]) (h_most_ahead : Has P w K mg base 1 "most_ahead" ["job", "k", "before"] (spAhead C)) : Has P w K mg base 2 "can_be" ["job"] (spCanBe C) := by
  refine U.has sc_can_be (by first | (rintro _ _ _ _ ⟨_, rfl, _⟩; rfl) | (rintro _ _ _ _ ⟨_, _, rfl, _⟩; rfl) | (rintro _ _ _ _ ⟨_, _, _, rfl, _⟩; rfl) | (rintro _ _ _ _ ⟨_, _, _, _, rfl, _⟩; rfl) | (rintro _ _ _ _ ⟨_, _, _, _, _, rfl, _⟩; rfl) | (rintro _ _ _ _ ⟨_, _, _, _, _, _, rfl, _⟩; rfl) | (rintro _ _ _ _ ⟨_, _, _, _, _, _, _, rfl, _⟩; rfl) | (rintro _ _ _ _ ⟨_, _, _, _, _, _, _, _, rfl, _⟩; rfl)) (fun f cdv A outer s H vs Q E hr h => ?_)
  obtain ⟨p, pw, b, a, rfl, J, q⟩ := h
  have cl := T.c
  have sc := sc_can_be
  obtain ⟨f1, f2, f3, f4, f5, f6⟩ := J.fit
  refine ⟨_, (pss_cons (ps_set (i := 1) sc.nd rfl (Or.inl rfl) pe_int) (pss_cons (ps_for PassesOwn.never rfl (pi_enum rfl T.b_enumerate (pa_cons (pe_fld (pv 0) rfl) pa_nil)) (pg_tup rfl (pgs_cons (pg_name (i := 2) sc.nd rfl (Or.inl rfl) (Or.inr rfl)) (pgs_cons (pg_name (i := 3) sc.nd rfl (Or.inl rfl) (Or.inr rfl)) pgs_nil))) (pss_cons (ps_set (i := 1) sc.nd rfl (Or.inl rfl) (pe_callH h_most_ahead (hr.mono (by decide)) rfl (pa_cons (pv 0) (pa_cons (pv 2) (pa_cons (pv 1) pa_nil))))) (pss_one (ps_if (pt_cmpR op_lt (pv 1) (pv 3) (nomark _)) (pss_one (ps_ret pe_bl)) pss_nil)))) (pss_one (ps_ret pe_bl)))), ?_⟩
  walk_at "rd0"
  walk_at "rd"
  refine rd_rge J.ws ?_
  refine fb_enum (xs := ivs a.drives) (fun i σ H' => ∃ v2 v3, σ = [some (.ref p), some (.int (Mth.ahTo a i)), v2, v3] ∧ Same H H' ∧ ∀ k, k < i → (a.d k : Int) ≤ Mth.ahTo a (k + 1)) ⟨none, none, rfl, Same.refl _, fun k hk => absurd hk (Nat.not_lt_zero _)⟩ (fun i σ H' _ ⟨_, _, _, s1, _⟩ => SqL.of (s1 _ _ J.ws)) ?_ ?_
  · rintro i x T' σ H' hx ⟨v2, v3, rfl, s1, hno⟩ hT
    obtain ⟨hi, rfl⟩ := ivs_at hx
    have s2 := s1.trans (same_new (o := .tup [.int (i : Nat), .int (a.d i : Nat)]) hT)
    have J2 := J.same s2
    refine rd_pair upd_same ?_
    walk_at "rd"
    refine ⟨p, pw, b, a, i, _, rfl, J2, hi, ?_⟩
    walk_at "rd"
    refine rd_dec (fun e => ?_) (fun e => ?_)
    · walk_at "rd"
      have := Mth.ah_no f4 hi e
      rw [← this]
      exact q _ s2
    · walk_at "rd"
      refine ⟨some (.int (i : Nat)), some (.int (a.d i : Nat)), rfl, s2, fun k hk => ?_⟩
      by_cases hk2 : k = i
      · subst hk2
        exact Int.not_lt.mp e
      · exact hno k (by omega)
  · rintro σ H' ⟨v2, v3, rfl, s1, hno⟩
    walk_at "rd"
    rw [ivs_len] at hno
    have := Mth.ah_yes f4 hno
    rw [← this]
    exact q _ s1
def spStart (C : Addr) : Sp := fun vs H Q _ => ∃ (p pw : Addr) (b : Bool) (a : Abs), vs = [.ref p] ∧ JobAt C H p pw b a ∧ ∀ H' : Hp, Same H H' → Q (.int (a.start : Nat)) H'
theorem has_soonest_start (T : Txt K mg C) (U : Top K mg "soonest_start" s_soonest_start ["job"]) : Has P w K mg base 1 "soonest_start" ["job"] (spStart C) := by
  refine U.has sc_soonest_start (by first | (rintro _ _ _ _ ⟨_, rfl, _⟩; rfl) | (rintro _ _ _ _ ⟨_, _, rfl, _⟩; rfl) | (rintro _ _ _ _ ⟨_, _, _, rfl, _⟩; rfl) | (rintro _ _ _ _ ⟨_, _, _, _, rfl, _⟩; rfl) | (rintro _ _ _ _ ⟨_, _, _, _, _, rfl, _⟩; rfl) | (rintro _ _ _ _ ⟨_, _, _, _, _, _, rfl, _⟩; rfl) | (rintro _ _ _ _ ⟨_, _, _, _, _, _, _, rfl, _⟩; rfl) | (rintro _ _ _ _ ⟨_, _, _, _, _, _, _, _, rfl, _⟩; rfl)) (fun f cdv A outer s H vs Q E hr h => ?_)
  obtain ⟨p, pw, b, a, rfl, J, q⟩ := h
  have cl := T.c
  have sc := sc_soonest_start
  obtain ⟨f1, f2, f3, f4, f5, f6⟩ := J.fit
  refine ⟨_, (pss_cons (ps_set (i := 1) sc.nd rfl (Or.inl rfl) pe_int) (pss_cons (ps_for PassesOwn.never rfl (pi_enum rfl T.b_enumerate (pa_cons (pe_fld (pv 0) rfl) pa_nil)) (pg_tup rfl (pgs_cons (pg_name (i := 2) sc.nd rfl (Or.inl rfl) (Or.inr rfl)) (pgs_cons (pg_name (i := 3) sc.nd rfl (Or.inl rfl) (Or.inr rfl)) pgs_nil))) (pss_one (ps_set (i := 1) sc.nd rfl (Or.inl rfl) (pe_callB (call_max2 rfl) rfl T.b_max boot_max (pa_cons (pv 1) (pa_cons (pe_op op_sub (pe_op op_add (pe_op op_mul (pe_op op_add (pv 2) pe_int) (pe_fld (pv 0) rfl)) (pv 3)) (pe_op op_mul (pv 2) (pe_fld (pv 0) rfl))) pa_nil)))))) (pss_one (ps_ret (pv 1))))), ?_⟩
  walk_at "rd0"
  walk_at "rd"
  refine rd_rge J.ws ?_
  refine fb_enum (xs := ivs a.drives) (fun i σ H' => ∃ v2 v3, σ = [some (.ref p), some (.int (Mth.stTo a i : Nat)), v2, v3] ∧ Same H H') ⟨none, none, rfl, Same.refl _⟩ (fun i σ H' _ ⟨_, _, _, s1⟩ => SqL.of (s1 _ _ J.ws)) ?_ ?_
  · rintro i x T' σ H' hx ⟨v2, v3, rfl, s1⟩ hT
    have hi : i < a.n := by
      have := (List.getElem?_eq_some_iff.mp hx).1
      rw [ivs_len] at this
      exact this
    have e : x = .int (a.d i : Nat) := by
      unfold ivs at hx
      rw [List.getElem?_map, List.getElem?_eq_getElem (show i < a.drives.length from hi)] at hx
      have := (Option.some.inj hx).symm
      rw [this]
      unfold Kv366.Abs.d
      rw [List.getD_eq_getElem?_getD, List.getElem?_eq_getElem (show i < a.drives.length from hi)]
      rfl
    subst e
    have s2 := s1.trans (same_new (o := .tup [.int (i : Nat), .int (a.d i : Nat)]) hT)
    have J2 := J.same s2
    refine rd_pair upd_same ?_
    walk_at "rd"
    refine ⟨some (.int (i : Nat)), some (.int (a.d i : Nat)), ?_, s2⟩
    have e := Mth.st_int a i
    unfold Mth.mx at e
    rw [e]
    rfl
  · rintro σ H' ⟨v2, v3, rfl, s1⟩
    walk_at "rd"
    rw [ivs_len]
    exact q H' s1
def spHasPlan (C : Addr) : Sp := fun vs H Q _ => ∃ (p pw : Addr) (b : Bool) (a : Abs) (s : Nat), vs = [.ref p, .int (s : Nat)] ∧ JobAt C H p pw b a ∧ ∀ H' : Hp, Same H H' → Q (.bl (a.could s)) H'
theorem has_has_plan (T : Txt K mg C) (U : Top K mg "has_plan" s_has_plan ["job", "paver_start"]) (h_can_be : Has P w K mg base 2 "can_be" ["job"] (spCanBe C)) (h_soonest_start : Has P w K mg base 1 "soonest_start" ["job"] (spStart C)) : Has P w K mg base 3 "has_plan" ["job", "paver_start"] (spHasPlan C) := by
  refine U.has sc_has_plan (by first | (rintro _ _ _ _ ⟨_, rfl, _⟩; rfl) | (rintro _ _ _ _ ⟨_, _, rfl, _⟩; rfl) | (rintro _ _ _ _ ⟨_, _, _, rfl, _⟩; rfl) | (rintro _ _ _ _ ⟨_, _, _, _, rfl, _⟩; rfl) | (rintro _ _ _ _ ⟨_, _, _, _, _, rfl, _⟩; rfl) | (rintro _ _ _ _ ⟨_, _, _, _, _, _, rfl, _⟩; rfl) | (rintro _ _ _ _ ⟨_, _, _, _, _, _, _, rfl, _⟩; rfl) | (rintro _ _ _ _ ⟨_, _, _, _, _, _, _, _, rfl, _⟩; rfl)) (fun f cdv A outer s H vs Q E hr h => ?_)
  obtain ⟨p, pw, b, a, s', rfl, J, q⟩ := h
  have cl := T.c
  have sc := sc_has_plan
  refine ⟨_, (pss_one (ps_ret (pe_and (pe_callH h_can_be (hr.mono (by decide)) rfl (pa_cons (pv 0) pa_nil)) (pe_one (pe_cmpR op_ge (pv 1) (pe_callH h_soonest_start (hr.mono (by decide)) rfl (pa_cons (pv 0) pa_nil)) (nomark _)))))), ?_⟩
  walk_at "rd0"
  walk_at "rd"
  refine ⟨p, pw, b, a, rfl, J, fun H' s1 => ?_⟩
  walk_at "rd"
  refine rd_bool (fun e => ?_) (fun e => ?_)
  · walk_at "rd"
    refine ⟨p, pw, b, a, rfl, J.same s1, fun H2 s2 => ?_⟩
    walk_at "rd"
    have q := q H2 (s1.trans s2)
    unfold Kv366.Abs.could at q
    rw [e, Bool.true_and] at q
    rw [show decide ((a.start : Int) ≤ (s' : Int)) = decide (a.start ≤ s') from decide_eq_decide.mpr (by omega)]
    exact q
  · have q := q H' s1
    unfold Kv366.Abs.could at q
    rw [e, Bool.false_and] at q
    exact q
def spBegun (C : Addr) : Sp := fun vs H Q _ => ∃ (p pw : Addr) (b : Bool) (a : Abs) (s k : Int), vs = [.ref p, .int s, .int k] ∧ JobAt C H p pw b a ∧ Q (.int (s + k * (a.lay : Int))) H
theorem has_begun_at (T : Txt K mg C) (U : Top K mg "begun_at" s_begun_at ["job", "paver_start", "k"]) : Has P w K mg base 1 "begun_at" ["job", "paver_start", "k"] (spBegun C) := by
  refine U.has sc_begun_at (by first | (rintro _ _ _ _ ⟨_, rfl, _⟩; rfl) | (rintro _ _ _ _ ⟨_, _, rfl, _⟩; rfl) | (rintro _ _ _ _ ⟨_, _, _, rfl, _⟩; rfl) | (rintro _ _ _ _ ⟨_, _, _, _, rfl, _⟩; rfl) | (rintro _ _ _ _ ⟨_, _, _, _, _, rfl, _⟩; rfl) | (rintro _ _ _ _ ⟨_, _, _, _, _, _, rfl, _⟩; rfl) | (rintro _ _ _ _ ⟨_, _, _, _, _, _, _, rfl, _⟩; rfl) | (rintro _ _ _ _ ⟨_, _, _, _, _, _, _, _, rfl, _⟩; rfl)) (fun f cdv A outer s H vs Q E hr h => ?_)
  obtain ⟨p, pw, b, a, s', k, rfl, J, q⟩ := h
  have cl := T.c
  have sc := sc_begun_at
  obtain ⟨f1, f2, f3, f4, f5, f6⟩ := J.fit
  refine ⟨_, (pss_one (ps_ret (pe_op op_add (pv 1) (pe_op op_mul (pv 2) (pe_fld (pv 0) rfl))))), ?_⟩
  walk_at "rd0"
  walk_at "rd"
  exact q
def spBack (C : Addr) : Sp := fun vs H Q _ => ∃ (p pw : Addr) (b : Bool) (a : Abs) (s z : Int) (k : Nat), vs = [.ref p, .int s, .int z] ∧ JobAt C H p pw b a ∧ z = (k : Int) ∧ k < a.n ∧ Q (.int (s + (z + 1) * (a.lay : Int) + (a.d k : Int))) H
theorem has_back_at (T : Txt K mg C) (U : Top K mg "back_at" s_back_at ["job", "paver_start", "k"]) (h_begun_at : Has P w K mg base 1 "begun_at" ["job", "paver_start", "k"] (spBegun C)) : Has P w K mg base 2 "back_at" ["job", "paver_start", "k"] (spBack C) := by
  refine U.has sc_back_at (by first | (rintro _ _ _ _ ⟨_, rfl, _⟩; rfl) | (rintro _ _ _ _ ⟨_, _, rfl, _⟩; rfl) | (rintro _ _ _ _ ⟨_, _, _, rfl, _⟩; rfl) | (rintro _ _ _ _ ⟨_, _, _, _, rfl, _⟩; rfl) | (rintro _ _ _ _ ⟨_, _, _, _, _, rfl, _⟩; rfl) | (rintro _ _ _ _ ⟨_, _, _, _, _, _, rfl, _⟩; rfl) | (rintro _ _ _ _ ⟨_, _, _, _, _, _, _, rfl, _⟩; rfl) | (rintro _ _ _ _ ⟨_, _, _, _, _, _, _, _, rfl, _⟩; rfl)) (fun f cdv A outer s H vs Q E hr h => ?_)
  obtain ⟨p, pw, b, a, s', z, k, rfl, J, hz, hk, q⟩ := h
  have cl := T.c
  have sc := sc_back_at
  refine ⟨_, (pss_one (ps_ret (pe_op op_add (pe_callH h_begun_at (hr.mono (by decide)) rfl (pa_cons (pv 0) (pa_cons (pv 1) (pa_cons (pe_op op_add (pv 2) pe_int) pa_nil)))) (pe_ix ix_list (pe_fld (pv 0) rfl) (pv 2) (fun _ _ => rfl))))), ?_⟩
  walk_at "rd0"
  walk_at "rd"
  refine ⟨p, pw, b, a, _, _, rfl, J, ?_⟩
  walk_at "rd"
  refine rd_ixWE J hz hk ?_
  walk_at "rd"
  exact q
def spNotBefore (C : Addr) : Sp := fun vs H Q _ => ∃ (p pw : Addr) (b : Bool) (a : Abs) (s k : Nat), vs = [.ref p, .int (s : Nat), .int (k : Nat)] ∧ JobAt C H p pw b a ∧ k < a.n ∧ Q (.int (Mth.nbI a s k)) H
theorem has_not_before (T : Txt K mg C) (U : Top K mg "not_before" s_not_before ["job", "paver_start", "k"]) (h_begun_at : Has P w K mg base 1 "begun_at" ["job", "paver_start", "k"] (spBegun C)) (h_back_at : Has P w K mg base 2 "back_at" ["job", "paver_start", "k"] (spBack C)) : Has P w K mg base 3 "not_before" ["job", "paver_start", "k"] (spNotBefore C) := by
  refine U.has sc_not_before (by first | (rintro _ _ _ _ ⟨_, rfl, _⟩; rfl) | (rintro _ _ _ _ ⟨_, _, rfl, _⟩; rfl) | (rintro _ _ _ _ ⟨_, _, _, rfl, _⟩; rfl) | (rintro _ _ _ _ ⟨_, _, _, _, rfl, _⟩; rfl) | (rintro _ _ _ _ ⟨_, _, _, _, _, rfl, _⟩; rfl) | (rintro _ _ _ _ ⟨_, _, _, _, _, _, rfl, _⟩; rfl) | (rintro _ _ _ _ ⟨_, _, _, _, _, _, _, rfl, _⟩; rfl) | (rintro _ _ _ _ ⟨_, _, _, _, _, _, _, _, rfl, _⟩; rfl)) (fun f cdv A outer s H vs Q E hr h => ?_)
  obtain ⟨p, pw, b, a, s', k, rfl, J, hk, q⟩ := h
  have cl := T.c
  have sc := sc_not_before
  obtain ⟨f1, f2, f3, f4, f5, f6⟩ := J.fit
  refine ⟨_, (pss_cons (ps_set (i := 3) sc.nd rfl (Or.inl rfl) (pe_callB (call_max2 rfl) rfl T.b_max boot_max (pa_cons (pe_fld (pv 0) rfl) (pa_cons (pe_op op_sub (pe_callH h_begun_at (hr.mono (by decide)) rfl (pa_cons (pv 0) (pa_cons (pv 1) (pa_cons (pv 2) pa_nil)))) (pe_fld (pv 0) rfl)) pa_nil)))) (pss_cons (ps_if (pt_cmpR op_lt (pv 2) (pe_fld (pv 0) rfl) (nomark _)) (pss_one (ps_ret (pv 3))) pss_nil) (pss_one (ps_ret (pe_callB (call_max2 rfl) rfl T.b_max boot_max (pa_cons (pv 3) (pa_cons (pe_op op_add (pe_callH h_back_at (hr.mono (by decide)) rfl (pa_cons (pv 0) (pa_cons (pv 1) (pa_cons (pe_op op_sub (pv 2) (pe_fld (pv 0) rfl)) pa_nil)))) (pe_fld (pv 0) rfl)) pa_nil))))))), ?_⟩
  walk_at "rd0"
  unfold Mth.nbI Mth.mx at q
  walk_at "rd"
  refine ⟨p, pw, b, a, _, _, rfl, J, ?_⟩
  walk_at "rd"
  refine rd_dec (fun e => ?_) (fun e => ?_)
  · walk_at "rd"
    rw [if_pos (by omega)] at q
    exact q
  · walk_at "rd"
    rw [if_neg (by omega)] at q
    refine ⟨p, pw, b, a, _, _, k - a.lorries, rfl, J, by omega, by omega, ?_⟩
    walk_at "rd"
    exact q
def spSoon (C : Addr) : Sp := fun vs H Q _ => ∃ (p pw : Addr) (b : Bool) (a : Abs) (s : Nat), vs = [.ref p, .int (s : Nat)] ∧ JobAt C H p pw b a ∧ ∀ (H' : Hp) (l : Addr), Same H H' → H l = none → H' l = some (.lst (ivs (a.soonest s))) → Q (.ref l) H'
theorem ivs_snoc (l : List Nat) (n : Nat) : ivs (l ++ [n]) = ivs l ++ [.int (n : Nat)] := by
  unfold ivs
  rw [List.map_append]
  rfl
theorem has_filled_soonest (T : Txt K mg C) (U : Top K mg "filled_soonest" s_filled_soonest ["job", "paver_start"]) (h_not_before : Has P w K mg base 3 "not_before" ["job", "paver_start", "k"] (spNotBefore C)) : Has P w K mg base 4 "filled_soonest" ["job", "paver_start"] (spSoon C) := by
  refine U.has sc_filled_soonest (by first | (rintro _ _ _ _ ⟨_, rfl, _⟩; rfl) | (rintro _ _ _ _ ⟨_, _, rfl, _⟩; rfl) | (rintro _ _ _ _ ⟨_, _, _, rfl, _⟩; rfl) | (rintro _ _ _ _ ⟨_, _, _, _, rfl, _⟩; rfl) | (rintro _ _ _ _ ⟨_, _, _, _, _, rfl, _⟩; rfl) | (rintro _ _ _ _ ⟨_, _, _, _, _, _, rfl, _⟩; rfl) | (rintro _ _ _ _ ⟨_, _, _, _, _, _, _, rfl, _⟩; rfl) | (rintro _ _ _ _ ⟨_, _, _, _, _, _, _, _, rfl, _⟩; rfl)) (fun f cdv A outer s H vs Q E hr h => ?_)
  obtain ⟨p, pw, b, a, s', rfl, J, q⟩ := h
  have cl := T.c
  have sc := sc_filled_soonest
  obtain ⟨f1, f2, f3, f4, f5, f6⟩ := J.fit
  refine ⟨_, (pss_cons (ps_set (i := 2) sc.nd rfl (Or.inl rfl) (pe_lst pa_nil)) (pss_cons (ps_set (i := 3) sc.nd rfl (Or.inl rfl) pe_int) (pss_cons (ps_for PassesOwn.never rfl (pi_range1 rfl T.b_range (pa_cons (pe_callB call_len_seq rfl T.b_len PySem.boot_len (pa_cons (pe_fld (pv 0) rfl) pa_nil)) pa_nil)) (pg_name (i := 4) sc.nd rfl (Or.inl rfl) (Or.inr rfl)) (pss_cons (ps_set (i := 3) sc.nd rfl (Or.inl rfl) (pe_callB (call_max2 rfl) rfl T.b_max boot_max (pa_cons (pe_op op_add (pv 3) (pe_fld (pv 0) rfl)) (pa_cons (pe_callH h_not_before (hr.mono (by decide)) rfl (pa_cons (pv 0) (pa_cons (pv 1) (pa_cons (pv 4) pa_nil)))) pa_nil)))) (pss_one (ps_expr (pe_bm PySem.F.plainAttrs_list PySem.F.slot_list_append PySem.F.type_list_append mt_append (pv 2) (pa_cons (pv 3) pa_nil)))))) (pss_one (ps_ret (pv 2)))))), ?_⟩
  walk_at "rd0"
  walk_at "rd"
  intro l hl
  have J1 := J.same (same_new (o := .lst []) hl)
  walk_at "rd"
  refine rd_rg1 (by omega) ?_
  refine fb_range0 (fun i σ H' => ∃ v4, σ = [some (.ref p), some (.int (s' : Nat)), some (.ref l), some (.int ((Mth.soTo a s' i).getLastD 0 : Nat)), v4] ∧ Same H H' ∧ H' l = some (.lst (ivs (Mth.soTo a s' i)))) ⟨none, rfl, same_new hl, upd_same⟩ ?_ ?_
  · rintro k σ H' hk ⟨v4, rfl, s1, hl'⟩
    have J2 := J.same s1
    walk_at "rd"
    refine ⟨p, pw, b, a, s', k, rfl, J2, hk, ?_⟩
    walk_at "rd"
    refine rd_app hl' ?_ ?_
    · rw [ivs_len, Mth.soTo_length]
      exact small1000 (by omega)
    · walk_at "rd"
      have e := Mth.so_int a s' k ((Mth.soTo a s' k).getLastD 0)
      unfold Mth.mx at e
      refine ⟨some (.int (k : Nat)), ?_, same_upd s1 hl, ?_⟩
      · rw [e, Mth.soTo_succ]
        unfold Mth.soStep
        rw [List.getLastD_concat]
        rfl
      · rw [upd_same, e, Mth.soTo_succ]
        unfold Mth.soStep
        rw [ivs_snoc]
  · rintro σ H' ⟨v4, rfl, s1, hl'⟩
    walk_at "rd"
    exact q H' l s1 hl hl'
/-! ### ages, a row that is tried -/
def agL (a : Abs) (s : Nat) : List Nat := (List.range a.n).map fun k => s + k * a.lay - (a.soonest s).getD k 0
theorem map_succ {β : Type} (f : Nat → β) (i : Nat) : (List.range (i + 1)).map f = (List.range i).map f ++ [f i] := by
  rw [List.range_succ, List.map_append]
  rfl
def spAges (C : Addr) : Sp := fun vs H Q _ => ∃ (p pw : Addr) (b : Bool) (a : Abs) (s : Nat), vs = [.ref p, .int (s : Nat)] ∧ JobAt C H p pw b a ∧ a.could s = true ∧ ∀ (H' : Hp) (l : Addr), Same H H' → H l = none → H' l = some (.lst (ivs (agL a s))) → Q (.ref l) H'
theorem has_ages_soonest (T : Txt K mg C) (U : Top K mg "ages_soonest" s_ages_soonest ["job", "paver_start"]) (h_begun_at : Has P w K mg base 1 "begun_at" ["job", "paver_start", "k"] (spBegun C)) (h_filled_soonest : Has P w K mg base 4 "filled_soonest" ["job", "paver_start"] (spSoon C)) : Has P w K mg base 5 "ages_soonest" ["job", "paver_start"] (spAges C) := by
  refine U.has sc_ages_soonest (by first | (rintro _ _ _ _ ⟨_, rfl, _⟩; rfl) | (rintro _ _ _ _ ⟨_, _, rfl, _⟩; rfl) | (rintro _ _ _ _ ⟨_, _, _, rfl, _⟩; rfl) | (rintro _ _ _ _ ⟨_, _, _, _, rfl, _⟩; rfl) | (rintro _ _ _ _ ⟨_, _, _, _, _, rfl, _⟩; rfl) | (rintro _ _ _ _ ⟨_, _, _, _, _, _, rfl, _⟩; rfl) | (rintro _ _ _ _ ⟨_, _, _, _, _, _, _, rfl, _⟩; rfl) | (rintro _ _ _ _ ⟨_, _, _, _, _, _, _, _, rfl, _⟩; rfl)) (fun f cdv A outer s H vs Q E hr h => ?_)
  obtain ⟨p, pw, b, a, s', rfl, J, hc, q⟩ := h
  have cl := T.c
  have sc := sc_ages_soonest
  obtain ⟨f1, f2, f3, f4, f5, f6⟩ := J.fit
  refine ⟨_, (pss_one (ps_ret (pe_lc (own := [("k", 2), ("filled", 3)]) (g := (gTup K 2 (gCons (gName 2) (gCons (gName 3) gNil)))) rfl sc.nd (pi_enum rfl T.b_enumerate (pa_cons (pe_callH h_filled_soonest (hr.mono (by decide)) rfl (pa_cons (pv 0) (pa_cons (pv 1) pa_nil))) pa_nil)) bk_ages_soonest (fun _ _ _ _ _ => (pg_tup rfl (pgs_cons (pg_name (i := 2) sc.nd rfl (Or.inl rfl) (Or.inr rfl)) (pgs_cons (pg_name (i := 3) sc.nd rfl (Or.inl rfl) (Or.inr rfl)) pgs_nil)))) (fun _ _ _ _ _ => pts_nil) (fun _ _ _ _ _ => (pe_op op_sub (pe_callH h_begun_at (hr.mono (by decide)) rfl (pa_cons (pv 0) (pa_cons (pv 1) (pa_cons (pv 2) pa_nil)))) (pv 3)))))), ?_⟩
  walk_at "rd0"
  walk_at "rd"
  refine ⟨p, pw, b, a, s', rfl, J, fun H1 l1 s1 hl1 hl2 => ?_⟩
  walk_at "rd"
  refine rd_rge hl2 ?_
  refine lb_enum (xs := ivs (a.soonest s')) (fun D i H' => Same H1 H' ∧ H' D = some (.lst (ivs ((List.range i).map fun k => s' + k * a.lay - (a.soonest s').getD k 0)))) (fun D hD => ⟨same_new hD, upd_same⟩) (fun D i H' hD z => SqL.of (z.1 _ _ hl2)) ?_ ?_
  · rintro D i x T' H' hD hx ⟨s2, hD2⟩ hT
    have hi : i < a.n := by
      have := (List.getElem?_eq_some_iff.mp hx).1
      rw [ivs_len, Mth.soonest_length] at this
      exact this
    have ex : x = .int ((a.soonest s').getD i 0 : Nat) := by
      have hi2 : i < (a.soonest s').length := by rw [Mth.soonest_length]; exact hi
      unfold ivs at hx
      rw [List.getElem?_map, List.getElem?_eq_getElem hi2] at hx
      rw [(Option.some.inj hx).symm, List.getD_eq_getElem?_getD, List.getElem?_eq_getElem hi2]
      rfl
    subst ex
    have s3 := s2.trans (same_new (o := .tup [.int (i : Nat), .int ((a.soonest s').getD i 0 : Nat)]) hT)
    have J3 := (J.same s1).same s3
    refine rd_pair upd_same ?_
    refine rd_lg rfl ?_
    walk_at "rd"
    refine ⟨p, pw, b, a, _, _, rfl, J3, ?_⟩
    walk_at "rd"
    refine rd_la (by rw [upd_ne (ne_of_none hD2 hT)]; exact hD2) (by rw [ivs_len, List.length_map, List.length_range]; exact small1000 (by omega)) ?_
    refine ⟨same_upd s3 hD, ?_⟩
    rw [upd_same, map_succ, ivs_snoc]
    have th := Mth.there f4 hc hi
    rw [← Mth.soonest_get hi] at th
    have e : (s' : Int) + (i : Int) * (a.lay : Int) - ((a.soonest s').getD i 0 : Nat) = ((s' + i * a.lay - (a.soonest s').getD i 0 : Nat) : Int) := by
      rw [← Int.natCast_mul]
      omega
    rw [e]
  · rintro D H' hD ⟨s2, hD2⟩
    rw [ivs_len, Mth.soonest_length] at hD2
    exact q _ D (s1.trans s2) (s1.free hD) hD2
def spIsPlan (C : Addr) : Sp := fun vs H Q _ => ∃ (p pw : Addr) (b : Bool) (a : Abs) (s : Nat) (t : Addr) (l : List Nat), vs = [.ref p, .int (s : Nat), .ref t] ∧ JobAt C H p pw b a ∧ H t = some (.lst (ivs l)) ∧ l.length = a.n ∧ ∀ H' : Hp, Same H H' → Q (.bl (a.ok s l)) H'
theorem ivs_getD {l : List Nat} {k : Nat} (h : k < l.length) : atI (ivs l) (k : Int) = some (.int (l.getD k 0 : Nat)) := by
  refine atI_nat ?_
  unfold ivs
  rw [List.getElem?_map, List.getElem?_eq_getElem h, List.getD_eq_getElem?_getD, List.getElem?_eq_getElem h]
  rfl
theorem has_is_plan (T : Txt K mg C) (U : Top K mg "is_plan" s_is_plan ["job", "paver_start", "filled"]) (h_not_before : Has P w K mg base 3 "not_before" ["job", "paver_start", "k"] (spNotBefore C)) (h_begun_at : Has P w K mg base 1 "begun_at" ["job", "paver_start", "k"] (spBegun C)) : Has P w K mg base 4 "is_plan" ["job", "paver_start", "filled"] (spIsPlan C) := by
  refine U.has sc_is_plan (by first | (rintro _ _ _ _ ⟨_, rfl, _⟩; rfl) | (rintro _ _ _ _ ⟨_, _, rfl, _⟩; rfl) | (rintro _ _ _ _ ⟨_, _, _, rfl, _⟩; rfl) | (rintro _ _ _ _ ⟨_, _, _, _, rfl, _⟩; rfl) | (rintro _ _ _ _ ⟨_, _, _, _, _, rfl, _⟩; rfl) | (rintro _ _ _ _ ⟨_, _, _, _, _, _, rfl, _⟩; rfl) | (rintro _ _ _ _ ⟨_, _, _, _, _, _, _, rfl, _⟩; rfl) | (rintro _ _ _ _ ⟨_, _, _, _, _, _, _, _, rfl, _⟩; rfl)) (fun f cdv A outer s H vs Q E hr h => ?_)
  obtain ⟨p, pw, b, a, s', t, l, rfl, J, ht, hlen, q⟩ := h
  have cl := T.c
  have sc := sc_is_plan
  obtain ⟨f1, f2, f3, f4, f5, f6⟩ := J.fit
  refine ⟨_, (pss_cons (ps_set (i := 3) sc.nd rfl (Or.inl rfl) pe_int) (pss_cons (ps_for PassesOwn.never rfl (pi_enum rfl T.b_enumerate (pa_cons (pe_fld (pv 0) rfl) pa_nil)) (pg_tup rfl (pgs_cons (pg_name (i := 4) sc.nd rfl (Or.inl rfl) (Or.inr rfl)) (pgs_cons (pg_name (i := 5) sc.nd rfl (Or.inl rfl) (Or.inr rfl)) pgs_nil))) (pss_cons (ps_if (pt_cmpR op_lt (pe_ix ix_list (pv 2) (pv 4) (fun _ _ => rfl)) (pe_callB (call_max2 rfl) rfl T.b_max boot_max (pa_cons (pe_op op_add (pv 3) (pe_fld (pv 0) rfl)) (pa_cons (pe_callH h_not_before (hr.mono (by decide)) rfl (pa_cons (pv 0) (pa_cons (pv 1) (pa_cons (pv 4) pa_nil)))) pa_nil))) (nomark _)) (pss_one (ps_ret pe_bl)) pss_nil) (pss_cons (ps_if (pt_cmpR op_gt (pe_op op_add (pe_ix ix_list (pv 2) (pv 4) (fun _ _ => rfl)) (pv 5)) (pe_callH h_begun_at (hr.mono (by decide)) rfl (pa_cons (pv 0) (pa_cons (pv 1) (pa_cons (pv 4) pa_nil)))) (nomark _)) (pss_one (ps_ret pe_bl)) pss_nil) (pss_one (ps_set (i := 3) sc.nd rfl (Or.inl rfl) (pe_ix ix_list (pv 2) (pv 4) (fun _ _ => rfl))))))) (pss_one (ps_ret pe_bl)))), ?_⟩
  walk_at "rd0"
  walk_at "rd"
  refine rd_rge J.ws ?_
  refine fb_enum (xs := ivs a.drives) (fun i σ H' => ∃ v4 v5, σ = [some (.ref p), some (.int (s' : Nat)), some (.ref t), some (.int (Mth.pfOf l i : Nat)), v4, v5] ∧ Same H H' ∧ ∀ k, k < i → Mth.okAt a s' l k = true) ⟨none, none, rfl, Same.refl _, fun k hk => absurd hk (Nat.not_lt_zero _)⟩ (fun i σ H' _ ⟨_, _, _, s1, _⟩ => SqL.of (s1 _ _ J.ws)) ?_ ?_
  · rintro i x T' σ H' hx ⟨v4, v5, rfl, s1, hno⟩ hT
    obtain ⟨hi, rfl⟩ := ivs_at hx
    have s2 := s1.trans (same_new (o := .tup [.int (i : Nat), .int (a.d i : Nat)]) hT)
    have J2 := J.same s2
    have ht2 := s2 _ _ ht
    have hit := ivs_getD (show i < l.length by omega)
    refine rd_pair upd_same ?_
    walk_at "rd"
    refine rd_ixL ht2 hit ?_
    walk_at "rd"
    refine ⟨p, pw, b, a, s', i, rfl, J2, hi, ?_⟩
    walk_at "rd"
    have no1 := fun e => Mth.ok_no hi (Mth.okAt_no (a := a) (s := s') (k := i) (l := l) e)
    have yes := @Mth.okAt_iff a s' i l
    unfold Mth.mx at no1 yes
    refine rd_dec (fun e => ?_) (fun e => ?_)
    · walk_at "rd"
      rw [← no1 (.inl e)]
      exact q _ s2
    · walk_at "rd"
      refine rd_ixL ht2 hit ?_
      walk_at "rd"
      refine ⟨p, pw, b, a, _, _, rfl, J2, ?_⟩
      walk_at "rd"
      refine rd_dec (fun e2 => ?_) (fun e2 => ?_)
      · walk_at "rd"
        rw [← no1 (.inr e2)]
        exact q _ s2
      · walk_at "rd"
        refine rd_ixL ht2 hit ?_
        walk_at "rd"
        refine ⟨some (.int (i : Nat)), some (.int (a.d i : Nat)), rfl, s2, fun k hk => ?_⟩
        by_cases hk2 : k = i
        · subst hk2
          exact yes.mpr ⟨Int.not_lt.mp e, Int.not_lt.mp e2⟩
        · exact hno k (by omega)
  · rintro σ H' ⟨v2, v3, rfl, s1, hno⟩
    walk_at "rd"
    rw [ivs_len] at hno
    rw [← Mth.ok_yes hlen hno]
    exact q _ s1
end

/-! ### answers; what a call leaves -/
def ans (x : Kv366.Ans) : List V := (Kv366Neutral.row x).map V.int
theorem ans_say (v : Int) : ans (Kv366.say v) = [.int v] := rfl
theorem ans_list (l : List Nat) : ans (Kv366.list l) = .int (l.length : Nat) :: ivs l := by
  unfold ans Kv366.list Kv366Neutral.row Kv366Neutral.ints ivs
  rw [List.map_cons, List.map_map]
  rfl
def Oth (p pw : Addr) (H H' : Hp) : Prop := ∀ c o, H c = some o → c ≠ p → c ≠ pw → H' c = some o
theorem Oth.same {p pw : Addr} {H H1 H2 : Hp} (h : Oth p pw H H1) (s : Same H1 H2) : Oth p pw H H2 := fun c o e n1 n2 => s c o (h c o e n1 n2)
theorem Oth.trans {p pw : Addr} {H H1 H2 : Hp} (h : Oth p pw H H1) (s : Oth p pw H1 H2) : Oth p pw H H2 := fun c o e n1 n2 => s c o (h c o e n1 n2) n1 n2
theorem Oth.of {p pw : Addr} {H H' : Hp} (s : Same H H') : Oth p pw H H' := fun c o e _ _ => s c o e
def Look (H : Hp) (Q : VK) (a : Abs) (c : Kv366.Call) : Prop := ∀ (H' : Hp) (l : Addr), Same H H' → H l = none → H' l = some (.lst (ans (a.does c).2)) → Q (.ref l) H'
def Did (C : Addr) (H : Hp) (Q : VK) (p pw : Addr) (b : Bool) (a : Abs) (c : Kv366.Call) : Prop := ∀ (H' : Hp) (l : Addr), JobAt C H' p pw b (a.does c).1 → Oth p pw H H' → H l = none → H' l = some (.lst (ans (a.does c).2)) → Q (.ref l) H'
/-- a call that is refused -/
theorem Did.no {C : Addr} {H : Hp} {Q : VK} {p pw l : Addr} {b : Bool} {a : Abs} {c : Kv366.Call} {v : Int} (q : Did C H Q p pw b a c) (J : JobAt C H p pw b a) (e : a.does c = (a, Kv366.say v)) (hl : H l = none) : Q (.ref l) (upd H l (.lst [.int v])) := by
  unfold Did at q
  rw [e] at q
  exact q _ l (J.same (same_new hl)) (Oth.of (same_new hl)) hl upd_same
theorem JobAt.ne {C : Addr} {H : Hp} {p pw : Addr} {b : Bool} {a : Abs} (J : JobAt C H p pw b a) : p ≠ pw := by
  obtain ⟨dx, e⟩ := J.at_
  exact ne_of e J.ws (by intro z; cases z)
section
variable {K : PySem.W.Frag} {C : Addr} {H : Hp} {p pw q : Addr} {b : Bool} {a : Abs} {R : Hp → Prop} {n : Nat}
theorem sf_begun {c' : Bool} (c : Cl K C) (J : JobAt C H p pw b a) (h : ∀ H', JobAt C H' p pw c' a → Oth p pw H H' → (∀ x, x ≠ p → H' x = H x) → R H') : SetF K "begun" (.bl c') R (.ref p) H := by
  obtain ⟨dx, e⟩ := J.at_
  refine ⟨p, C, dx, _, rfl, e, c.cls, c.n_begun, jf_len _ _ _, h _ ⟨⟨dx, ?_⟩, ?_, J.fit⟩ (fun x o ex n1 _ => by rw [upd_ne n1]; exact ex) fun x n1 => upd_ne n1⟩
  · rw [upd_same, jp_begun]
  · rw [upd_ne (Ne.symm J.ne)]; exact J.ws
theorem sf_fill (c : Cl K C) (J : JobAt C H p pw b a) (hn : n ≤ 60) (h : ∀ H', JobAt C H' p pw b { a with fill := n } → Oth p pw H H' → (∀ x, x ≠ p → H' x = H x) → R H') : SetF K "fill" (.int (n : Nat)) R (.ref p) H := by
  obtain ⟨dx, e⟩ := J.at_
  refine ⟨p, C, dx, _, rfl, e, c.cls, c.n_fill, jf_len _ _ _, h _ ⟨⟨dx, ?_⟩, ?_, ⟨hn, J.fit.l, J.fit.k, J.fit.o, J.fit.u, J.fit.n⟩⟩ (fun x o ex n1 _ => by rw [upd_ne n1]; exact ex) fun x n1 => upd_ne n1⟩
  · rw [upd_same, jp_fill]
  · rw [upd_ne (Ne.symm J.ne)]; exact J.ws
theorem sf_lay (c : Cl K C) (J : JobAt C H p pw b a) (hn : n ≤ 60) (h : ∀ H', JobAt C H' p pw b { a with lay := n } → Oth p pw H H' → (∀ x, x ≠ p → H' x = H x) → R H') : SetF K "lay" (.int (n : Nat)) R (.ref p) H := by
  obtain ⟨dx, e⟩ := J.at_
  refine ⟨p, C, dx, _, rfl, e, c.cls, c.n_lay, jf_len _ _ _, h _ ⟨⟨dx, ?_⟩, ?_, ⟨J.fit.f, hn, J.fit.k, J.fit.o, J.fit.u, J.fit.n⟩⟩ (fun x o ex n1 _ => by rw [upd_ne n1]; exact ex) fun x n1 => upd_ne n1⟩
  · rw [upd_same, jp_lay]
  · rw [upd_ne (Ne.symm J.ne)]; exact J.ws
theorem sf_keep (c : Cl K C) (J : JobAt C H p pw b a) (hn : n ≤ 300) (h : ∀ H', JobAt C H' p pw b { a with keep := n } → Oth p pw H H' → (∀ x, x ≠ p → H' x = H x) → R H') : SetF K "keep" (.int (n : Nat)) R (.ref p) H := by
  obtain ⟨dx, e⟩ := J.at_
  refine ⟨p, C, dx, _, rfl, e, c.cls, c.n_keep, jf_len _ _ _, h _ ⟨⟨dx, ?_⟩, ?_, ⟨J.fit.f, J.fit.l, hn, J.fit.o, J.fit.u, J.fit.n⟩⟩ (fun x o ex n1 _ => by rw [upd_ne n1]; exact ex) fun x n1 => upd_ne n1⟩
  · rw [upd_same, jp_keep]
  · rw [upd_ne (Ne.symm J.ne)]; exact J.ws
theorem sf_fleet (c : Cl K C) (J : JobAt C H p pw b a) (h1 : 1 ≤ n) (hn : n ≤ 20) (h : ∀ H', JobAt C H' p pw b { a with lorries := n } → Oth p pw H H' → (∀ x, x ≠ p → H' x = H x) → R H') : SetF K "fleet" (.int (n : Nat)) R (.ref p) H := by
  obtain ⟨dx, e⟩ := J.at_
  refine ⟨p, C, dx, _, rfl, e, c.cls, c.n_fleet, jf_len _ _ _, h _ ⟨⟨dx, ?_⟩, ?_, ⟨J.fit.f, J.fit.l, J.fit.k, h1, hn, J.fit.n⟩⟩ (fun x o ex n1 _ => by rw [upd_ne n1]; exact ex) fun x n1 => upd_ne n1⟩
  · rw [upd_same, jp_fleet]
  · rw [upd_ne (Ne.symm J.ne)]; exact J.ws
theorem sf_ways {ds : List Nat} (c : Cl K C) (J : JobAt C H p pw b a) (hq : H q = some (.lst (ivs ds))) (hn : ds.length ≤ 20) (h : ∀ H', JobAt C H' p q b { a with drives := ds } → Oth p pw H H' → (∀ x, x ≠ p → H' x = H x) → R H') : SetF K "ways" (.ref q) R (.ref p) H := by
  obtain ⟨dx, e⟩ := J.at_
  refine ⟨p, C, dx, _, rfl, e, c.cls, c.n_ways, jf_len _ _ _, h _ ⟨⟨dx, ?_⟩, ?_, ⟨J.fit.f, J.fit.l, J.fit.k, J.fit.o, J.fit.u, hn⟩⟩ (fun x o ex n1 _ => by rw [upd_ne n1]; exact ex) fun x n1 => upd_ne n1⟩
  · rw [upd_same, jp_ways]; rfl
  · rw [upd_ne (ne_of hq e (by intro z; cases z))]; exact hq
/-- the ways change in place -/
theorem JobAt.ways {ds : List Nat} (J : JobAt C H p pw b a) (hn : ds.length ≤ 20) : JobAt C (upd H pw (.lst (ivs ds))) p pw b { a with drives := ds } ∧ Oth p pw H (upd H pw (.lst (ivs ds))) := by
  obtain ⟨dx, e⟩ := J.at_
  refine ⟨⟨⟨dx, ?_⟩, upd_same, ⟨J.fit.f, J.fit.l, J.fit.k, J.fit.o, J.fit.u, hn⟩⟩, fun x o ex _ n2 => by rw [upd_ne n2]; exact ex⟩
  rw [upd_ne J.ne]; exact e
end
theorem iteNF {A B : Prop} (h : B) : if (!true) = true then A else B := iteF h
theorem iteNT {A B : Prop} (h : A) : if (!false) = true then A else B := iteT h
section
variable {P : Program} {w : World} {K : PySem.W.Frag} {mg : Str → Option Value} {base : Heap} {C : Addr}
def spIs (lo hi : Nat) : Sp := fun vs H Q _ => ∃ (m : Nat), vs = [.int (m : Nat)] ∧ Q (.bl (decide (lo ≤ m) && decide (m ≤ hi))) H
theorem has_is_work (T : Txt K mg C) (U : Top K mg "is_work" s_is_work ["minutes"]) : Has P w K mg base 1 "is_work" ["minutes"] (spIs 1 60) := by
  refine U.has sc_is_work (by first | (rintro _ _ _ _ ⟨_, rfl, _⟩; rfl) | (rintro _ _ _ _ ⟨_, _, rfl, _⟩; rfl) | (rintro _ _ _ _ ⟨_, _, _, rfl, _⟩; rfl) | (rintro _ _ _ _ ⟨_, _, _, _, rfl, _⟩; rfl) | (rintro _ _ _ _ ⟨_, _, _, _, _, rfl, _⟩; rfl) | (rintro _ _ _ _ ⟨_, _, _, _, _, _, rfl, _⟩; rfl) | (rintro _ _ _ _ ⟨_, _, _, _, _, _, _, rfl, _⟩; rfl) | (rintro _ _ _ _ ⟨_, _, _, _, _, _, _, _, rfl, _⟩; rfl)) (fun f cdv A outer s H vs Q E hr h => ?_)
  obtain ⟨m, rfl, q⟩ := h
  have sc := sc_is_work
  refine ⟨_, (pss_one (ps_ret (pe_chain op_le op_le pe_int (pv 0) (pe_gi rfl T.c_MOST_WORK)))), ?_⟩
  walk_at "rd0"
  walk_at "rd"
  refine rd_dec (fun e => ?_) (fun e => ?_)
  · walk_at "rd"
    rw [decide_eq_true (by omega), Bool.true_and] at q
    rw [show decide ((m : Int) ≤ 60) = decide (m ≤ 60) from decide_eq_decide.mpr (by omega)]
    exact q
  · rw [decide_eq_false (by omega), Bool.false_and] at q
    exact q
theorem has_is_keep (T : Txt K mg C) (U : Top K mg "is_keep" s_is_keep ["minutes"]) : Has P w K mg base 1 "is_keep" ["minutes"] (spIs 0 300) := by
  refine U.has sc_is_keep (by first | (rintro _ _ _ _ ⟨_, rfl, _⟩; rfl) | (rintro _ _ _ _ ⟨_, _, rfl, _⟩; rfl) | (rintro _ _ _ _ ⟨_, _, _, rfl, _⟩; rfl) | (rintro _ _ _ _ ⟨_, _, _, _, rfl, _⟩; rfl) | (rintro _ _ _ _ ⟨_, _, _, _, _, rfl, _⟩; rfl) | (rintro _ _ _ _ ⟨_, _, _, _, _, _, rfl, _⟩; rfl) | (rintro _ _ _ _ ⟨_, _, _, _, _, _, _, rfl, _⟩; rfl) | (rintro _ _ _ _ ⟨_, _, _, _, _, _, _, _, rfl, _⟩; rfl)) (fun f cdv A outer s H vs Q E hr h => ?_)
  obtain ⟨m, rfl, q⟩ := h
  have sc := sc_is_keep
  refine ⟨_, (pss_one (ps_ret (pe_chain op_le op_le pe_int (pv 0) (pe_gi rfl T.c_MOST_KEEP)))), ?_⟩
  walk_at "rd0"
  walk_at "rd"
  refine rd_dec (fun e => ?_) (fun e => ?_)
  · walk_at "rd"
    rw [decide_eq_true (by omega), Bool.true_and] at q
    rw [show decide ((m : Int) ≤ 300) = decide (m ≤ 300) from decide_eq_decide.mpr (by omega)]
    exact q
  · rw [decide_eq_false (by omega), Bool.false_and] at q
    exact q
theorem has_is_way (T : Txt K mg C) (U : Top K mg "is_way" s_is_way ["minutes"]) : Has P w K mg base 1 "is_way" ["minutes"] (spIs 0 120) := by
  refine U.has sc_is_way (by first | (rintro _ _ _ _ ⟨_, rfl, _⟩; rfl) | (rintro _ _ _ _ ⟨_, _, rfl, _⟩; rfl) | (rintro _ _ _ _ ⟨_, _, _, rfl, _⟩; rfl) | (rintro _ _ _ _ ⟨_, _, _, _, rfl, _⟩; rfl) | (rintro _ _ _ _ ⟨_, _, _, _, _, rfl, _⟩; rfl) | (rintro _ _ _ _ ⟨_, _, _, _, _, _, rfl, _⟩; rfl) | (rintro _ _ _ _ ⟨_, _, _, _, _, _, _, rfl, _⟩; rfl) | (rintro _ _ _ _ ⟨_, _, _, _, _, _, _, _, rfl, _⟩; rfl)) (fun f cdv A outer s H vs Q E hr h => ?_)
  obtain ⟨m, rfl, q⟩ := h
  have sc := sc_is_way
  refine ⟨_, (pss_one (ps_ret (pe_chain op_le op_le pe_int (pv 0) (pe_gi rfl T.c_MOST_WAY)))), ?_⟩
  walk_at "rd0"
  walk_at "rd"
  refine rd_dec (fun e => ?_) (fun e => ?_)
  · walk_at "rd"
    rw [decide_eq_true (by omega), Bool.true_and] at q
    rw [show decide ((m : Int) ≤ 120) = decide (m ≤ 120) from decide_eq_decide.mpr (by omega)]
    exact q
  · rw [decide_eq_false (by omega), Bool.false_and] at q
    exact q
theorem has_is_fleet (T : Txt K mg C) (U : Top K mg "is_fleet" s_is_fleet ["number"]) : Has P w K mg base 1 "is_fleet" ["number"] (spIs 1 20) := by
  refine U.has sc_is_fleet (by first | (rintro _ _ _ _ ⟨_, rfl, _⟩; rfl) | (rintro _ _ _ _ ⟨_, _, rfl, _⟩; rfl) | (rintro _ _ _ _ ⟨_, _, _, rfl, _⟩; rfl) | (rintro _ _ _ _ ⟨_, _, _, _, rfl, _⟩; rfl) | (rintro _ _ _ _ ⟨_, _, _, _, _, rfl, _⟩; rfl) | (rintro _ _ _ _ ⟨_, _, _, _, _, _, rfl, _⟩; rfl) | (rintro _ _ _ _ ⟨_, _, _, _, _, _, _, rfl, _⟩; rfl) | (rintro _ _ _ _ ⟨_, _, _, _, _, _, _, _, rfl, _⟩; rfl)) (fun f cdv A outer s H vs Q E hr h => ?_)
  obtain ⟨m, rfl, q⟩ := h
  have sc := sc_is_fleet
  refine ⟨_, (pss_one (ps_ret (pe_chain op_le op_le pe_int (pv 0) (pe_gi rfl T.c_MOST_LORRIES)))), ?_⟩
  walk_at "rd0"
  walk_at "rd"
  refine rd_dec (fun e => ?_) (fun e => ?_)
  · walk_at "rd"
    rw [decide_eq_true (by omega), Bool.true_and] at q
    rw [show decide ((m : Int) ≤ 20) = decide (m ≤ 20) from decide_eq_decide.mpr (by omega)]
    exact q
  · rw [decide_eq_false (by omega), Bool.false_and] at q
    exact q
def spLoad (C : Addr) : Sp := fun vs H Q _ => ∃ (p pw : Addr) (b : Bool) (a : Abs) (d : Nat), vs = [.ref p, .int (d : Nat)] ∧ JobAt C H p pw b a ∧ Did C H Q p pw b a (.load d)
theorem has_load (T : Txt K mg C) (U : Top K mg "load" s_load ["job", "way"]) (h_is_way : Has P w K mg base 1 "is_way" ["minutes"] (spIs 0 120)) : Has P w K mg base 2 "load" ["job", "way"] (spLoad C) := by
  refine U.has sc_load (by first | (rintro _ _ _ _ ⟨_, rfl, _⟩; rfl) | (rintro _ _ _ _ ⟨_, _, rfl, _⟩; rfl) | (rintro _ _ _ _ ⟨_, _, _, rfl, _⟩; rfl) | (rintro _ _ _ _ ⟨_, _, _, _, rfl, _⟩; rfl) | (rintro _ _ _ _ ⟨_, _, _, _, _, rfl, _⟩; rfl) | (rintro _ _ _ _ ⟨_, _, _, _, _, _, rfl, _⟩; rfl) | (rintro _ _ _ _ ⟨_, _, _, _, _, _, _, rfl, _⟩; rfl) | (rintro _ _ _ _ ⟨_, _, _, _, _, _, _, _, rfl, _⟩; rfl)) (fun f cdv A outer s H vs Q E hr h => ?_)
  obtain ⟨p, pw, b, a, d, rfl, J, q⟩ := h
  have cl := T.c
  have sc := sc_load
  obtain ⟨f1, f2, f3, f4, f5, f6⟩ := J.fit
  refine ⟨_, (pss_cons (ps_if (pt_not (pt_val (pe_callH h_is_way (hr.mono (by decide)) rfl (pa_cons (pv 1) pa_nil)))) (pss_one (ps_ret (pe_lst (pa_cons (pe_gi rfl T.c_OUT_OF_RANGE) pa_nil)))) pss_nil) (pss_cons (ps_if (pt_cmpR op_ge (pe_callB call_len_seq rfl T.b_len PySem.boot_len (pa_cons (pe_fld (pv 0) rfl) pa_nil)) (pe_gi rfl T.c_MOST_LOADS) (nomark _)) (pss_one (ps_ret (pe_lst (pa_cons (pe_gi rfl T.c_TOO_MANY) pa_nil)))) pss_nil) (pss_cons (ps_expr (pe_bm PySem.F.plainAttrs_list PySem.F.slot_list_append PySem.F.type_list_append mt_append (pe_fld (pv 0) rfl) (pa_cons (pv 1) pa_nil))) (pss_one (ps_ret (pe_lst (pa_cons (pe_op op_sub (pe_callB call_len_seq rfl T.b_len PySem.boot_len (pa_cons (pe_fld (pv 0) rfl) pa_nil)) pe_int) pa_nil))))))), ?_⟩
  walk_at "rd0"
  walk_at "rd"
  refine ⟨d, rfl, ?_⟩
  walk_at "rd"
  refine rd_nbool (fun e => ?_) (fun e => ?_)
  · walk_at "rd"
    intro l hl
    refine q.no J ?_ hl
    show (if 120 < d then _ else _) = _
    rw [if_pos (by rw [Bool.and_eq_false_iff] at e; simp at e; omega)]
  · have hd : ¬ 120 < d := by rw [Bool.and_eq_true_iff] at e; simp at e; omega
    walk_at "rd"
    refine rd_dec (fun e2 => ?_) (fun e2 => ?_)
    · walk_at "rd"
      intro l hl
      refine q.no J ?_ hl
      show (if 120 < d then _ else if 20 ≤ a.n then _ else _) = _
      rw [if_neg hd, if_pos (by omega)]
    · walk_at "rd"
      refine rd_tyL J.ws ?_
      walk_at "rd"
      refine rd_app J.ws (by rw [ivs_len]; exact small1000 (by unfold Kv366.Abs.n at f6; omega)) ?_
      have e3 : a.does (.load d) = ({ a with drives := a.drives ++ [d] }, Kv366.say (a.n : Nat)) := by
        show (if 120 < d then _ else if 20 ≤ a.n then _ else _) = _
        rw [if_neg hd, if_neg (by omega)]
      obtain ⟨J2, o2⟩ := J.ways (ds := a.drives ++ [d]) (by rw [List.length_append]; unfold Kv366.Abs.n at e2; simp; omega)
      rw [ivs_snoc] at J2 o2
      walk_at "rd"
      intro l hl
      unfold Did at q
      rw [e3] at q
      have hl0 : l ≠ pw := fun e => by rw [e, upd_same] at hl; cases hl
      refine q _ l (J2.same (same_new hl)) (o2.same (same_new hl)) (by rw [upd_ne hl0] at hl; exact hl) ?_
      rw [upd_same, ans_say]
      have e4 : (((a.drives ++ [d]).length : Nat) : Int) - 1 = (a.n : Nat) := by
        rw [List.length_append]
        show ((a.n + 1 : Nat) : Int) - 1 = (a.n : Nat)
        omega
      show some (HO.lst [V.int (((a.drives ++ [d]).length : Nat) - 1)]) = _
      rw [e4]
def spDrive (C : Addr) : Sp := fun vs H Q _ => ∃ (p pw : Addr) (b : Bool) (a : Abs) (k d : Nat), vs = [.ref p, .int (k : Nat), .int (d : Nat)] ∧ JobAt C H p pw b a ∧ Did C H Q p pw b a (.drive k d)
theorem ivs_set (l : List Nat) (k d : Nat) : (ivs l).set k (.int (d : Nat)) = ivs (l.set k d) := by
  unfold ivs
  rw [List.map_set]
theorem has_drive (T : Txt K mg C) (U : Top K mg "drive" s_drive ["job", "k", "way"]) (h_is_way : Has P w K mg base 1 "is_way" ["minutes"] (spIs 0 120)) : Has P w K mg base 2 "drive" ["job", "k", "way"] (spDrive C) := by
  refine U.has sc_drive (by first | (rintro _ _ _ _ ⟨_, rfl, _⟩; rfl) | (rintro _ _ _ _ ⟨_, _, rfl, _⟩; rfl) | (rintro _ _ _ _ ⟨_, _, _, rfl, _⟩; rfl) | (rintro _ _ _ _ ⟨_, _, _, _, rfl, _⟩; rfl) | (rintro _ _ _ _ ⟨_, _, _, _, _, rfl, _⟩; rfl) | (rintro _ _ _ _ ⟨_, _, _, _, _, _, rfl, _⟩; rfl) | (rintro _ _ _ _ ⟨_, _, _, _, _, _, _, rfl, _⟩; rfl) | (rintro _ _ _ _ ⟨_, _, _, _, _, _, _, _, rfl, _⟩; rfl)) (fun f cdv A outer s H vs Q E hr h => ?_)
  obtain ⟨p, pw, b, a, k, d, rfl, J, q⟩ := h
  have cl := T.c
  have sc := sc_drive
  obtain ⟨f1, f2, f3, f4, f5, f6⟩ := J.fit
  refine ⟨_, (pss_cons (ps_if (pt_cmpR op_ge (pv 1) (pe_callB call_len_seq rfl T.b_len PySem.boot_len (pa_cons (pe_fld (pv 0) rfl) pa_nil)) (nomark _)) (pss_one (ps_ret (pe_lst (pa_cons (pe_gi rfl T.c_NONE_SUCH) pa_nil)))) pss_nil) (pss_cons (ps_if (pt_not (pt_val (pe_callH h_is_way (hr.mono (by decide)) rfl (pa_cons (pv 2) pa_nil)))) (pss_one (ps_ret (pe_lst (pa_cons (pe_gi rfl T.c_OUT_OF_RANGE) pa_nil)))) pss_nil) (pss_cons (ps_set (i := 3) sc.nd rfl (Or.inl rfl) (pe_ix ix_list (pe_fld (pv 0) rfl) (pv 1) (fun _ _ => rfl))) (pss_cons (ps_asg (pv 2) (pg_sub (pe_fld (pv 0) rfl) (pv 1) set_list)) (pss_one (ps_ret (pe_lst (pa_cons (pv 3) pa_nil)))))))), ?_⟩
  walk_at "rd0"
  walk_at "rd"
  refine rd_dec (fun e => ?_) (fun e => ?_)
  · walk_at "rd"
    intro l hl
    refine q.no J ?_ hl
    show (if a.n ≤ k then _ else _) = _
    rw [if_pos (by omega)]
  walk_at "rd"
  refine ⟨d, rfl, ?_⟩
  walk_at "rd"
  refine rd_nbool (fun e2 => ?_) (fun e2 => ?_)
  · walk_at "rd"
    intro l hl
    refine q.no J ?_ hl
    show (if a.n ≤ k then _ else if 120 < d then _ else _) = _
    rw [if_neg (by omega), if_pos (by rw [Bool.and_eq_false_iff] at e2; simp at e2; omega)]
  · have hd : ¬ 120 < d := by rw [Bool.and_eq_true_iff] at e2; simp at e2; omega
    walk_at "rd"
    have hk : k < a.n := by omega
    refine rd_setL J.ws (k := k) (by unfold ixN; rw [ivs_len, if_pos (by omega), if_pos (by show (k : Int) < (a.n : Int); omega), Int.toNat_natCast]) ?_
    rw [ivs_set]
    obtain ⟨J2, o2⟩ := J.ways (ds := a.drives.set k d) (by rw [List.length_set]; exact f6)
    have e3 : a.does (.drive k d) = (a.setD k d, Kv366.say (a.d k : Nat)) := by
      show (if a.n ≤ k then _ else if 120 < d then _ else _) = _
      rw [if_neg (by omega), if_neg hd]
    walk_at "rd"
    intro l hl
    unfold Did at q
    rw [e3] at q
    have hl0 : l ≠ pw := fun e => by rw [e, upd_same] at hl; cases hl
    exact q _ l (J2.same (same_new hl)) (o2.same (same_new hl)) (by rw [upd_ne hl0] at hl; exact hl) upd_same
def spLess (C : Addr) : Sp := fun vs H Q _ => ∃ (p pw : Addr) (b : Bool) (a : Abs), vs = [.ref p] ∧ JobAt C H p pw b a ∧ Did C H Q p pw b a .less
theorem has_less (T : Txt K mg C) (U : Top K mg "less" s_less ["job"]) : Has P w K mg base 1 "less" ["job"] (spLess C) := by
  refine U.has sc_less (by first | (rintro _ _ _ _ ⟨_, rfl, _⟩; rfl) | (rintro _ _ _ _ ⟨_, _, rfl, _⟩; rfl) | (rintro _ _ _ _ ⟨_, _, _, rfl, _⟩; rfl) | (rintro _ _ _ _ ⟨_, _, _, _, rfl, _⟩; rfl) | (rintro _ _ _ _ ⟨_, _, _, _, _, rfl, _⟩; rfl) | (rintro _ _ _ _ ⟨_, _, _, _, _, _, rfl, _⟩; rfl) | (rintro _ _ _ _ ⟨_, _, _, _, _, _, _, rfl, _⟩; rfl) | (rintro _ _ _ _ ⟨_, _, _, _, _, _, _, _, rfl, _⟩; rfl)) (fun f cdv A outer s H vs Q E hr h => ?_)
  obtain ⟨p, pw, b, a, rfl, J, q⟩ := h
  have cl := T.c
  have sc := sc_less
  obtain ⟨f1, f2, f3, f4, f5, f6⟩ := J.fit
  refine ⟨_, (pss_cons (ps_if (pt_cmpR op_eq (pe_callB call_len_seq rfl T.b_len PySem.boot_len (pa_cons (pe_fld (pv 0) rfl) pa_nil)) pe_int (nomark _)) (pss_one (ps_ret (pe_lst (pa_cons (pe_gi rfl T.c_NO_LOADS) pa_nil)))) pss_nil) (pss_cons (ps_expr (pe_bm0 PySem.F.plainAttrs_list PySem.F.slot_list_pop PySem.F.type_list_pop mt_pop (pe_fld (pv 0) rfl))) (pss_one (ps_ret (pe_lst (pa_cons (pe_callB call_len_seq rfl T.b_len PySem.boot_len (pa_cons (pe_fld (pv 0) rfl) pa_nil)) pa_nil)))))), ?_⟩
  walk_at "rd0"
  walk_at "rd"
  refine rd_dec (fun e => ?_) (fun e => ?_)
  · walk_at "rd"
    intro l hl
    refine q.no J ?_ hl
    show (if a.n = 0 then _ else _) = _
    rw [if_pos (by omega)]
  walk_at "rd"
  refine rd_tyL J.ws ?_
  have hn : a.drives.length - 1 < a.drives.length := by
    have : a.drives.length = a.n := rfl
    omega
  refine rd_pop J.ws (y := .int (a.drives[a.drives.length - 1] : Nat)) (by unfold ivs; rw [List.length_map, List.getElem?_map, List.getElem?_eq_getElem hn]; rfl) ?_
  rw [show (ivs a.drives).dropLast = ivs (a.drives.take (a.n - 1)) by unfold ivs Kv366.Abs.n; rw [List.dropLast_eq_take, List.length_map, List.map_take]]
  obtain ⟨J2, o2⟩ := J.ways (ds := a.drives.take (a.n - 1)) (by rw [List.length_take]; omega)
  have e3 : a.does .less = ({ a with drives := a.drives.take (a.n - 1) }, Kv366.say (a.n - 1 : Nat)) := by
    show (if a.n = 0 then _ else _) = _
    rw [if_neg (by omega)]
  walk_at "rd"
  intro l hl
  unfold Did at q
  rw [e3] at q
  have hl0 : l ≠ pw := fun e => by rw [e, upd_same] at hl; cases hl
  refine q _ l (J2.same (same_new hl)) (o2.same (same_new hl)) (by rw [upd_ne hl0] at hl; exact hl) ?_
  rw [upd_same, ans_say]
  have e4 : (a.drives.take (a.n - 1)).length = a.n - 1 := by
    rw [List.length_take]
    have : a.drives.length = a.n := rfl
    omega
  show some (HO.lst [V.int ((a.drives.take (a.n - 1)).length : Nat)]) = _
  rw [e4]
def spLorries (C : Addr) : Sp := fun vs H Q _ => ∃ (p pw : Addr) (b : Bool) (a : Abs) (n : Nat), vs = [.ref p, .int (n : Nat)] ∧ JobAt C H p pw b a ∧ Did C H Q p pw b a (.lorries n)
theorem has_lorries (T : Txt K mg C) (U : Top K mg "lorries" s_lorries ["job", "number"]) (h_is_fleet : Has P w K mg base 1 "is_fleet" ["number"] (spIs 1 20)) : Has P w K mg base 2 "lorries" ["job", "number"] (spLorries C) := by
  refine U.has sc_lorries (by first | (rintro _ _ _ _ ⟨_, rfl, _⟩; rfl) | (rintro _ _ _ _ ⟨_, _, rfl, _⟩; rfl) | (rintro _ _ _ _ ⟨_, _, _, rfl, _⟩; rfl) | (rintro _ _ _ _ ⟨_, _, _, _, rfl, _⟩; rfl) | (rintro _ _ _ _ ⟨_, _, _, _, _, rfl, _⟩; rfl) | (rintro _ _ _ _ ⟨_, _, _, _, _, _, rfl, _⟩; rfl) | (rintro _ _ _ _ ⟨_, _, _, _, _, _, _, rfl, _⟩; rfl) | (rintro _ _ _ _ ⟨_, _, _, _, _, _, _, _, rfl, _⟩; rfl)) (fun f cdv A outer s H vs Q E hr h => ?_)
  obtain ⟨p, pw, b, a, n, rfl, J, q⟩ := h
  have cl := T.c
  have sc := sc_lorries
  refine ⟨_, (pss_cons (ps_if (pt_not (pt_val (pe_callH h_is_fleet (hr.mono (by decide)) rfl (pa_cons (pv 1) pa_nil)))) (pss_one (ps_ret (pe_lst (pa_cons (pe_gi rfl T.c_OUT_OF_RANGE) pa_nil)))) pss_nil) (pss_cons (ps_set (i := 2) sc.nd rfl (Or.inl rfl) (pe_fld (pv 0) rfl)) (pss_cons (ps_fld (pv 0) (pv 1) rfl) (pss_one (ps_ret (pe_lst (pa_cons (pv 2) pa_nil))))))), ?_⟩
  walk_at "rd0"
  walk_at "rd"
  refine ⟨n, rfl, ?_⟩
  walk_at "rd"
  refine rd_nbool (fun e => ?_) (fun e => ?_)
  · walk_at "rd"
    intro l hl
    refine q.no J ?_ hl
    show (if n = 0 ∨ 20 < n then _ else _) = _
    rw [if_pos (by rw [Bool.and_eq_false_iff] at e; simp at e; omega)]
  · have hn : 1 ≤ n ∧ n ≤ 20 := by rw [Bool.and_eq_true_iff] at e; simp at e; omega
    walk_at "rd"
    refine sf_fleet cl J hn.1 hn.2 fun H2 J2 o2 g2 => ?_
    have e3 : a.does (.lorries n) = (a.withN n, Kv366.say (a.lorries : Nat)) := by
      show (if n = 0 ∨ 20 < n then _ else _) = _
      rw [if_neg (by omega)]
    walk_at "rd"
    intro l hl
    unfold Did at q
    rw [e3] at q
    have hl0 : l ≠ p := fun e => by obtain ⟨dx, e5⟩ := J2.at_; rw [e, e5] at hl; cases hl
    exact q _ l (J2.same (same_new hl)) (o2.same (same_new hl)) (by rw [g2 l hl0] at hl; exact hl) upd_same
def spFilling (C : Addr) : Sp := fun vs H Q _ => ∃ (p pw : Addr) (b : Bool) (a : Abs) (n : Nat), vs = [.ref p, .int (n : Nat)] ∧ JobAt C H p pw b a ∧ Did C H Q p pw b a (.filling n)
theorem okT_eq (n : Nat) : Kv366.okT n = (decide (1 ≤ n) && decide (n ≤ 60)) := rfl
theorem has_filling (T : Txt K mg C) (U : Top K mg "filling" s_filling ["job", "minutes"]) (h_is_work : Has P w K mg base 1 "is_work" ["minutes"] (spIs 1 60)) : Has P w K mg base 2 "filling" ["job", "minutes"] (spFilling C) := by
  refine U.has sc_filling (by first | (rintro _ _ _ _ ⟨_, rfl, _⟩; rfl) | (rintro _ _ _ _ ⟨_, _, rfl, _⟩; rfl) | (rintro _ _ _ _ ⟨_, _, _, rfl, _⟩; rfl) | (rintro _ _ _ _ ⟨_, _, _, _, rfl, _⟩; rfl) | (rintro _ _ _ _ ⟨_, _, _, _, _, rfl, _⟩; rfl) | (rintro _ _ _ _ ⟨_, _, _, _, _, _, rfl, _⟩; rfl) | (rintro _ _ _ _ ⟨_, _, _, _, _, _, _, rfl, _⟩; rfl) | (rintro _ _ _ _ ⟨_, _, _, _, _, _, _, _, rfl, _⟩; rfl)) (fun f cdv A outer s H vs Q E hr h => ?_)
  obtain ⟨p, pw, b, a, n, rfl, J, q⟩ := h
  have cl := T.c
  have sc := sc_filling
  refine ⟨_, (pss_cons (ps_if (pt_not (pt_val (pe_callH h_is_work (hr.mono (by decide)) rfl (pa_cons (pv 1) pa_nil)))) (pss_one (ps_ret (pe_lst (pa_cons (pe_gi rfl T.c_OUT_OF_RANGE) pa_nil)))) pss_nil) (pss_cons (ps_set (i := 2) sc.nd rfl (Or.inl rfl) (pe_fld (pv 0) rfl)) (pss_cons (ps_fld (pv 0) (pv 1) rfl) (pss_one (ps_ret (pe_lst (pa_cons (pv 2) pa_nil))))))), ?_⟩
  walk_at "rd0"
  walk_at "rd"
  refine ⟨n, rfl, ?_⟩
  walk_at "rd"
  refine rd_nbool (fun e => ?_) (fun e => ?_)
  · walk_at "rd"
    intro l hl
    refine q.no J ?_ hl
    show (if Kv366.okT n = false then _ else _) = _
    rw [okT_eq, if_pos e]
  · have hn : 1 ≤ n ∧ n ≤ 60 := by rw [Bool.and_eq_true_iff] at e; simp at e; omega
    walk_at "rd"
    refine sf_fill cl J hn.2 fun H2 J2 o2 g2 => ?_
    have e3 : a.does (.filling n) = ({ a with fill := n }, Kv366.say (a.fill : Nat)) := by
      show (if Kv366.okT n = false then _ else _) = _
      rw [okT_eq, e, if_neg (by decide)]
    walk_at "rd"
    intro l hl
    unfold Did at q
    rw [e3] at q
    have hl0 : l ≠ p := fun e => by obtain ⟨dx, e5⟩ := J2.at_; rw [e, e5] at hl; cases hl
    exact q _ l (J2.same (same_new hl)) (o2.same (same_new hl)) (by rw [g2 l hl0] at hl; exact hl) upd_same
def spLaying (C : Addr) : Sp := fun vs H Q _ => ∃ (p pw : Addr) (b : Bool) (a : Abs) (n : Nat), vs = [.ref p, .int (n : Nat)] ∧ JobAt C H p pw b a ∧ Did C H Q p pw b a (.laying n)
theorem has_laying (T : Txt K mg C) (U : Top K mg "laying" s_laying ["job", "minutes"]) (h_is_work : Has P w K mg base 1 "is_work" ["minutes"] (spIs 1 60)) : Has P w K mg base 2 "laying" ["job", "minutes"] (spLaying C) := by
  refine U.has sc_laying (by first | (rintro _ _ _ _ ⟨_, rfl, _⟩; rfl) | (rintro _ _ _ _ ⟨_, _, rfl, _⟩; rfl) | (rintro _ _ _ _ ⟨_, _, _, rfl, _⟩; rfl) | (rintro _ _ _ _ ⟨_, _, _, _, rfl, _⟩; rfl) | (rintro _ _ _ _ ⟨_, _, _, _, _, rfl, _⟩; rfl) | (rintro _ _ _ _ ⟨_, _, _, _, _, _, rfl, _⟩; rfl) | (rintro _ _ _ _ ⟨_, _, _, _, _, _, _, rfl, _⟩; rfl) | (rintro _ _ _ _ ⟨_, _, _, _, _, _, _, _, rfl, _⟩; rfl)) (fun f cdv A outer s H vs Q E hr h => ?_)
  obtain ⟨p, pw, b, a, n, rfl, J, q⟩ := h
  have cl := T.c
  have sc := sc_laying
  refine ⟨_, (pss_cons (ps_if (pt_not (pt_val (pe_callH h_is_work (hr.mono (by decide)) rfl (pa_cons (pv 1) pa_nil)))) (pss_one (ps_ret (pe_lst (pa_cons (pe_gi rfl T.c_OUT_OF_RANGE) pa_nil)))) pss_nil) (pss_cons (ps_set (i := 2) sc.nd rfl (Or.inl rfl) (pe_fld (pv 0) rfl)) (pss_cons (ps_fld (pv 0) (pv 1) rfl) (pss_one (ps_ret (pe_lst (pa_cons (pv 2) pa_nil))))))), ?_⟩
  walk_at "rd0"
  walk_at "rd"
  refine ⟨n, rfl, ?_⟩
  walk_at "rd"
  refine rd_nbool (fun e => ?_) (fun e => ?_)
  · walk_at "rd"
    intro l hl
    refine q.no J ?_ hl
    show (if Kv366.okT n = false then _ else _) = _
    rw [okT_eq, if_pos e]
  · have hn : 1 ≤ n ∧ n ≤ 60 := by rw [Bool.and_eq_true_iff] at e; simp at e; omega
    walk_at "rd"
    refine sf_lay cl J hn.2 fun H2 J2 o2 g2 => ?_
    have e3 : a.does (.laying n) = ({ a with lay := n }, Kv366.say (a.lay : Nat)) := by
      show (if Kv366.okT n = false then _ else _) = _
      rw [okT_eq, e, if_neg (by decide)]
    walk_at "rd"
    intro l hl
    unfold Did at q
    rw [e3] at q
    have hl0 : l ≠ p := fun e => by obtain ⟨dx, e5⟩ := J2.at_; rw [e, e5] at hl; cases hl
    exact q _ l (J2.same (same_new hl)) (o2.same (same_new hl)) (by rw [g2 l hl0] at hl; exact hl) upd_same
def spKeeping (C : Addr) : Sp := fun vs H Q _ => ∃ (p pw : Addr) (b : Bool) (a : Abs) (n : Nat), vs = [.ref p, .int (n : Nat)] ∧ JobAt C H p pw b a ∧ Did C H Q p pw b a (.keeping n)
theorem has_keeping (T : Txt K mg C) (U : Top K mg "keeping" s_keeping ["job", "minutes"]) (h_is_keep : Has P w K mg base 1 "is_keep" ["minutes"] (spIs 0 300)) : Has P w K mg base 2 "keeping" ["job", "minutes"] (spKeeping C) := by
  refine U.has sc_keeping (by first | (rintro _ _ _ _ ⟨_, rfl, _⟩; rfl) | (rintro _ _ _ _ ⟨_, _, rfl, _⟩; rfl) | (rintro _ _ _ _ ⟨_, _, _, rfl, _⟩; rfl) | (rintro _ _ _ _ ⟨_, _, _, _, rfl, _⟩; rfl) | (rintro _ _ _ _ ⟨_, _, _, _, _, rfl, _⟩; rfl) | (rintro _ _ _ _ ⟨_, _, _, _, _, _, rfl, _⟩; rfl) | (rintro _ _ _ _ ⟨_, _, _, _, _, _, _, rfl, _⟩; rfl) | (rintro _ _ _ _ ⟨_, _, _, _, _, _, _, _, rfl, _⟩; rfl)) (fun f cdv A outer s H vs Q E hr h => ?_)
  obtain ⟨p, pw, b, a, n, rfl, J, q⟩ := h
  have cl := T.c
  have sc := sc_keeping
  refine ⟨_, (pss_cons (ps_if (pt_not (pt_val (pe_callH h_is_keep (hr.mono (by decide)) rfl (pa_cons (pv 1) pa_nil)))) (pss_one (ps_ret (pe_lst (pa_cons (pe_gi rfl T.c_OUT_OF_RANGE) pa_nil)))) pss_nil) (pss_cons (ps_set (i := 2) sc.nd rfl (Or.inl rfl) (pe_fld (pv 0) rfl)) (pss_cons (ps_fld (pv 0) (pv 1) rfl) (pss_one (ps_ret (pe_lst (pa_cons (pv 2) pa_nil))))))), ?_⟩
  walk_at "rd0"
  walk_at "rd"
  refine ⟨n, rfl, ?_⟩
  walk_at "rd"
  refine rd_nbool (fun e => ?_) (fun e => ?_)
  · walk_at "rd"
    intro l hl
    refine q.no J ?_ hl
    show (if 300 < n then _ else _) = _
    rw [if_pos (by rw [Bool.and_eq_false_iff] at e; simp at e; omega)]
  · have hn : n ≤ 300 := by rw [Bool.and_eq_true_iff] at e; simp at e; omega
    walk_at "rd"
    refine sf_keep cl J hn fun H2 J2 o2 g2 => ?_
    have e3 : a.does (.keeping n) = ({ a with keep := n }, Kv366.say (a.keep : Nat)) := by
      show (if 300 < n then _ else _) = _
      rw [if_neg (by omega)]
    walk_at "rd"
    intro l hl
    unfold Did at q
    rw [e3] at q
    have hl0 : l ≠ p := fun e => by obtain ⟨dx, e5⟩ := J2.at_; rw [e, e5] at hl; cases hl
    exact q _ l (J2.same (same_new hl)) (o2.same (same_new hl)) (by rw [g2 l hl0] at hl; exact hl) upd_same
end

section
variable {P : Program} {w : World} {K : PySem.W.Frag} {mg : Str → Option Value} {base : Heap} {C : Addr}
def spBegin (C : Addr) : Sp := fun vs H Q _ => ∃ (p pw : Addr) (b : Bool) (a : Abs) (f l k : Nat), vs = [.ref p, .int (f : Nat), .int (l : Nat), .int (k : Nat)] ∧ JobAt C H p pw b a ∧
  ((Kv366.okT f = false ∨ Kv366.okT l = false ∨ 300 < k) → ∀ (H' : Hp) (r : Addr), Same H H' → H r = none → H' r = some (.lst [.int (-22)]) → Q (.ref r) H') ∧
  (¬ (Kv366.okT f = false ∨ Kv366.okT l = false ∨ 300 < k) → ∀ (H' : Hp) (r pw' : Addr), JobAt C H' p pw' true (Kv366.begun f l k) → Oth p pw H H' → H pw' = none → H r = none → H' r = some (.lst [.int 0]) → Q (.ref r) H')
theorem has_begin (T : Txt K mg C) (U : Top K mg "begin" s_begin ["job", "fill", "lay", "keep"]) (h_is_work : Has P w K mg base 1 "is_work" ["minutes"] (spIs 1 60)) (h_is_keep : Has P w K mg base 1 "is_keep" ["minutes"] (spIs 0 300)) : Has P w K mg base 2 "begin" ["job", "fill", "lay", "keep"] (spBegin C) := by
  refine U.has sc_begin (by first | (rintro _ _ _ _ ⟨_, rfl, _⟩; rfl) | (rintro _ _ _ _ ⟨_, _, rfl, _⟩; rfl) | (rintro _ _ _ _ ⟨_, _, _, rfl, _⟩; rfl) | (rintro _ _ _ _ ⟨_, _, _, _, rfl, _⟩; rfl) | (rintro _ _ _ _ ⟨_, _, _, _, _, rfl, _⟩; rfl) | (rintro _ _ _ _ ⟨_, _, _, _, _, _, rfl, _⟩; rfl) | (rintro _ _ _ _ ⟨_, _, _, _, _, _, _, rfl, _⟩; rfl) | (rintro _ _ _ _ ⟨_, _, _, _, _, _, _, _, rfl, _⟩; rfl)) (fun f cdv A outer s H vs Q E hr h => ?_)
  obtain ⟨p, pw, b, a, x, y, z, rfl, J, q1, q2⟩ := h
  have cl := T.c
  have sc := sc_begin
  refine ⟨_, (pss_cons (ps_if (pt_not (PW.pt (pw_and (pt_val (pe_callH h_is_work (hr.mono (by decide)) rfl (pa_cons (pv 1) pa_nil))) (pw_and (pt_val (pe_callH h_is_work (hr.mono (by decide)) rfl (pa_cons (pv 2) pa_nil))) (pw_and1 (pt_val (pe_callH h_is_keep (hr.mono (by decide)) rfl (pa_cons (pv 3) pa_nil)))))))) (pss_one (ps_ret (pe_lst (pa_cons (pe_gi rfl T.c_OUT_OF_RANGE) pa_nil)))) pss_nil) (pss_cons (ps_fld (pv 0) pe_bl rfl) (pss_cons (ps_fld (pv 0) (pv 1) rfl) (pss_cons (ps_fld (pv 0) (pv 2) rfl) (pss_cons (ps_fld (pv 0) (pv 3) rfl) (pss_cons (ps_fld (pv 0) pe_int rfl) (pss_cons (ps_fld (pv 0) (pe_lst pa_nil) rfl) (pss_one (ps_ret (pe_lst (pa_cons pe_int pa_nil))))))))))), ?_⟩
  walk_at "rd0"
  walk_at "rd"
  refine ⟨x, rfl, ?_⟩
  walk_at "rd"
  refine rd_bool (fun e => ?_) (fun e => ?_)
  · walk_at "rd"
    refine ⟨y, rfl, ?_⟩
    walk_at "rd"
    refine rd_bool (fun e2 => ?_) (fun e2 => ?_)
    · walk_at "rd"
      refine ⟨z, rfl, ?_⟩
      walk_at "rd"
      refine rd_nbool (fun e3 => ?_) (fun e3 => ?_)
      · walk_at "rd"
        intro l hl
        exact q1 (.inr (.inr (by rw [Bool.and_eq_false_iff] at e3; simp at e3; omega))) _ l (same_new hl) hl upd_same
      · have hx : 1 ≤ x ∧ x ≤ 60 := by rw [Bool.and_eq_true_iff] at e; simp at e; omega
        have hy : 1 ≤ y ∧ y ≤ 60 := by rw [Bool.and_eq_true_iff] at e2; simp at e2; omega
        have hz : z ≤ 300 := by rw [Bool.and_eq_true_iff] at e3; simp at e3; omega
        walk_at "rd"
        refine sf_begun cl J fun H1 J1 o1 g1 => ?_
        walk_at "rd"
        refine sf_fill cl J1 hx.2 fun H2 J2 o2 g2 => ?_
        walk_at "rd"
        refine sf_lay cl J2 hy.2 fun H3 J3 o3 g3 => ?_
        walk_at "rd"
        refine sf_keep cl J3 hz fun H4 J4 o4 g4 => ?_
        walk_at "rd"
        refine sf_fleet (n := 1) cl J4 (by decide) (by decide) fun H5 J5 o5 g5 => ?_
        walk_at "rd"
        intro pn hpn
        have J6 := J5.same (same_new (o := .lst []) hpn)
        walk_at "rd"
        refine sf_ways (ds := []) cl J6 upd_same (Nat.zero_le _) fun H7 J7 o7 g7 => ?_
        walk_at "rd"
        intro l hl
        have hp5 : ∀ c, c ≠ p → H5 c = H c := fun c n => by rw [g5 c n, g4 c n, g3 c n, g2 c n, g1 c n]
        have hp : H7 p ≠ none := by obtain ⟨dx, e⟩ := J7.at_; rw [e]; intro z; cases z
        have hlp : l ≠ p := fun e => hp (by rw [← e]; exact hl)
        have hnp : pn ≠ p := fun e => by obtain ⟨dx, e5⟩ := J5.at_; rw [e, e5] at hpn; cases hpn
        have hlq : l ≠ pn := fun e => by have := J7.ws; rw [← e, hl] at this; cases this
        refine q2 ?_ _ l pn (J7.same (same_new hl)) ?_ (by rw [← hp5 pn hnp]; exact hpn) (by rw [g7 l hlp, upd_ne hlq, hp5 l hlp] at hl; exact hl) upd_same
        · rw [okT_eq, okT_eq, e, e2]
          rintro (h | h | h)
          · cases h
          · cases h
          · omega
        · exact (((((((o1.trans o2).trans o3).trans o4).trans o5).same (same_new hpn)).trans o7).same (same_new hl))
    · walk_at "rd"
      refine iteNT ?_
      walk_at "rd"
      intro l hl
      exact q1 (.inr (.inl (by rw [okT_eq]; exact e2))) _ l (same_new hl) hl upd_same
  · walk_at "rd"
    refine iteNT ?_
    walk_at "rd"
    intro l hl
    exact q1 (.inl (by rw [okT_eq]; exact e)) _ l (same_new hl) hl upd_same
def spLast (C : Addr) : Sp := fun vs H Q _ => ∃ (p pw : Addr) (b : Bool) (a : Abs) (s : Nat), vs = [.ref p, .int (s : Nat)] ∧ JobAt C H p pw b a ∧ a.could s = true ∧ ∀ (H' : Hp) (l : Addr), Same H H' → H l = none → H' l = some (.lst (ivs (a.latest s))) → Q (.ref l) H'
theorem has_filled_latest (T : Txt K mg C) (U : Top K mg "filled_latest" s_filled_latest ["job", "paver_start"]) (h_begun_at : Has P w K mg base 1 "begun_at" ["job", "paver_start", "k"] (spBegun C)) : Has P w K mg base 2 "filled_latest" ["job", "paver_start"] (spLast C) := by
  refine U.has sc_filled_latest (by first | (rintro _ _ _ _ ⟨_, rfl, _⟩; rfl) | (rintro _ _ _ _ ⟨_, _, rfl, _⟩; rfl) | (rintro _ _ _ _ ⟨_, _, _, rfl, _⟩; rfl) | (rintro _ _ _ _ ⟨_, _, _, _, rfl, _⟩; rfl) | (rintro _ _ _ _ ⟨_, _, _, _, _, rfl, _⟩; rfl) | (rintro _ _ _ _ ⟨_, _, _, _, _, _, rfl, _⟩; rfl) | (rintro _ _ _ _ ⟨_, _, _, _, _, _, _, rfl, _⟩; rfl) | (rintro _ _ _ _ ⟨_, _, _, _, _, _, _, _, rfl, _⟩; rfl)) (fun f cdv A outer s H vs Q E hr h => ?_)
  obtain ⟨p, pw, b, a, s', rfl, J, hc, q⟩ := h
  have cl := T.c
  have sc := sc_filled_latest
  obtain ⟨f1, f2, f3, f4, f5, f6⟩ := J.fit
  refine ⟨_, (pss_cons (ps_set (i := 2) sc.nd rfl (Or.inl rfl) (pe_lst pa_nil)) (pss_cons (ps_set (i := 3) sc.nd rfl (Or.inl rfl) (pe_callB call_len_seq rfl T.b_len PySem.boot_len (pa_cons (pe_fld (pv 0) rfl) pa_nil))) (pss_cons (ps_set (i := 4) sc.nd rfl (Or.inl rfl) (pe_callH h_begun_at (hr.mono (by decide)) rfl (pa_cons (pv 0) (pa_cons (pv 1) (pa_cons (pv 3) pa_nil))))) (pss_cons (ps_for PassesOwn.never rfl (pi_range3 rfl T.b_range (pa_cons (pe_op op_sub (pv 3) pe_int) (pa_cons (pe_un un_neg pe_int) (pa_cons (pe_un un_neg pe_int) pa_nil)))) (pg_name (i := 5) sc.nd rfl (Or.inl rfl) (Or.inr rfl)) (pss_cons (ps_set (i := 6) sc.nd rfl (Or.inl rfl) (pe_callB (call_min2 rfl) rfl T.b_min boot_min (pa_cons (pv 4) (pa_cons (pe_op op_sub (pe_callH h_begun_at (hr.mono (by decide)) rfl (pa_cons (pv 0) (pa_cons (pv 1) (pa_cons (pv 5) pa_nil)))) (pe_ix ix_list (pe_fld (pv 0) rfl) (pv 5) (fun _ _ => rfl))) pa_nil)))) (pss_cons (ps_expr (pe_bm PySem.F.plainAttrs_list PySem.F.slot_list_append PySem.F.type_list_append mt_append (pv 2) (pa_cons (pv 6) pa_nil))) (pss_one (ps_set (i := 4) sc.nd rfl (Or.inl rfl) (pe_op op_sub (pv 6) (pe_fld (pv 0) rfl))))))) (pss_one (ps_ret (pe_rev (pv 2)))))))), ?_⟩
  walk_at "rd0"
  walk_at "rd"
  intro l hl
  have J1 := J.same (same_new (o := .lst []) hl)
  walk_at "rd"
  refine ⟨p, pw, b, a, _, _, rfl, J1, ?_⟩
  walk_at "rd"
  refine rd_rgd (n := a.n) rfl (by omega) ?_
  refine fb_down (fun i σ H' => ∃ (v5 v6 : Option V) (L : List Nat), σ = [some (.ref p), some (.int (s' : Nat)), some (.ref l), some (.int (a.n : Nat)), some (.int (Mth.laNext a s' L)), v5, v6] ∧ Same H H' ∧ H' l = some (.lst (ivs L).reverse) ∧ L.length = i ∧
    (List.range (a.n - i)).reverse.foldl (Mth.laStep a s') L = a.latest s' ∧ Mth.laFit a (a.n - i) L) ⟨none, none, [], rfl, same_new hl, upd_same, rfl, rfl, trivial⟩ ?_ ?_
  · rintro i σ H' hi ⟨v5, v6, L, rfl, s1, hl', hL, hf, hF⟩
    have J2 := J.same s1
    obtain ⟨m, hm⟩ : ∃ m, a.n - i = m + 1 := ⟨a.n - i - 1, by omega⟩
    have hm2 : a.n - 1 - i = m := by omega
    rw [hm] at hf hF
    rw [hm2]
    obtain ⟨g, e1, e2, e3, e4⟩ := Mth.la_int hc (show m < a.n by omega) hF
    unfold Mth.mn at e2
    walk_at "rd"
    refine ⟨p, pw, b, a, _, _, rfl, J2, ?_⟩
    walk_at "rd"
    refine rd_app hl' (by rw [List.length_reverse, ivs_len]; exact small1000 (by omega)) ?_
    rw [e2]
    have s2 := same_upd (o := .lst ((ivs L).reverse ++ [.int (g : Nat)])) s1 hl
    have J3 := J.same s2
    walk_at "rd"
    refine ⟨_, _, g :: L, rfl, s2, ?_, by rw [List.length_cons, hL], ?_, ?_⟩
    · rw [upd_same]
      unfold ivs
      rw [List.map_cons, List.reverse_cons]
    · rw [show a.n - (i + 1) = m by omega, ← e1, ← Mth.la_turn]
      exact hf
    · rw [show a.n - (i + 1) = m by omega]
      exact e3
  · rintro σ H' ⟨v5, v6, L, rfl, s1, hl', hL, hf, hF⟩
    walk_at "rd"
    intro l2 hl2
    rw [Nat.sub_self] at hf
    have e : L = a.latest s' := hf
    rw [List.reverse_reverse, e]
    exact q _ l2 (s1.trans (same_new hl2)) (s1.free hl2) upd_same
/-! ### the calls that look -/
def spLook0 (C : Addr) (c : Kv366.Call) : Sp := fun vs H Q _ => ∃ (p pw : Addr) (b : Bool) (a : Abs), vs = [.ref p] ∧ JobAt C H p pw b a ∧ Look H Q a c
def spLook1 (C : Addr) (c : Nat → Kv366.Call) : Sp := fun vs H Q _ => ∃ (p pw : Addr) (b : Bool) (a : Abs) (n : Nat), vs = [.ref p, .int (n : Nat)] ∧ JobAt C H p pw b a ∧ Look H Q a (c n)
theorem has_can (T : Txt K mg C) (U : Top K mg "can" s_can ["job"]) (h_can_be : Has P w K mg base 2 "can_be" ["job"] (spCanBe C)) : Has P w K mg base 3 "can" ["job"] (spLook0 C .can) := by
  refine U.has sc_can (by first | (rintro _ _ _ _ ⟨_, rfl, _⟩; rfl) | (rintro _ _ _ _ ⟨_, _, rfl, _⟩; rfl) | (rintro _ _ _ _ ⟨_, _, _, rfl, _⟩; rfl) | (rintro _ _ _ _ ⟨_, _, _, _, rfl, _⟩; rfl) | (rintro _ _ _ _ ⟨_, _, _, _, _, rfl, _⟩; rfl) | (rintro _ _ _ _ ⟨_, _, _, _, _, _, rfl, _⟩; rfl) | (rintro _ _ _ _ ⟨_, _, _, _, _, _, _, rfl, _⟩; rfl) | (rintro _ _ _ _ ⟨_, _, _, _, _, _, _, _, rfl, _⟩; rfl)) (fun f cdv A outer s H vs Q E hr h => ?_)
  obtain ⟨p, pw, b, a, rfl, J, q⟩ := h
  have sc := sc_can
  refine ⟨_, (pss_one (ps_ret (pe_ifExp (pt_val (pe_callH h_can_be (hr.mono (by decide)) rfl (pa_cons (pv 0) pa_nil))) (pe_lst (pa_cons pe_int pa_nil)) (pe_lst (pa_cons pe_int pa_nil))))), ?_⟩
  walk_at "rd0"
  walk_at "rd"
  refine ⟨p, pw, b, a, rfl, J, fun H1 s1 => ?_⟩
  walk_at "rd"
  refine rd_bool (fun e => ?_) (fun e => ?_)
  · walk_at "rd"
    intro l hl
    refine q _ l (s1.trans (same_new hl)) (s1.free hl) ?_
    rw [upd_same]
    show _ = some (HO.lst (ans (Kv366.say (Kv366.bit a.can : Nat))))
    rw [e]
    rfl
  · walk_at "rd"
    intro l hl
    refine q _ l (s1.trans (same_new hl)) (s1.free hl) ?_
    rw [upd_same]
    show _ = some (HO.lst (ans (Kv366.say (Kv366.bit a.can : Nat))))
    rw [e]
    rfl
theorem has_why (T : Txt K mg C) (U : Top K mg "why" s_why ["job"]) (h_first_why_not : Has P w K mg base 2 "first_why_not" ["job"] (spWhy C)) : Has P w K mg base 3 "why" ["job"] (spLook0 C .why) := by
  refine U.has sc_why (by first | (rintro _ _ _ _ ⟨_, rfl, _⟩; rfl) | (rintro _ _ _ _ ⟨_, _, rfl, _⟩; rfl) | (rintro _ _ _ _ ⟨_, _, _, rfl, _⟩; rfl) | (rintro _ _ _ _ ⟨_, _, _, _, rfl, _⟩; rfl) | (rintro _ _ _ _ ⟨_, _, _, _, _, rfl, _⟩; rfl) | (rintro _ _ _ _ ⟨_, _, _, _, _, _, rfl, _⟩; rfl) | (rintro _ _ _ _ ⟨_, _, _, _, _, _, _, rfl, _⟩; rfl) | (rintro _ _ _ _ ⟨_, _, _, _, _, _, _, _, rfl, _⟩; rfl)) (fun f cdv A outer s H vs Q E hr h => ?_)
  obtain ⟨p, pw, b, a, rfl, J, q⟩ := h
  have sc := sc_why
  refine ⟨_, (pss_cons (ps_set (i := 1) sc.nd rfl (Or.inl rfl) (pe_callH h_first_why_not (hr.mono (by decide)) rfl (pa_cons (pv 0) pa_nil))) (pss_one (ps_ret (pe_ifExp (pt_cmpR op_gt (pe_callB call_len_seq rfl T.b_len PySem.boot_len (pa_cons (pv 1) pa_nil)) pe_int (nomark _)) (pv 1) (pe_lst (pa_cons (pe_gi rfl T.c_IT_CAN_BE) pa_nil)))))), ?_⟩
  walk_at "rd0"
  walk_at "rd"
  refine ⟨p, pw, b, a, rfl, J, fun H1 l1 s1 hl1 hl2 => ?_⟩
  walk_at "rd"
  unfold Look at q
  have e : a.does .why = match a.why with
    | none => (a, Kv366.say (-17))
    | some w => (a, ⟨(w.1 : Nat), [w.2.1, w.2.2]⟩) := rfl
  rw [e] at q
  unfold whyL at hl2 ⊢
  cases hw : a.why with
  | none =>
    rw [hw] at q hl2
    refine rd_dec (fun e => ?_) (fun e => ?_)
    · exact absurd e (by decide)
    · walk_at "rd"
      intro l hl
      exact q _ l (s1.trans (same_new hl)) (s1.free hl) upd_same
  | some z =>
    rw [hw] at q hl2
    refine rd_dec (fun e => ?_) (fun e => ?_)
    · walk_at "rd"
      exact q _ l1 s1 hl1 hl2
    · exact absurd (show (0 : Int) < 3 by decide) e
theorem has_start (T : Txt K mg C) (U : Top K mg "start" s_start ["job"]) (h_can_be : Has P w K mg base 2 "can_be" ["job"] (spCanBe C)) (h_soonest_start : Has P w K mg base 1 "soonest_start" ["job"] (spStart C)) : Has P w K mg base 3 "start" ["job"] (spLook0 C .start) := by
  refine U.has sc_start (by first | (rintro _ _ _ _ ⟨_, rfl, _⟩; rfl) | (rintro _ _ _ _ ⟨_, _, rfl, _⟩; rfl) | (rintro _ _ _ _ ⟨_, _, _, rfl, _⟩; rfl) | (rintro _ _ _ _ ⟨_, _, _, _, rfl, _⟩; rfl) | (rintro _ _ _ _ ⟨_, _, _, _, _, rfl, _⟩; rfl) | (rintro _ _ _ _ ⟨_, _, _, _, _, _, rfl, _⟩; rfl) | (rintro _ _ _ _ ⟨_, _, _, _, _, _, _, rfl, _⟩; rfl) | (rintro _ _ _ _ ⟨_, _, _, _, _, _, _, _, rfl, _⟩; rfl)) (fun f cdv A outer s H vs Q E hr h => ?_)
  obtain ⟨p, pw, b, a, rfl, J, q⟩ := h
  have sc := sc_start
  refine ⟨_, (pss_one (ps_ret (pe_ifExp (pt_val (pe_callH h_can_be (hr.mono (by decide)) rfl (pa_cons (pv 0) pa_nil))) (pe_lst (pa_cons (pe_callH h_soonest_start (hr.mono (by decide)) rfl (pa_cons (pv 0) pa_nil)) pa_nil)) (pe_lst (pa_cons (pe_gi rfl T.c_IT_CANNOT_BE) pa_nil))))), ?_⟩
  walk_at "rd0"
  walk_at "rd"
  refine ⟨p, pw, b, a, rfl, J, fun H1 s1 => ?_⟩
  have e0 : a.does .start = if a.can = false then (a, Kv366.say (-33)) else (a, Kv366.say (a.start : Nat)) := rfl
  unfold Look at q
  walk_at "rd"
  refine rd_bool (fun e => ?_) (fun e => ?_)
  · rw [e0, if_neg (by rw [e]; decide)] at q
    walk_at "rd"
    refine ⟨p, pw, b, a, rfl, J.same s1, fun H2 s2 => ?_⟩
    walk_at "rd"
    intro l hl
    have s3 := s1.trans s2
    exact q _ l (s3.trans (same_new hl)) (s3.free hl) upd_same
  · rw [e0, if_pos e] at q
    walk_at "rd"
    intro l hl
    exact q _ l (s1.trans (same_new hl)) (s1.free hl) upd_same
/-- the refusal of a start: an empty list if none is due -/
def refL (a : Abs) (s : Nat) : List V := if Kv366.okS s = false then [.int (-22)] else if a.could s = false then [.int (-33)] else []
def spRef (C : Addr) : Sp := fun vs H Q _ => ∃ (p pw : Addr) (b : Bool) (a : Abs) (n : Nat), vs = [.ref p, .int (n : Nat)] ∧ JobAt C H p pw b a ∧ ∀ (H' : Hp) (l : Addr), Same H H' → H l = none → H' l = some (.lst (refL a n)) → Q (.ref l) H'
theorem has_start_refusal (T : Txt K mg C) (U : Top K mg "start_refusal" s_start_refusal ["job", "paver_start"]) (h_has_plan : Has P w K mg base 3 "has_plan" ["job", "paver_start"] (spHasPlan C)) : Has P w K mg base 4 "start_refusal" ["job", "paver_start"] (spRef C) := by
  refine U.has sc_start_refusal (by first | (rintro _ _ _ _ ⟨_, rfl, _⟩; rfl) | (rintro _ _ _ _ ⟨_, _, rfl, _⟩; rfl) | (rintro _ _ _ _ ⟨_, _, _, rfl, _⟩; rfl) | (rintro _ _ _ _ ⟨_, _, _, _, rfl, _⟩; rfl) | (rintro _ _ _ _ ⟨_, _, _, _, _, rfl, _⟩; rfl) | (rintro _ _ _ _ ⟨_, _, _, _, _, _, rfl, _⟩; rfl) | (rintro _ _ _ _ ⟨_, _, _, _, _, _, _, rfl, _⟩; rfl) | (rintro _ _ _ _ ⟨_, _, _, _, _, _, _, _, rfl, _⟩; rfl)) (fun f cdv A outer s H vs Q E hr h => ?_)
  obtain ⟨p, pw, b, a, n, rfl, J, q⟩ := h
  have sc := sc_start_refusal
  refine ⟨_, (pss_cons (ps_if (pt_cmpR op_gt (pv 1) (pe_gi rfl T.c_LAST_START) (nomark _)) (pss_one (ps_ret (pe_lst (pa_cons (pe_gi rfl T.c_OUT_OF_RANGE) pa_nil)))) pss_nil) (pss_cons (ps_if (pt_not (pt_val (pe_callH h_has_plan (hr.mono (by decide)) rfl (pa_cons (pv 0) (pa_cons (pv 1) pa_nil))))) (pss_one (ps_ret (pe_lst (pa_cons (pe_gi rfl T.c_IT_CANNOT_BE) pa_nil)))) pss_nil) (pss_one (ps_ret (pe_lst pa_nil))))), ?_⟩
  walk_at "rd0"
  unfold refL at q
  walk_at "rd"
  refine rd_dec (fun e => ?_) (fun e => ?_)
  · walk_at "rd"
    intro l hl
    rw [if_pos (show Kv366.okS n = false from decide_eq_false (by omega))] at q
    exact q _ l (same_new hl) hl upd_same
  · rw [if_neg (show ¬ Kv366.okS n = false by rw [show Kv366.okS n = true from decide_eq_true (by omega)]; decide)] at q
    walk_at "rd"
    refine ⟨p, pw, b, a, n, rfl, J, fun H1 s1 => ?_⟩
    walk_at "rd"
    refine rd_nbool (fun e2 => ?_) (fun e2 => ?_)
    · rw [if_pos e2] at q
      walk_at "rd"
      intro l hl
      exact q _ l (s1.trans (same_new hl)) (s1.free hl) upd_same
    · rw [if_neg (by rw [e2]; decide)] at q
      walk_at "rd"
      intro l hl
      exact q _ l (s1.trans (same_new hl)) (s1.free hl) upd_same
theorem has_soonest (T : Txt K mg C) (U : Top K mg "soonest" s_soonest ["job", "paver_start"]) (h_start_refusal : Has P w K mg base 4 "start_refusal" ["job", "paver_start"] (spRef C)) (h_filled_soonest : Has P w K mg base 4 "filled_soonest" ["job", "paver_start"] (spSoon C)) : Has P w K mg base 5 "soonest" ["job", "paver_start"] (spLook1 C .soonest) := by
  refine U.has sc_soonest (by first | (rintro _ _ _ _ ⟨_, rfl, _⟩; rfl) | (rintro _ _ _ _ ⟨_, _, rfl, _⟩; rfl) | (rintro _ _ _ _ ⟨_, _, _, rfl, _⟩; rfl) | (rintro _ _ _ _ ⟨_, _, _, _, rfl, _⟩; rfl) | (rintro _ _ _ _ ⟨_, _, _, _, _, rfl, _⟩; rfl) | (rintro _ _ _ _ ⟨_, _, _, _, _, _, rfl, _⟩; rfl) | (rintro _ _ _ _ ⟨_, _, _, _, _, _, _, rfl, _⟩; rfl) | (rintro _ _ _ _ ⟨_, _, _, _, _, _, _, _, rfl, _⟩; rfl)) (fun f cdv A outer s H vs Q E hr h => ?_)
  obtain ⟨p, pw, b, a, n, rfl, J, q⟩ := h
  have cl := T.c
  have sc := sc_soonest
  obtain ⟨f1, f2, f3, f4, f5, f6⟩ := J.fit
  refine ⟨_, (pss_cons (ps_set (i := 2) sc.nd rfl (Or.inl rfl) (pe_callH h_start_refusal (hr.mono (by decide)) rfl (pa_cons (pv 0) (pa_cons (pv 1) pa_nil)))) (pss_cons (ps_if (pt_cmpR op_gt (pe_callB call_len_seq rfl T.b_len PySem.boot_len (pa_cons (pv 2) pa_nil)) pe_int (nomark _)) (pss_one (ps_ret (pv 2))) pss_nil) (pss_one (ps_ret (pe_op op_cat (pe_lst (pa_cons (pe_callB call_len_seq rfl T.b_len PySem.boot_len (pa_cons (pe_fld (pv 0) rfl) pa_nil)) pa_nil)) (pe_callH h_filled_soonest (hr.mono (by decide)) rfl (pa_cons (pv 0) (pa_cons (pv 1) pa_nil)))))))), ?_⟩
  walk_at "rd0"
  walk_at "rd"
  refine ⟨p, pw, b, a, n, rfl, J, fun H1 l1 s1 hl1 hl2 => ?_⟩
  have J1 := J.same s1
  unfold Look at q
  have e0 : a.does (.soonest n) = if Kv366.okS n = false then (a, Kv366.say (-22)) else if a.could n = false then (a, Kv366.say (-33)) else (a, Kv366.list (a.soonest n)) := rfl
  rw [e0] at q
  unfold refL at hl2
  walk_at "rd"
  refine rd_dec (fun e => ?_) (fun e => ?_)
  · walk_at "rd"
    by_cases h1 : Kv366.okS n = false
    · rw [if_pos h1] at q hl2
      exact q _ l1 s1 hl1 hl2
    · rw [if_neg h1] at q hl2 e
      by_cases h2 : a.could n = false
      · rw [if_pos h2] at q hl2
        exact q _ l1 s1 hl1 hl2
      · rw [if_neg h2] at e
        exact absurd e (by decide)
  · have h1 : ¬ Kv366.okS n = false := fun h1 => by rw [if_pos h1] at e; exact e (by decide)
    rw [if_neg h1] at e q
    have h2 : ¬ a.could n = false := fun h2 => by rw [if_pos h2] at e; exact e (by decide)
    rw [if_neg h2] at q
    walk_at "rd"
    intro l3 hl3
    have s3 := s1.trans (same_new (o := .lst [.int (a.n : Nat)]) hl3)
    have g3 : upd H1 l3 (.lst [.int (a.n : Nat)]) l3 = some (.lst [.int (a.n : Nat)]) := upd_same
    walk_at "rd"
    refine ⟨p, pw, b, a, n, rfl, J.same s3, fun H4 l4 s4 hl4 hl5 => ?_⟩
    refine rd_cat (s4 _ _ g3) hl5 (by rw [ivs_len, Mth.soonest_length]; exact Nat.le_of_lt (small1000 (by simp; omega))) ?_
    intro l hl
    have s5 := s3.trans s4
    refine q _ l (s5.trans (same_new hl)) (s5.free hl) ?_
    rw [upd_same, ans_list, Mth.soonest_length]
    rfl
theorem la_fold (a : Abs) (s : Nat) : ∀ (m : Nat) (l : List Nat), ((List.range m).reverse.foldl (Mth.laStep a s) l).length = m + l.length
  | 0, l => (Nat.zero_add _).symm
  | m + 1, l => by
    rw [Mth.la_turn, la_fold a s m]
    show m + (l.length + 1) = _
    omega
theorem latest_length (a : Abs) (s : Nat) : (a.latest s).length = a.n := by
  rw [Mth.latest_eq, la_fold]
  rfl
theorem has_latest (T : Txt K mg C) (U : Top K mg "latest" s_latest ["job", "paver_start"]) (h_start_refusal : Has P w K mg base 4 "start_refusal" ["job", "paver_start"] (spRef C)) (h_filled_latest : Has P w K mg base 2 "filled_latest" ["job", "paver_start"] (spLast C)) : Has P w K mg base 5 "latest" ["job", "paver_start"] (spLook1 C .latest) := by
  refine U.has sc_latest (by first | (rintro _ _ _ _ ⟨_, rfl, _⟩; rfl) | (rintro _ _ _ _ ⟨_, _, rfl, _⟩; rfl) | (rintro _ _ _ _ ⟨_, _, _, rfl, _⟩; rfl) | (rintro _ _ _ _ ⟨_, _, _, _, rfl, _⟩; rfl) | (rintro _ _ _ _ ⟨_, _, _, _, _, rfl, _⟩; rfl) | (rintro _ _ _ _ ⟨_, _, _, _, _, _, rfl, _⟩; rfl) | (rintro _ _ _ _ ⟨_, _, _, _, _, _, _, rfl, _⟩; rfl) | (rintro _ _ _ _ ⟨_, _, _, _, _, _, _, _, rfl, _⟩; rfl)) (fun f cdv A outer s H vs Q E hr h => ?_)
  obtain ⟨p, pw, b, a, n, rfl, J, q⟩ := h
  have cl := T.c
  have sc := sc_latest
  obtain ⟨f1, f2, f3, f4, f5, f6⟩ := J.fit
  refine ⟨_, (pss_cons (ps_set (i := 2) sc.nd rfl (Or.inl rfl) (pe_callH h_start_refusal (hr.mono (by decide)) rfl (pa_cons (pv 0) (pa_cons (pv 1) pa_nil)))) (pss_cons (ps_if (pt_cmpR op_gt (pe_callB call_len_seq rfl T.b_len PySem.boot_len (pa_cons (pv 2) pa_nil)) pe_int (nomark _)) (pss_one (ps_ret (pv 2))) pss_nil) (pss_one (ps_ret (pe_op op_cat (pe_lst (pa_cons (pe_callB call_len_seq rfl T.b_len PySem.boot_len (pa_cons (pe_fld (pv 0) rfl) pa_nil)) pa_nil)) (pe_callH h_filled_latest (hr.mono (by decide)) rfl (pa_cons (pv 0) (pa_cons (pv 1) pa_nil)))))))), ?_⟩
  walk_at "rd0"
  walk_at "rd"
  refine ⟨p, pw, b, a, n, rfl, J, fun H1 l1 s1 hl1 hl2 => ?_⟩
  have J1 := J.same s1
  unfold Look at q
  have e0 : a.does (.latest n) = if Kv366.okS n = false then (a, Kv366.say (-22)) else if a.could n = false then (a, Kv366.say (-33)) else (a, Kv366.list (a.latest n)) := rfl
  rw [e0] at q
  unfold refL at hl2
  walk_at "rd"
  refine rd_dec (fun e => ?_) (fun e => ?_)
  · walk_at "rd"
    by_cases h1 : Kv366.okS n = false
    · rw [if_pos h1] at q hl2
      exact q _ l1 s1 hl1 hl2
    · rw [if_neg h1] at q hl2 e
      by_cases h2 : a.could n = false
      · rw [if_pos h2] at q hl2
        exact q _ l1 s1 hl1 hl2
      · rw [if_neg h2] at e
        exact absurd e (by decide)
  · have h1 : ¬ Kv366.okS n = false := fun h1 => by rw [if_pos h1] at e; exact e (by decide)
    rw [if_neg h1] at e q
    have h2 : ¬ a.could n = false := fun h2 => by rw [if_pos h2] at e; exact e (by decide)
    rw [if_neg h2] at q
    walk_at "rd"
    intro l3 hl3
    have s3 := s1.trans (same_new (o := .lst [.int (a.n : Nat)]) hl3)
    have g3 : upd H1 l3 (.lst [.int (a.n : Nat)]) l3 = some (.lst [.int (a.n : Nat)]) := upd_same
    walk_at "rd"
    refine ⟨p, pw, b, a, n, rfl, J.same s3, (Bool.not_eq_false _).mp h2, fun H4 l4 s4 hl4 hl5 => ?_⟩
    refine rd_cat (s4 _ _ g3) hl5 (by rw [ivs_len, latest_length]; exact Nat.le_of_lt (small1000 (by simp; omega))) ?_
    intro l hl
    have s5 := s3.trans s4
    refine q _ l (s5.trans (same_new hl)) (s5.free hl) ?_
    rw [upd_same, ans_list, latest_length]
    rfl
end

section
variable {P : Program} {w : World} {K : PySem.W.Frag} {mg : Str → Option Value} {base : Heap} {C : Addr}
/-! ### a new job -/
def spInit (C : Addr) : Sp := fun vs H Q _ => ∃ (x dx : Addr), vs = [.ref x] ∧ H x = some (.ins C dx []) ∧ ∀ (H' : Hp) (pw : Addr), JobAt C H' x pw false (Kv366.begun 1 1 0) → (∀ b o, H b = some o → b ≠ x → H' b = some o) → H pw = none → Q .non H'
theorem lp0 : ([] : List (Str × V)).length < 1 := by decide
theorem lt_put {f : Str} {v : V} {fs : List (Str × V)} {n : Nat} (h : fs.length < n) : (putF f v fs).length < n + 1 := Nat.lt_of_le_of_lt (length_putF f v fs) (Nat.succ_lt_succ h)
theorem ok_init {f : Addr} {fd : FuncData} (F : Fun K "__init__" "Job.__init__" s_Job___init__ f fd) (T : Txt K mg C) : FnOk P w K mg base CX0 1 f fd ["self"] (spInit C) := by
  refine F.ok sc_Job___init__ (by first | (rintro _ _ _ _ ⟨_, rfl, _⟩; rfl) | (rintro _ _ _ _ ⟨_, _, rfl, _⟩; rfl) | (rintro _ _ _ _ ⟨_, _, _, rfl, _⟩; rfl) | (rintro _ _ _ _ ⟨_, _, _, _, rfl, _⟩; rfl) | (rintro _ _ _ _ ⟨_, _, _, _, _, rfl, _⟩; rfl) | (rintro _ _ _ _ ⟨_, _, _, _, _, _, rfl, _⟩; rfl) | (rintro _ _ _ _ ⟨_, _, _, _, _, _, _, rfl, _⟩; rfl) | (rintro _ _ _ _ ⟨_, _, _, _, _, _, _, _, rfl, _⟩; rfl)) (fun cdv A outer s H vs Q E hr h => ?_)
  obtain ⟨x, dx, rfl, hx, q⟩ := h
  have cl := T.c
  have sc := sc_Job___init__
  refine ⟨_, (pss_cons (ps_fld (pv 0) pe_bl rfl) (pss_cons (ps_fld (pv 0) pe_int rfl) (pss_cons (ps_fld (pv 0) pe_int rfl) (pss_cons (ps_fld (pv 0) pe_int rfl) (pss_cons (ps_fld (pv 0) pe_int rfl) (pss_one (ps_fld (pv 0) (pe_lst pa_nil) rfl))))))), ?_⟩
  walk_at "rd0"
  walk_at "rd"
  refine sf_raw hx cl.cls cl.n_begun (by show 0 < 1000; decide) ?_
  walk_at "rd"
  refine sf_raw upd_same cl.cls cl.n_fill (Nat.lt_of_lt_of_le (lt_put (lp0)) (by decide)) ?_
  walk_at "rd"
  refine sf_raw upd_same cl.cls cl.n_lay (Nat.lt_of_lt_of_le (lt_put (lt_put (lp0))) (by decide)) ?_
  walk_at "rd"
  refine sf_raw upd_same cl.cls cl.n_keep (Nat.lt_of_lt_of_le (lt_put (lt_put (lt_put (lp0)))) (by decide)) ?_
  walk_at "rd"
  refine sf_raw upd_same cl.cls cl.n_fleet (Nat.lt_of_lt_of_le (lt_put (lt_put (lt_put (lt_put (lp0))))) (by decide)) ?_
  walk_at "rd"
  intro pw hpw
  walk_at "rd"
  have hpx : x ≠ pw := fun e => by rw [← e, upd_same] at hpw; cases hpw
  refine sf_raw (by rw [upd_ne hpx]; exact upd_same) cl.cls cl.n_ways (Nat.lt_of_lt_of_le (lt_put (lt_put (lt_put (lt_put (lt_put (lp0)))))) (by decide)) ?_
  have e := jf_made false (Kv366.begun 1 1 0) pw
  refine q _ pw ⟨⟨dx, ?_⟩, ?_, ⟨by decide, by decide, by decide, by decide, by decide, by decide⟩⟩ ?_ ?_
  · rw [upd_same]
    exact congrArg (fun z => some (HO.ins C dx z)) e
  · rw [upd_ne (Ne.symm hpx), upd_same]
    rfl
  · intro b o eb nb
    rw [upd_ne nb]
    have n2 : b ≠ pw := fun z => by
      rw [← z] at hpw
      simp only [upd_ne nb] at hpw
      rw [hpw] at eb
      cases eb
    rw [upd_ne n2]
    simp only [upd_ne nb]
    exact eb
  · simp only [upd_ne (Ne.symm hpx)] at hpw
    exact hpw
/-! ### where a call ends -/
theorem takes_at : ∀ q : Nat, q < 26 → atI [V.int 3, V.int 1, V.int 2, V.int 0, V.int 1, V.int 1, V.int 1, V.int 1, V.int 0, V.int 0, V.int 0, V.int 1, V.int 1, V.int 1, V.int 1, V.int 1, V.int 1, V.int 1, V.int 0, V.int 0, V.int 0, V.int 0, V.int 1, V.int 1, V.int 0, V.int 0] (q : Int) = some (V.int (Mth.takes q : Nat)) := by decide +kernel
theorem ivs_get {l : List Nat} {i n : Nat} (h : l[i]? = some n) : atI (ivs l) (i : Int) = some (.int (n : Nat)) := by
  refine atI_nat ?_
  unfold ivs
  rw [List.getElem?_map, h]
  rfl
def spEnd (K : PySem.W.Frag) : Sp := fun vs H Q _ => ∃ (t : Addr) (ns : List Nat) (i q e : Nat), vs = [.ref t, .int (i : Nat)] ∧ SqL K H t (ivs ns) ∧ ns[i]? = some q ∧ q < 26 ∧ ((q ≠ 17 ∧ e = i + 1 + Mth.takes q) ∨ (q = 17 ∧ ∃ m, ns[i + 2]? = some m ∧ e = i + 3 + m)) ∧ Q (.int (e : Nat)) H
theorem has_call_end (T : Txt K mg C) (U : Top K mg "call_end" s_call_end ["calls", "at"]) : Has P w K mg base 1 "call_end" ["calls", "at"] (spEnd K) := by
  refine U.has sc_call_end (by first | (rintro _ _ _ _ ⟨_, rfl, _⟩; rfl) | (rintro _ _ _ _ ⟨_, _, rfl, _⟩; rfl) | (rintro _ _ _ _ ⟨_, _, _, rfl, _⟩; rfl) | (rintro _ _ _ _ ⟨_, _, _, _, rfl, _⟩; rfl) | (rintro _ _ _ _ ⟨_, _, _, _, _, rfl, _⟩; rfl) | (rintro _ _ _ _ ⟨_, _, _, _, _, _, rfl, _⟩; rfl) | (rintro _ _ _ _ ⟨_, _, _, _, _, _, _, rfl, _⟩; rfl) | (rintro _ _ _ _ ⟨_, _, _, _, _, _, _, _, rfl, _⟩; rfl)) (fun f cdv A outer s H vs Q E hr h => ?_)
  obtain ⟨t, ns, i, q, e, rfl, hS, hi, hq, he, k⟩ := h
  have sc := sc_call_end
  refine ⟨_, (pss_cons (ps_set (i := 2) sc.nd rfl (Or.inl rfl) (pe_op op_add (pe_op op_add (pv 1) pe_int) (pe_ix ix_tup (pe_gt rfl T.c_TAKES) (pe_ix ix_list (pv 0) (pv 1) (fun _ _ => rfl)) (fun _ _ => rfl)))) (pss_cons (ps_if (pt_cmpR op_eq (pe_ix ix_list (pv 0) (pv 1) (fun _ _ => rfl)) (pe_gi rfl T.c_TRIED) (nomark _)) (pss_one (ps_set (i := 2) sc.nd rfl (Or.inl rfl) (pe_op op_add (pe_op op_add (pv 2) pe_int) (pe_ix ix_list (pv 0) (pv 2) (fun _ _ => rfl))))) pss_nil) (pss_one (ps_ret (pv 2))))), ?_⟩
  walk_at "rd0"
  walk_at "rd"
  refine rd_gt fun c hc => ?_
  walk_at "rd"
  refine rd_ixS hS (ivs_get hi) ?_
  refine rd_ixT hc (takes_at q hq) ?_
  walk_at "rd"
  refine rd_ixS hS (ivs_get hi) ?_
  walk_at "rd"
  refine rd_dec (fun e1 => ?_) (fun e1 => ?_)
  · rcases he with ⟨h17, _⟩ | ⟨h17, m, hm, rfl⟩
    · omega
    · subst h17
      walk_at "rd"
      rw [show (i : Int) + 1 + (Mth.takes 17 : Nat) = ((i + 2 : Nat) : Int) by show (i : Int) + 1 + 1 = _; omega]
      refine rd_ixS hS (ivs_get hm) ?_
      walk_at "rd"
      rw [show ((i + 2 : Nat) : Int) + 1 + (m : Nat) = ((i + 3 + m : Nat) : Int) by omega]
      exact k
  · rcases he with ⟨h17, rfl⟩ | ⟨h17, _⟩
    · walk_at "rd"
      rw [show (i : Int) + 1 + (Mth.takes q : Nat) = ((i + 1 + Mth.takes q : Nat) : Int) by omega]
      exact k
    · omega
/-! ### the state -/
def StIs (st : Kv366.State) (b : Bool) (a : Abs) : Prop := (b = true ∧ st = some a) ∨ (b = false ∧ st = none ∧ a = Kv366.begun 1 1 0)
def After (C : Addr) (H : Hp) (Q : VK) (p pw : Addr) (st : Kv366.State) (kc : Kv366.Call) : Prop := ∀ (H' : Hp) (l pw' : Addr) (b' : Bool) (a' : Abs), JobAt C H' p pw' b' a' → StIs (Kv366.act st kc).1 b' a' → Oth p pw H H' → (pw' = pw ∨ H pw' = none) → H l = none → H' l = some (.lst (ans (Kv366.act st kc).2)) → Q (.ref l) H'
theorem After.did {C : Addr} {H : Hp} {Q : VK} {p pw : Addr} {a : Abs} {kc : Kv366.Call} (h : After C H Q p pw (some a) kc) : Did C H Q p pw true a kc := fun H' l J o hl hl' => h H' l pw true _ J (.inl ⟨rfl, rfl⟩) o (.inl rfl) hl hl'
theorem After.look {C : Addr} {H : Hp} {Q : VK} {p pw : Addr} {a : Abs} {kc : Kv366.Call} (h : After C H Q p pw (some a) kc) (J : JobAt C H p pw true a) (e : (a.does kc).1 = a) : Look H Q a kc := fun H' l s hl hl' => h H' l pw true a (J.same s) (.inl ⟨rfl, by show some (a.does kc).1 = _; rw [e]⟩) (Oth.of s) (.inl rfl) hl hl'
def spTelling (C : Addr) : Sp := fun vs H Q _ => ∃ (p pw : Addr) (b : Bool) (a : Abs) (st : Kv366.State) (q : Nat) (t : Addr) (told : List Nat) (kc : Kv366.Call), vs = [.ref p, .int (q : Nat), .ref t] ∧ JobAt C H p pw b a ∧ StIs st b a ∧ H t = some (.lst (ivs told)) ∧ Mth.Says q told kc ∧ q ≤ 7 ∧ (q ≠ 0 → b = true) ∧ After C H Q p pw st kc
def spLooking (C : Addr) (lo hi : Nat) : Sp := fun vs H Q _ => ∃ (p pw : Addr) (a : Abs) (q : Nat) (t : Addr) (told : List Nat) (kc : Kv366.Call), vs = [.ref p, .int (q : Nat), .ref t] ∧ JobAt C H p pw true a ∧ H t = some (.lst (ivs told)) ∧ Mth.Says q told kc ∧ lo ≤ q ∧ q ≤ hi ∧ Look H Q a kc
theorem StIs.some {st : Kv366.State} {a : Abs} (h : StIs st true a) : st = some a := by
  rcases h with ⟨_, e⟩ | ⟨e, _⟩
  · exact e
  · cases e
/-- begin, in either state -/
theorem begin_after {C : Addr} {H : Hp} {Q : VK} {p pw : Addr} {b : Bool} {a : Abs} {st : Kv366.State} {f l k : Nat} (J : JobAt C H p pw b a) (hS : StIs st b a) (h : After C H Q p pw st (.begin_ f l k)) :
    ((Kv366.okT f = false ∨ Kv366.okT l = false ∨ 300 < k) → ∀ (H' : Hp) (r : Addr), Same H H' → H r = none → H' r = some (.lst [.int (-22)]) → Q (.ref r) H') ∧
    (¬ (Kv366.okT f = false ∨ Kv366.okT l = false ∨ 300 < k) → ∀ (H' : Hp) (r pw' : Addr), JobAt C H' p pw' true (Kv366.begun f l k) → Oth p pw H H' → H pw' = none → H r = none → H' r = some (.lst [.int 0]) → Q (.ref r) H') := by
  refine ⟨fun hc H' r s hr hr' => ?_, fun hc H' r pw' J' o hp hr hr' => ?_⟩
  · have e : ∀ a : Abs, a.does (.begin_ f l k) = (a, Kv366.say (-22)) := fun a => by
      show (if Kv366.okT f = false ∨ Kv366.okT l = false ∨ 300 < k then _ else _) = _
      rw [if_pos hc]
    rcases hS with ⟨rfl, rfl⟩ | ⟨rfl, rfl, rfl⟩
    · refine h H' r pw true a (J.same s) (.inl ⟨rfl, ?_⟩) (Oth.of s) (.inl rfl) hr ?_
      · show some (a.does _).1 = _
        rw [e]
      · show _ = some (HO.lst (ans (a.does _).2))
        rw [e, hr']
        rfl
    · have e2 : Kv366.act none (.begin_ f l k) = (none, Kv366.say (-22)) := by
        show (if ((Kv366.begun 1 1 0).does (.begin_ f l k)).2.ret < 0 then (none, ((Kv366.begun 1 1 0).does (.begin_ f l k)).2) else _) = _
        rw [e]
        rfl
      refine h H' r pw false _ (J.same s) (.inr ⟨rfl, by rw [e2], rfl⟩) (Oth.of s) (.inl rfl) hr ?_
      rw [e2, hr']
      rfl
  · have e : ∀ a : Abs, a.does (.begin_ f l k) = (Kv366.begun f l k, Kv366.say 0) := fun a => by
      show (if Kv366.okT f = false ∨ Kv366.okT l = false ∨ 300 < k then _ else _) = _
      rw [if_neg hc]
    have e2 : Kv366.act st (.begin_ f l k) = (some (Kv366.begun f l k), Kv366.say 0) := by
      cases st with
      | none =>
        show (if ((Kv366.begun 1 1 0).does (.begin_ f l k)).2.ret < 0 then _ else (some ((Kv366.begun 1 1 0).does (.begin_ f l k)).1, ((Kv366.begun 1 1 0).does (.begin_ f l k)).2)) = _
        rw [e]
        rfl
      | some a' =>
        show (some (a'.does _).1, (a'.does _).2) = _
        rw [e]
    refine h H' r pw' true _ J' (.inl ⟨rfl, by rw [e2]⟩) o (.inr hp) hr ?_
    rw [e2, hr']
    rfl
theorem has_telling_answer (T : Txt K mg C) (U : Top K mg "telling_answer" s_telling_answer ["job", "call", "told"]) (h_begin : Has P w K mg base 2 "begin" ["job", "fill", "lay", "keep"] (spBegin C)) (h_load : Has P w K mg base 2 "load" ["job", "way"] (spLoad C))
    (h_drive : Has P w K mg base 2 "drive" ["job", "k", "way"] (spDrive C)) (h_less : Has P w K mg base 1 "less" ["job"] (spLess C)) (h_lorries : Has P w K mg base 2 "lorries" ["job", "number"] (spLorries C)) (h_filling : Has P w K mg base 2 "filling" ["job", "minutes"] (spFilling C))
    (h_laying : Has P w K mg base 2 "laying" ["job", "minutes"] (spLaying C)) (h_keeping : Has P w K mg base 2 "keeping" ["job", "minutes"] (spKeeping C)) : Has P w K mg base 3 "telling_answer" ["job", "call", "told"] (spTelling C) := by
  refine U.has sc_telling_answer (by rintro _ _ _ _ ⟨_, _, _, _, _, _, _, _, _, rfl, _⟩; rfl) (fun f cdv A outer s H vs Q E hr h => ?_)
  obtain ⟨p, pw, b, a, st, q, t, told, kc, rfl, J, hS, ht, hs, hq, hb, k⟩ := h
  have sc := sc_telling_answer
  refine ⟨_, (pss_cons (ps_if (pt_cmpR op_eq (pv 1) (pe_gi rfl T.c_BEGIN) (nomark _)) (pss_one (ps_ret (pe_callH h_begin (hr.mono (by decide)) rfl (pa_cons (pv 0) (pa_cons (pe_ix ix_list (pv 2) pe_int (fun _ _ => rfl)) (pa_cons (pe_ix ix_list (pv 2) pe_int (fun _ _ => rfl)) (pa_cons (pe_ix ix_list (pv 2) pe_int (fun _ _ => rfl)) pa_nil))))))) pss_nil) (pss_cons (ps_if (pt_cmpR op_eq (pv 1) (pe_gi rfl T.c_LOAD) (nomark _)) (pss_one (ps_ret (pe_callH h_load (hr.mono (by decide)) rfl (pa_cons (pv 0) (pa_cons (pe_ix ix_list (pv 2) pe_int (fun _ _ => rfl)) pa_nil))))) pss_nil) (pss_cons (ps_if (pt_cmpR op_eq (pv 1) (pe_gi rfl T.c_DRIVE) (nomark _)) (pss_one (ps_ret (pe_callH h_drive (hr.mono (by decide)) rfl (pa_cons (pv 0) (pa_cons (pe_ix ix_list (pv 2) pe_int (fun _ _ => rfl)) (pa_cons (pe_ix ix_list (pv 2) pe_int (fun _ _ => rfl)) pa_nil)))))) pss_nil) (pss_cons (ps_if (pt_cmpR op_eq (pv 1) (pe_gi rfl T.c_LESS) (nomark _)) (pss_one (ps_ret (pe_callH h_less (hr.mono (by decide)) rfl (pa_cons (pv 0) pa_nil)))) pss_nil) (pss_cons (ps_if (pt_cmpR op_eq (pv 1) (pe_gi rfl T.c_LORRIES) (nomark _)) (pss_one (ps_ret (pe_callH h_lorries (hr.mono (by decide)) rfl (pa_cons (pv 0) (pa_cons (pe_ix ix_list (pv 2) pe_int (fun _ _ => rfl)) pa_nil))))) pss_nil) (pss_cons (ps_if (pt_cmpR op_eq (pv 1) (pe_gi rfl T.c_FILLING) (nomark _)) (pss_one (ps_ret (pe_callH h_filling (hr.mono (by decide)) rfl (pa_cons (pv 0) (pa_cons (pe_ix ix_list (pv 2) pe_int (fun _ _ => rfl)) pa_nil))))) pss_nil) (pss_cons (ps_if (pt_cmpR op_eq (pv 1) (pe_gi rfl T.c_LAYING) (nomark _)) (pss_one (ps_ret (pe_callH h_laying (hr.mono (by decide)) rfl (pa_cons (pv 0) (pa_cons (pe_ix ix_list (pv 2) pe_int (fun _ _ => rfl)) pa_nil))))) pss_nil) (pss_one (ps_ret (pe_callH h_keeping (hr.mono (by decide)) rfl (pa_cons (pv 0) (pa_cons (pe_ix ix_list (pv 2) pe_int (fun _ _ => rfl)) pa_nil)))))))))))), ?_⟩
  walk_at "rd0"
  cases kc with
  | begin_ x y z =>
    obtain ⟨rfl, rfl⟩ := hs
    walk_at "pick"
    obtain ⟨k1, k2⟩ := begin_after J hS k
    exact ⟨p, pw, b, a, x, y, z, rfl, J, k1, k2⟩
  | load d =>
    obtain ⟨rfl, rfl⟩ := hs
    obtain rfl := hb (by decide)
    obtain rfl := hS.some
    walk_at "pick"
    exact ⟨p, pw, true, a, d, rfl, J, k.did⟩
  | drive x d =>
    obtain ⟨rfl, rfl⟩ := hs
    obtain rfl := hb (by decide)
    obtain rfl := hS.some
    walk_at "pick"
    exact ⟨p, pw, true, a, x, d, rfl, J, k.did⟩
  | less =>
    obtain ⟨rfl, rfl⟩ := hs
    obtain rfl := hb (by decide)
    obtain rfl := hS.some
    walk_at "pick"
    exact ⟨p, pw, true, a, rfl, J, k.did⟩
  | lorries n =>
    obtain ⟨rfl, rfl⟩ := hs
    obtain rfl := hb (by decide)
    obtain rfl := hS.some
    walk_at "pick"
    exact ⟨p, pw, true, a, n, rfl, J, k.did⟩
  | filling n =>
    obtain ⟨rfl, rfl⟩ := hs
    obtain rfl := hb (by decide)
    obtain rfl := hS.some
    walk_at "pick"
    exact ⟨p, pw, true, a, n, rfl, J, k.did⟩
  | laying n =>
    obtain ⟨rfl, rfl⟩ := hs
    obtain rfl := hb (by decide)
    obtain rfl := hS.some
    walk_at "pick"
    exact ⟨p, pw, true, a, n, rfl, J, k.did⟩
  | keeping n =>
    obtain ⟨rfl, rfl⟩ := hs
    obtain rfl := hb (by decide)
    obtain rfl := hS.some
    walk_at "pick"
    exact ⟨p, pw, true, a, n, rfl, J, k.did⟩
  | _ => exact absurd hs.1 (by omega)
end

section
variable {P : Program} {w : World} {K : PySem.W.Frag} {mg : Str → Option Value} {base : Heap} {C : Addr}
theorem agL_len (a : Abs) (s : Nat) : (agL a s).length = a.n := by
  unfold agL
  rw [List.length_map, List.length_range]
def wtL (a : Abs) (s : Nat) : List Nat := (List.range a.n).map fun k => s + k * a.lay - a.d k - (a.soonest s).getD k 0
theorem wtL_len (a : Abs) (s : Nat) : (wtL a s).length = a.n := by
  unfold wtL
  rw [List.length_map, List.length_range]
theorem has_ifstart (T : Txt K mg C) (U : Top K mg "ifstart" s_ifstart ["job", "paver_start"]) (h_has_plan : Has P w K mg base 3 "has_plan" ["job", "paver_start"] (spHasPlan C)) : Has P w K mg base 4 "ifstart" ["job", "paver_start"] (spLook1 C .ifstart) := by
  refine U.has sc_ifstart (by first | (rintro _ _ _ _ ⟨_, rfl, _⟩; rfl) | (rintro _ _ _ _ ⟨_, _, rfl, _⟩; rfl) | (rintro _ _ _ _ ⟨_, _, _, rfl, _⟩; rfl) | (rintro _ _ _ _ ⟨_, _, _, _, rfl, _⟩; rfl) | (rintro _ _ _ _ ⟨_, _, _, _, _, rfl, _⟩; rfl) | (rintro _ _ _ _ ⟨_, _, _, _, _, _, rfl, _⟩; rfl) | (rintro _ _ _ _ ⟨_, _, _, _, _, _, _, rfl, _⟩; rfl) | (rintro _ _ _ _ ⟨_, _, _, _, _, _, _, _, rfl, _⟩; rfl)) (fun f cdv A outer s H vs Q E hr h => ?_)
  obtain ⟨p, pw, b, a, n, rfl, J, q⟩ := h
  have cl := T.c
  have sc := sc_ifstart
  obtain ⟨f1, f2, f3, f4, f5, f6⟩ := J.fit
  refine ⟨_, (pss_cons (ps_if (pt_cmpR op_gt (pv 1) (pe_gi rfl T.c_LAST_START) (nomark _)) (pss_one (ps_ret (pe_lst (pa_cons (pe_gi rfl T.c_OUT_OF_RANGE) pa_nil)))) pss_nil) (pss_one (ps_ret (pe_ifExp (pt_val (pe_callH h_has_plan (hr.mono (by decide)) rfl (pa_cons (pv 0) (pa_cons (pv 1) pa_nil)))) (pe_lst (pa_cons pe_int pa_nil)) (pe_lst (pa_cons pe_int pa_nil)))))), ?_⟩
  walk_at "rd0"
  unfold Look at q
  have e0 : a.does (.ifstart n) = if Kv366.okS n = false then (a, Kv366.say (-22)) else (a, Kv366.say (Kv366.bit (a.could n) : Nat)) := rfl
  rw [e0] at q
  walk_at "rd"
  refine rd_dec (fun e => ?_) (fun e => ?_)
  · walk_at "rd"
    intro l hl
    rw [if_pos (show Kv366.okS n = false from decide_eq_false (by omega))] at q
    exact q _ l (same_new hl) hl upd_same
  · rw [if_neg (show ¬ Kv366.okS n = false by rw [show Kv366.okS n = true from decide_eq_true (by omega)]; decide)] at q
    walk_at "rd"
    refine ⟨p, pw, b, a, n, rfl, J, fun H1 s1 => ?_⟩
    walk_at "rd"
    refine rd_bool (fun e2 => ?_) (fun e2 => ?_)
    · rw [e2] at q
      walk_at "rd"
      intro l hl
      exact q _ l (s1.trans (same_new hl)) (s1.free hl) upd_same
    · rw [e2] at q
      walk_at "rd"
      intro l hl
      exact q _ l (s1.trans (same_new hl)) (s1.free hl) upd_same
theorem has_ages (T : Txt K mg C) (U : Top K mg "ages" s_ages ["job", "paver_start"]) (h_start_refusal : Has P w K mg base 4 "start_refusal" ["job", "paver_start"] (spRef C)) (h_ages_soonest : Has P w K mg base 5 "ages_soonest" ["job", "paver_start"] (spAges C)) : Has P w K mg base 6 "ages" ["job", "paver_start"] (spLook1 C .ages) := by
  refine U.has sc_ages (by first | (rintro _ _ _ _ ⟨_, rfl, _⟩; rfl) | (rintro _ _ _ _ ⟨_, _, rfl, _⟩; rfl) | (rintro _ _ _ _ ⟨_, _, _, rfl, _⟩; rfl) | (rintro _ _ _ _ ⟨_, _, _, _, rfl, _⟩; rfl) | (rintro _ _ _ _ ⟨_, _, _, _, _, rfl, _⟩; rfl) | (rintro _ _ _ _ ⟨_, _, _, _, _, _, rfl, _⟩; rfl) | (rintro _ _ _ _ ⟨_, _, _, _, _, _, _, rfl, _⟩; rfl) | (rintro _ _ _ _ ⟨_, _, _, _, _, _, _, _, rfl, _⟩; rfl)) (fun f cdv A outer s H vs Q E hr h => ?_)
  obtain ⟨p, pw, b, a, n, rfl, J, q⟩ := h
  have cl := T.c
  have sc := sc_ages
  obtain ⟨f1, f2, f3, f4, f5, f6⟩ := J.fit
  refine ⟨_, (pss_cons (ps_set (i := 2) sc.nd rfl (Or.inl rfl) (pe_callH h_start_refusal (hr.mono (by decide)) rfl (pa_cons (pv 0) (pa_cons (pv 1) pa_nil)))) (pss_cons (ps_if (pt_cmpR op_gt (pe_callB call_len_seq rfl T.b_len PySem.boot_len (pa_cons (pv 2) pa_nil)) pe_int (nomark _)) (pss_one (ps_ret (pv 2))) pss_nil) (pss_one (ps_ret (pe_op op_cat (pe_lst (pa_cons (pe_callB call_len_seq rfl T.b_len PySem.boot_len (pa_cons (pe_fld (pv 0) rfl) pa_nil)) pa_nil)) (pe_callH h_ages_soonest (hr.mono (by decide)) rfl (pa_cons (pv 0) (pa_cons (pv 1) pa_nil)))))))), ?_⟩
  walk_at "rd0"
  walk_at "rd"
  refine ⟨p, pw, b, a, n, rfl, J, fun H1 l1 s1 hl1 hl2 => ?_⟩
  have J1 := J.same s1
  unfold Look at q
  have e0 : a.does (.ages n) = if Kv366.okS n = false then (a, Kv366.say (-22)) else if a.could n = false then (a, Kv366.say (-33)) else (a, Kv366.list (agL a n)) := rfl
  rw [e0] at q
  unfold refL at hl2
  walk_at "rd"
  refine rd_dec (fun e => ?_) (fun e => ?_)
  · walk_at "rd"
    by_cases h1 : Kv366.okS n = false
    · rw [if_pos h1] at q hl2
      exact q _ l1 s1 hl1 hl2
    · rw [if_neg h1] at q hl2 e
      by_cases h2 : a.could n = false
      · rw [if_pos h2] at q hl2
        exact q _ l1 s1 hl1 hl2
      · rw [if_neg h2] at e
        exact absurd e (by decide)
  · have h1 : ¬ Kv366.okS n = false := fun h1 => by rw [if_pos h1] at e; exact e (by decide)
    rw [if_neg h1] at e q
    have h2 : ¬ a.could n = false := fun h2 => by rw [if_pos h2] at e; exact e (by decide)
    rw [if_neg h2] at q
    have hc : a.could n = true := by
      cases z : a.could n with
      | true => rfl
      | false => exact absurd z h2
    walk_at "rd"
    intro l3 hl3
    have s3 := s1.trans (same_new (o := .lst [.int (a.n : Nat)]) hl3)
    have g3 : upd H1 l3 (.lst [.int (a.n : Nat)]) l3 = some (.lst [.int (a.n : Nat)]) := upd_same
    walk_at "rd"
    refine ⟨p, pw, b, a, n, rfl, J.same s3, hc, fun H4 l4 s4 hl4 hl5 => ?_⟩
    refine rd_cat (s4 _ _ g3) hl5 (by rw [ivs_len, agL_len]; exact Nat.le_of_lt (small1000 (by simp; omega))) ?_
    intro l hl
    have s5 := s3.trans s4
    refine q _ l (s5.trans (same_new hl)) (s5.free hl) ?_
    rw [upd_same, ans_list, agL_len]
    rfl
theorem has_waits (T : Txt K mg C) (U : Top K mg "waits" s_waits ["job", "paver_start"]) (h_start_refusal : Has P w K mg base 4 "start_refusal" ["job", "paver_start"] (spRef C)) (h_ages_soonest : Has P w K mg base 5 "ages_soonest" ["job", "paver_start"] (spAges C)) : Has P w K mg base 6 "waits" ["job", "paver_start"] (spLook1 C .waits) := by
  refine U.has sc_waits (by first | (rintro _ _ _ _ ⟨_, rfl, _⟩; rfl) | (rintro _ _ _ _ ⟨_, _, rfl, _⟩; rfl) | (rintro _ _ _ _ ⟨_, _, _, rfl, _⟩; rfl) | (rintro _ _ _ _ ⟨_, _, _, _, rfl, _⟩; rfl) | (rintro _ _ _ _ ⟨_, _, _, _, _, rfl, _⟩; rfl) | (rintro _ _ _ _ ⟨_, _, _, _, _, _, rfl, _⟩; rfl) | (rintro _ _ _ _ ⟨_, _, _, _, _, _, _, rfl, _⟩; rfl) | (rintro _ _ _ _ ⟨_, _, _, _, _, _, _, _, rfl, _⟩; rfl)) (fun f cdv A outer s H vs Q E hr h => ?_)
  obtain ⟨p, pw, b, a, n, rfl, J, q⟩ := h
  have cl := T.c
  have sc := sc_waits
  obtain ⟨f1, f2, f3, f4, f5, f6⟩ := J.fit
  refine ⟨_, (pss_cons (ps_set (i := 2) sc.nd rfl (Or.inl rfl) (pe_callH h_start_refusal (hr.mono (by decide)) rfl (pa_cons (pv 0) (pa_cons (pv 1) pa_nil)))) (pss_cons (ps_if (pt_cmpR op_gt (pe_callB call_len_seq rfl T.b_len PySem.boot_len (pa_cons (pv 2) pa_nil)) pe_int (nomark _)) (pss_one (ps_ret (pv 2))) pss_nil) (pss_cons (ps_setLc (i := 3) (own := [("age", 4), ("way", 5)]) (g := (gTup K 2 (gCons (gName 4) (gCons (gName 5) gNil)))) rfl sc.nd rfl rfl (sw_true rfl rfl rfl rfl) (pi_zip rfl T.b_zip (pa_cons (pe_callH h_ages_soonest (hr.mono (by decide)) rfl (pa_cons (pv 0) (pa_cons (pv 1) pa_nil))) (pa_cons (pe_fld (pv 0) rfl) pa_nil))) bk_waits (fun _ _ _ _ _ => (pg_tup rfl (pgs_cons (pg_name (i := 4) sc.nd rfl (Or.inl rfl) (Or.inr rfl)) (pgs_cons (pg_name (i := 5) sc.nd rfl (Or.inl rfl) (Or.inr rfl)) pgs_nil)))) (fun _ _ _ _ _ => pts_nil) (fun _ _ _ _ _ => (pe_op op_sub (pv 4) (pv 5)))) (pss_one (ps_ret (pe_op op_cat (pe_lst (pa_cons (pe_callB call_len_seq rfl T.b_len PySem.boot_len (pa_cons (pe_fld (pv 0) rfl) pa_nil)) pa_nil)) (pv 3))))))), ?_⟩
  walk_at "rd0"
  walk_at "rd"
  refine ⟨p, pw, b, a, n, rfl, J, fun H1 l1 s1 hl1 hl2 => ?_⟩
  have J1 := J.same s1
  unfold Look at q
  have e0 : a.does (.waits n) = if Kv366.okS n = false then (a, Kv366.say (-22)) else if a.could n = false then (a, Kv366.say (-33)) else (a, Kv366.list (wtL a n)) := rfl
  rw [e0] at q
  unfold refL at hl2
  walk_at "rd"
  refine rd_dec (fun e => ?_) (fun e => ?_)
  · walk_at "rd"
    by_cases h1 : Kv366.okS n = false
    · rw [if_pos h1] at q hl2
      exact q _ l1 s1 hl1 hl2
    · rw [if_neg h1] at q hl2 e
      by_cases h2 : a.could n = false
      · rw [if_pos h2] at q hl2
        exact q _ l1 s1 hl1 hl2
      · rw [if_neg h2] at e
        exact absurd e (by decide)
  · have h1 : ¬ Kv366.okS n = false := fun h1 => by rw [if_pos h1] at e; exact e (by decide)
    rw [if_neg h1] at e q
    have h2 : ¬ a.could n = false := fun h2 => by rw [if_pos h2] at e; exact e (by decide)
    rw [if_neg h2] at q
    have hc : a.could n = true := by
      cases z : a.could n with
      | true => rfl
      | false => exact absurd z h2
    walk_at "rd"
    refine ⟨p, pw, b, a, n, rfl, J.same s1, hc, fun H4 l4 s4 hl4 hl5 => ?_⟩
    have s5 := s1.trans s4
    have J4 := J.same s5
    have hw := J4.ws
    walk_at "rd"
    refine lb_zip (n := a.n) (xs := ivs (agL a n)) (ys := ivs a.drives) (by rw [ivs_len, agL_len]) (by rw [ivs_len]; rfl) (fun D i H' => Same H4 H' ∧ H' D = some (.lst (ivs ((List.range i).map fun k => n + k * a.lay - a.d k - (a.soonest n).getD k 0)))) (fun D hD => ⟨same_new hD, upd_same⟩) (fun D i H' hD z => ⟨SqL.of (z.1 _ _ hl5), SqL.of (z.1 _ _ hw)⟩) ?_ ?_
    · rintro D i x y T' H' hD hi hx hy ⟨s6, hD2⟩ hT
      obtain ⟨_, rfl⟩ := ivs_at hy
      have ex : x = .int ((n + i * a.lay - (a.soonest n).getD i 0 : Nat) : Int) := by
        unfold ivs agL at hx
        rw [List.getElem?_map, List.getElem?_map, List.getElem?_range hi] at hx
        exact (Option.some.inj hx).symm
      subst ex
      have s7 := s6.trans (same_new (o := .tup [.int ((n + i * a.lay - (a.soonest n).getD i 0 : Nat) : Int), .int (a.d i : Nat)]) hT)
      refine rd_pair upd_same ?_
      refine rd_lg rfl ?_
      walk_at "rd"
      refine rd_la (by rw [upd_ne (ne_of_none hD2 hT)]; exact hD2) (by rw [ivs_len, List.length_map, List.length_range]; exact small1000 (by omega)) ?_
      refine ⟨same_upd s7 hD, ?_⟩
      rw [upd_same, map_succ, ivs_snoc]
      have th := Mth.there f4 hc hi
      rw [← Mth.soonest_get hi] at th
      rw [show ((n + i * a.lay - (a.soonest n).getD i 0 : Nat) : Int) - (a.d i : Nat) = ((n + i * a.lay - a.d i - (a.soonest n).getD i 0 : Nat) : Int) by omega]
    · rintro D H6 hD ⟨s6, hD2⟩
      have s7 := s5.trans s6
      have J6 := J.same s7
      walk_at "rd"
      intro l3 hl3
      have s8 := s7.trans (same_new (o := .lst [.int (a.n : Nat)]) hl3)
      walk_at "rd"
      refine rd_cat upd_same (same_new hl3 _ _ hD2) (by rw [ivs_len, List.length_map, List.length_range]; exact Nat.le_of_lt (small1000 (by simp; omega))) ?_
      intro l hl
      refine q _ l (s8.trans (same_new hl)) (s8.free hl) ?_
      rw [upd_same, ans_list, wtL_len]
      rfl
theorem has_ends (T : Txt K mg C) (U : Top K mg "ends" s_ends ["job", "paver_start"]) (h_start_refusal : Has P w K mg base 4 "start_refusal" ["job", "paver_start"] (spRef C)) (h_begun_at : Has P w K mg base 1 "begun_at" ["job", "paver_start", "k"] (spBegun C)) : Has P w K mg base 5 "ends" ["job", "paver_start"] (spLook1 C .ends) := by
  refine U.has sc_ends (by first | (rintro _ _ _ _ ⟨_, rfl, _⟩; rfl) | (rintro _ _ _ _ ⟨_, _, rfl, _⟩; rfl) | (rintro _ _ _ _ ⟨_, _, _, rfl, _⟩; rfl) | (rintro _ _ _ _ ⟨_, _, _, _, rfl, _⟩; rfl) | (rintro _ _ _ _ ⟨_, _, _, _, _, rfl, _⟩; rfl) | (rintro _ _ _ _ ⟨_, _, _, _, _, _, rfl, _⟩; rfl) | (rintro _ _ _ _ ⟨_, _, _, _, _, _, _, rfl, _⟩; rfl) | (rintro _ _ _ _ ⟨_, _, _, _, _, _, _, _, rfl, _⟩; rfl)) (fun f cdv A outer s H vs Q E hr h => ?_)
  obtain ⟨p, pw, b, a, n, rfl, J, q⟩ := h
  have cl := T.c
  have sc := sc_ends
  obtain ⟨f1, f2, f3, f4, f5, f6⟩ := J.fit
  refine ⟨_, (pss_cons (ps_set (i := 2) sc.nd rfl (Or.inl rfl) (pe_callH h_start_refusal (hr.mono (by decide)) rfl (pa_cons (pv 0) (pa_cons (pv 1) pa_nil)))) (pss_cons (ps_if (pt_cmpR op_gt (pe_callB call_len_seq rfl T.b_len PySem.boot_len (pa_cons (pv 2) pa_nil)) pe_int (nomark _)) (pss_one (ps_ret (pv 2))) pss_nil) (pss_one (ps_ret (pe_lst (pa_cons (pe_callH h_begun_at (hr.mono (by decide)) rfl (pa_cons (pv 0) (pa_cons (pv 1) (pa_cons (pe_callB call_len_seq rfl T.b_len PySem.boot_len (pa_cons (pe_fld (pv 0) rfl) pa_nil)) pa_nil)))) pa_nil)))))), ?_⟩
  walk_at "rd0"
  walk_at "rd"
  refine ⟨p, pw, b, a, n, rfl, J, fun H1 l1 s1 hl1 hl2 => ?_⟩
  have J1 := J.same s1
  unfold Look at q
  have e0 : a.does (.ends n) = if Kv366.okS n = false then (a, Kv366.say (-22)) else if a.could n = false then (a, Kv366.say (-33)) else (a, Kv366.say (n + a.n * a.lay : Nat)) := rfl
  rw [e0] at q
  unfold refL at hl2
  walk_at "rd"
  refine rd_dec (fun e => ?_) (fun e => ?_)
  · walk_at "rd"
    by_cases h1 : Kv366.okS n = false
    · rw [if_pos h1] at q hl2
      exact q _ l1 s1 hl1 hl2
    · rw [if_neg h1] at q hl2 e
      by_cases h2 : a.could n = false
      · rw [if_pos h2] at q hl2
        exact q _ l1 s1 hl1 hl2
      · rw [if_neg h2] at e
        exact absurd e (by decide)
  · have h1 : ¬ Kv366.okS n = false := fun h1 => by rw [if_pos h1] at e; exact e (by decide)
    rw [if_neg h1] at e q
    have h2 : ¬ a.could n = false := fun h2 => by rw [if_pos h2] at e; exact e (by decide)
    rw [if_neg h2] at q
    have hc : a.could n = true := by
      cases z : a.could n with
      | true => rfl
      | false => exact absurd z h2
    walk_at "rd"
    refine ⟨p, pw, b, a, _, _, rfl, J1, ?_⟩
    walk_at "rd"
    intro l hl
    refine q _ l (s1.trans (same_new hl)) (s1.free hl) ?_
    rw [upd_same, ans_say]
    rfl
def spTry (C : Addr) : Sp := fun vs H Q _ => ∃ (p pw : Addr) (b : Bool) (a : Abs) (n : Nat) (t : Addr) (row : List Nat), vs = [.ref p, .int (n : Nat), .ref t] ∧ JobAt C H p pw b a ∧ H t = some (.lst (ivs row)) ∧ Look H Q a (.try_ n row)
theorem has_tried (T : Txt K mg C) (U : Top K mg "tried" s_tried ["job", "paver_start", "row"]) (h_is_plan : Has P w K mg base 4 "is_plan" ["job", "paver_start", "filled"] (spIsPlan C)) : Has P w K mg base 5 "tried" ["job", "paver_start", "row"] (spTry C) := by
  refine U.has sc_tried (by first | (rintro _ _ _ _ ⟨_, rfl, _⟩; rfl) | (rintro _ _ _ _ ⟨_, _, rfl, _⟩; rfl) | (rintro _ _ _ _ ⟨_, _, _, rfl, _⟩; rfl) | (rintro _ _ _ _ ⟨_, _, _, _, rfl, _⟩; rfl) | (rintro _ _ _ _ ⟨_, _, _, _, _, rfl, _⟩; rfl) | (rintro _ _ _ _ ⟨_, _, _, _, _, _, rfl, _⟩; rfl) | (rintro _ _ _ _ ⟨_, _, _, _, _, _, _, rfl, _⟩; rfl) | (rintro _ _ _ _ ⟨_, _, _, _, _, _, _, _, rfl, _⟩; rfl)) (fun f cdv A outer s H vs Q E hr h => ?_)
  obtain ⟨p, pw, b, a, n, t, row, rfl, J, ht, q⟩ := h
  have cl := T.c
  have sc := sc_tried
  obtain ⟨f1, f2, f3, f4, f5, f6⟩ := J.fit
  refine ⟨_, (pss_cons (ps_if (PW.pt (pw_or (pt_cmpR op_gt (pv 1) (pe_gi rfl T.c_LAST_START) (nomark _)) (pw_or1 (pt_cmpR op_ne (pe_callB call_len_seq rfl T.b_len PySem.boot_len (pa_cons (pv 2) pa_nil)) (pe_callB call_len_seq rfl T.b_len PySem.boot_len (pa_cons (pe_fld (pv 0) rfl) pa_nil)) (nomark _))))) (pss_one (ps_ret (pe_lst (pa_cons (pe_gi rfl T.c_OUT_OF_RANGE) pa_nil)))) pss_nil) (pss_one (ps_ret (pe_ifExp (pt_val (pe_callH h_is_plan (hr.mono (by decide)) rfl (pa_cons (pv 0) (pa_cons (pv 1) (pa_cons (pv 2) pa_nil))))) (pe_lst (pa_cons pe_int pa_nil)) (pe_lst (pa_cons pe_int pa_nil)))))), ?_⟩
  walk_at "rd0"
  unfold Look at q
  have e0 : a.does (.try_ n row) = if Kv366.okS n = false ∨ row.length ≠ a.n then (a, Kv366.say (-22)) else (a, Kv366.say (Kv366.bit (a.ok n row) : Nat)) := rfl
  rw [e0] at q
  walk_at "rd"
  refine rd_dec (fun e => ?_) (fun e => ?_)
  · walk_at "rd"
    intro l hl
    rw [if_pos (.inl (show Kv366.okS n = false from decide_eq_false (by omega)))] at q
    exact q _ l (same_new hl) hl upd_same
  · walk_at "rd"
    refine rd_ndec (fun e2 => ?_) (fun e2 => ?_)
    · walk_at "rd"
      intro l hl
      rw [if_pos (.inr (by rw [ivs_len] at e2; omega))] at q
      exact q _ l (same_new hl) hl upd_same
    · have e3 : row.length = a.n := by rw [ivs_len] at e2; omega
      rw [if_neg (show ¬ (Kv366.okS n = false ∨ row.length ≠ a.n) from fun z => by
        rcases z with z | z
        · rw [show Kv366.okS n = true from decide_eq_true (by omega)] at z
          cases z
        · exact z e3)] at q
      walk_at "rd"
      refine ⟨p, pw, b, a, n, t, row, rfl, J, ht, e3, fun H1 s1 => ?_⟩
      walk_at "rd"
      refine rd_bool (fun e2 => ?_) (fun e2 => ?_)
      · rw [e2] at q
        walk_at "rd"
        intro l hl
        exact q _ l (s1.trans (same_new hl)) (s1.free hl) upd_same
      · rw [e2] at q
        walk_at "rd"
        intro l hl
        exact q _ l (s1.trans (same_new hl)) (s1.free hl) upd_same
end

section
variable {P : Program} {w : World} {K : PySem.W.Frag} {mg : Str → Option Value} {base : Heap} {C : Addr}
/-! ### a copy of the job -/
theorem same_st {H H1 H2 : Hp} {x : Addr} (s : Same H H1) (hx : H x = none) (g : ∀ c, c ≠ x → H2 c = H1 c) : Same H H2 := fun c o e => by
  rw [g c (ne_of_none e hx)]
  exact s c o e
def spCopy (C : Addr) : Sp := fun vs H Q _ => ∃ (p pw : Addr) (b : Bool) (a : Abs), vs = [.ref p] ∧ JobAt C H p pw b a ∧ ∀ (H' : Hp) (x xw : Addr), Same H H' → H x = none → H xw = none → JobAt C H' x xw b a → Q (.ref x) H'
theorem has_copy_of (T : Txt K mg C) (U : Top K mg "copy_of" s_copy_of ["job"]) (h_Job : HasC P w K mg base 1 "Job" C (spInit C)) : Has P w K mg base 3 "copy_of" ["job"] (spCopy C) := by
  refine U.has sc_copy_of (by first | (rintro _ _ _ _ ⟨_, rfl, _⟩; rfl) | (rintro _ _ _ _ ⟨_, _, rfl, _⟩; rfl) | (rintro _ _ _ _ ⟨_, _, _, rfl, _⟩; rfl) | (rintro _ _ _ _ ⟨_, _, _, _, rfl, _⟩; rfl) | (rintro _ _ _ _ ⟨_, _, _, _, _, rfl, _⟩; rfl) | (rintro _ _ _ _ ⟨_, _, _, _, _, _, rfl, _⟩; rfl) | (rintro _ _ _ _ ⟨_, _, _, _, _, _, _, rfl, _⟩; rfl) | (rintro _ _ _ _ ⟨_, _, _, _, _, _, _, _, rfl, _⟩; rfl)) (fun f cdv A outer s H vs Q E hr h => ?_)
  obtain ⟨p, pw, b, a, rfl, J, q⟩ := h
  have cl := T.c
  have sc := sc_copy_of
  obtain ⟨f1, f2, f3, f4, f5, f6⟩ := J.fit
  refine ⟨_, (pss_cons (ps_set (i := 1) sc.nd rfl (Or.inl rfl) (pe_make0H h_Job (hr.mono (by decide)) rfl)) (pss_cons (ps_fld (pv 1) (pe_fld (pv 0) rfl) rfl) (pss_cons (ps_fld (pv 1) (pe_fld (pv 0) rfl) rfl) (pss_cons (ps_fld (pv 1) (pe_fld (pv 0) rfl) rfl) (pss_cons (ps_fld (pv 1) (pe_fld (pv 0) rfl) rfl) (pss_cons (ps_fld (pv 1) (pe_fld (pv 0) rfl) rfl) (pss_cons (ps_fld (pv 1) (pe_callTy call_list_of rfl T.b_list boot_lst (pa_cons (pe_fld (pv 0) rfl) pa_nil)) rfl) (pss_one (ps_ret (pv 1)))))))))), ?_⟩
  walk_at "rd0"
  walk_at "rd"
  intro x dx hx hdx hne
  refine ⟨x, dx, rfl, upd_same, fun H1 xw J1 k1 hxw => ⟨rfl, ?_⟩⟩
  have s1 : Same H H1 := Same.made hx hdx k1
  have Jp1 := J.same s1
  walk_at "rd"
  refine sf_begun cl J1 fun H2 J2 o2 g2 => ?_
  have s2 := same_st s1 hx g2
  have Jp2 := J.same s2
  walk_at "rd"
  refine sf_fill cl J2 f1 fun H3 J3 o3 g3 => ?_
  have s3 := same_st s2 hx g3
  have Jp3 := J.same s3
  walk_at "rd"
  refine sf_lay cl J3 f2 fun H4 J4 o4 g4 => ?_
  have s4 := same_st s3 hx g4
  have Jp4 := J.same s4
  walk_at "rd"
  refine sf_keep cl J4 f3 fun H5 J5 o5 g5 => ?_
  have s5 := same_st s4 hx g5
  have Jp5 := J.same s5
  walk_at "rd"
  refine sf_fleet cl J5 f4 f5 fun H6 J6 o6 g6 => ?_
  have s6 := same_st s5 hx g6
  have Jp6 := J.same s6
  have hw := Jp6.ws
  walk_at "rd"
  intro l hl
  have J7 := J6.same (same_new (o := .lst (ivs a.drives)) hl)
  walk_at "rd"
  refine sf_ways (ds := a.drives) cl J7 upd_same f6 fun H8 J8 o8 g8 => ?_
  have s8 := same_st (s6.trans (same_new (o := .lst (ivs a.drives)) hl)) hx g8
  walk_at "rd"
  exact q _ x l s8 hx (s6.free hl) J8
/-! ### how far a number may go -/
theorem one_some {a : Abs} {o : Option Nat} {n : Nat} (h : o = some n) : ans (a.one o).2 = [.int (n : Nat)] := by
  subst h
  rfl
theorem one_none {a : Abs} {o : Option Nat} (h : o = none) : ans (a.one o).2 = [.int (-33)] := by
  subst h
  rfl
theorem has_fewest (T : Txt K mg C) (U : Top K mg "fewest" s_fewest ["job"]) (h_copy_of : Has P w K mg base 3 "copy_of" ["job"] (spCopy C)) (h_can_be : Has P w K mg base 2 "can_be" ["job"] (spCanBe C)) : Has P w K mg base 4 "fewest" ["job"] (spLook0 C .fewest) := by
  refine U.has sc_fewest (by first | (rintro _ _ _ _ ⟨_, rfl, _⟩; rfl) | (rintro _ _ _ _ ⟨_, _, rfl, _⟩; rfl) | (rintro _ _ _ _ ⟨_, _, _, rfl, _⟩; rfl) | (rintro _ _ _ _ ⟨_, _, _, _, rfl, _⟩; rfl) | (rintro _ _ _ _ ⟨_, _, _, _, _, rfl, _⟩; rfl) | (rintro _ _ _ _ ⟨_, _, _, _, _, _, rfl, _⟩; rfl) | (rintro _ _ _ _ ⟨_, _, _, _, _, _, _, rfl, _⟩; rfl) | (rintro _ _ _ _ ⟨_, _, _, _, _, _, _, _, rfl, _⟩; rfl)) (fun f cdv A outer s H vs Q E hr h => ?_)
  obtain ⟨p, pw, b, a, rfl, J, q⟩ := h
  have cl := T.c
  have sc := sc_fewest
  obtain ⟨f1, f2, f3, f4, f5, f6⟩ := J.fit
  refine ⟨_, (pss_cons (ps_set (i := 1) sc.nd rfl (Or.inl rfl) (pe_callH h_copy_of (hr.mono (by decide)) rfl (pa_cons (pv 0) pa_nil))) (pss_cons (ps_for PassesOwn.never rfl (pi_range2 rfl T.b_range (pa_cons pe_int (pa_cons (pe_op op_add (pe_gi rfl T.c_MOST_LORRIES) pe_int) pa_nil))) (pg_name (i := 2) sc.nd rfl (Or.inl rfl) (Or.inr rfl)) (pss_cons (ps_fld (pv 1) (pv 2) rfl) (pss_one (ps_if (pt_val (pe_callH h_can_be (hr.mono (by decide)) rfl (pa_cons (pv 1) pa_nil))) (pss_one (ps_ret (pe_lst (pa_cons (pv 2) pa_nil)))) pss_nil)))) (pss_one (ps_ret (pe_lst (pa_cons (pe_gi rfl T.c_IT_CANNOT_BE) pa_nil)))))), ?_⟩
  walk_at "rd0"
  unfold Look at q
  walk_at "rd"
  refine ⟨p, pw, b, a, rfl, J, fun H1 x xw s1 hx hxw J1 => ?_⟩
  walk_at "rd"
  refine rd_rg2 (m := 1) (n := 21) (by decide) (by decide) ?_
  refine fb_rangeN (m := 1) (n := 20) (fun i σ H' => ∃ v2 y, σ = [some (.ref p), some (.ref x), v2] ∧ Same H H' ∧ JobAt C H' x xw b (a.withN y) ∧ ∀ k, 1 ≤ k → k < 1 + i → ((a.withN k)).can = false) ⟨none, a.lorries, rfl, s1, J1, fun k h0 h1 => absurd h1 (by omega)⟩ ?_ ?_
  · rintro i σ H2 hi ⟨v2, y, rfl, s2, J2, hno⟩
    walk_at "rd"
    refine sf_fleet cl J2 (by omega) (by omega) fun H3 J3 o3 g3 => ?_
    have s3 := same_st s2 hx g3
    walk_at "rd"
    refine ⟨x, xw, b, _, rfl, J3, fun H4 s4 => ?_⟩
    have s5 := s3.trans s4
    walk_at "rd"
    refine rd_bool (fun e => ?_) (fun e => ?_)
    · walk_at "rd"
      intro l hl
      refine q _ l (s5.trans (same_new hl)) (s5.free hl) ?_
      rw [upd_same]
      refine congrArg (fun z => some (HO.lst z)) (Eq.symm (one_some ?_))
      refine Mth.find_some (i := 1 + i) (by omega) ?_ fun j hj => ?_
      · rw [decide_eq_true (by omega), Bool.true_and]
        exact e
      · by_cases hj1 : 1 ≤ j
        · rw [decide_eq_true hj1, Bool.true_and]
          exact hno j hj1 hj
        · rw [decide_eq_false hj1, Bool.false_and]
    · walk_at "rd"
      refine ⟨_, _, rfl, s5, J3.same s4, fun k h0 h1 => ?_⟩
      by_cases hk : k = 1 + i
      · subst hk
        exact e
      · exact hno k h0 (by omega)
  · rintro σ H2 ⟨v2, y, rfl, s2, J2, hno⟩
    walk_at "rd"
    intro l hl
    refine q _ l (s2.trans (same_new hl)) (s2.free hl) ?_
    rw [upd_same]
    refine congrArg (fun z => some (HO.lst z)) (Eq.symm (one_none ?_))
    refine Mth.find_none fun j hj => ?_
    by_cases hj1 : 1 ≤ j
    · rw [decide_eq_true hj1, Bool.true_and]
      exact hno j hj1 (by omega)
    · rw [decide_eq_false hj1, Bool.false_and]
theorem has_leastlay (T : Txt K mg C) (U : Top K mg "leastlay" s_leastlay ["job"]) (h_copy_of : Has P w K mg base 3 "copy_of" ["job"] (spCopy C)) (h_can_be : Has P w K mg base 2 "can_be" ["job"] (spCanBe C)) : Has P w K mg base 4 "leastlay" ["job"] (spLook0 C .leastlay) := by
  refine U.has sc_leastlay (by first | (rintro _ _ _ _ ⟨_, rfl, _⟩; rfl) | (rintro _ _ _ _ ⟨_, _, rfl, _⟩; rfl) | (rintro _ _ _ _ ⟨_, _, _, rfl, _⟩; rfl) | (rintro _ _ _ _ ⟨_, _, _, _, rfl, _⟩; rfl) | (rintro _ _ _ _ ⟨_, _, _, _, _, rfl, _⟩; rfl) | (rintro _ _ _ _ ⟨_, _, _, _, _, _, rfl, _⟩; rfl) | (rintro _ _ _ _ ⟨_, _, _, _, _, _, _, rfl, _⟩; rfl) | (rintro _ _ _ _ ⟨_, _, _, _, _, _, _, _, rfl, _⟩; rfl)) (fun f cdv A outer s H vs Q E hr h => ?_)
  obtain ⟨p, pw, b, a, rfl, J, q⟩ := h
  have cl := T.c
  have sc := sc_leastlay
  obtain ⟨f1, f2, f3, f4, f5, f6⟩ := J.fit
  refine ⟨_, (pss_cons (ps_set (i := 1) sc.nd rfl (Or.inl rfl) (pe_callH h_copy_of (hr.mono (by decide)) rfl (pa_cons (pv 0) pa_nil))) (pss_cons (ps_for PassesOwn.never rfl (pi_range2 rfl T.b_range (pa_cons pe_int (pa_cons (pe_op op_add (pe_gi rfl T.c_MOST_WORK) pe_int) pa_nil))) (pg_name (i := 2) sc.nd rfl (Or.inl rfl) (Or.inr rfl)) (pss_cons (ps_fld (pv 1) (pv 2) rfl) (pss_one (ps_if (pt_val (pe_callH h_can_be (hr.mono (by decide)) rfl (pa_cons (pv 1) pa_nil))) (pss_one (ps_ret (pe_lst (pa_cons (pv 2) pa_nil)))) pss_nil)))) (pss_one (ps_ret (pe_lst (pa_cons (pe_gi rfl T.c_IT_CANNOT_BE) pa_nil)))))), ?_⟩
  walk_at "rd0"
  unfold Look at q
  walk_at "rd"
  refine ⟨p, pw, b, a, rfl, J, fun H1 x xw s1 hx hxw J1 => ?_⟩
  walk_at "rd"
  refine rd_rg2 (m := 1) (n := 61) (by decide) (by decide) ?_
  refine fb_rangeN (m := 1) (n := 60) (fun i σ H' => ∃ v2 y, σ = [some (.ref p), some (.ref x), v2] ∧ Same H H' ∧ JobAt C H' x xw b ({ a with lay := y } : Abs) ∧ ∀ k, 1 ≤ k → k < 1 + i → (({ a with lay := k } : Abs)).can = false) ⟨none, a.lay, rfl, s1, J1, fun k h0 h1 => absurd h1 (by omega)⟩ ?_ ?_
  · rintro i σ H2 hi ⟨v2, y, rfl, s2, J2, hno⟩
    walk_at "rd"
    refine sf_lay cl J2 (by omega) fun H3 J3 o3 g3 => ?_
    have s3 := same_st s2 hx g3
    walk_at "rd"
    refine ⟨x, xw, b, _, rfl, J3, fun H4 s4 => ?_⟩
    have s5 := s3.trans s4
    walk_at "rd"
    refine rd_bool (fun e => ?_) (fun e => ?_)
    · walk_at "rd"
      intro l hl
      refine q _ l (s5.trans (same_new hl)) (s5.free hl) ?_
      rw [upd_same]
      refine congrArg (fun z => some (HO.lst z)) (Eq.symm (one_some ?_))
      refine Mth.find_some (i := 1 + i) (by omega) ?_ fun j hj => ?_
      · rw [decide_eq_true (by omega), Bool.true_and]
        exact e
      · by_cases hj1 : 1 ≤ j
        · rw [decide_eq_true hj1, Bool.true_and]
          exact hno j hj1 hj
        · rw [decide_eq_false hj1, Bool.false_and]
    · walk_at "rd"
      refine ⟨_, _, rfl, s5, J3.same s4, fun k h0 h1 => ?_⟩
      by_cases hk : k = 1 + i
      · subst hk
        exact e
      · exact hno k h0 (by omega)
  · rintro σ H2 ⟨v2, y, rfl, s2, J2, hno⟩
    walk_at "rd"
    intro l hl
    refine q _ l (s2.trans (same_new hl)) (s2.free hl) ?_
    rw [upd_same]
    refine congrArg (fun z => some (HO.lst z)) (Eq.symm (one_none ?_))
    refine Mth.find_none fun j hj => ?_
    by_cases hj1 : 1 ≤ j
    · rw [decide_eq_true hj1, Bool.true_and]
      exact hno j hj1 (by omega)
    · rw [decide_eq_false hj1, Bool.false_and]
theorem has_leastkeep (T : Txt K mg C) (U : Top K mg "leastkeep" s_leastkeep ["job"]) (h_copy_of : Has P w K mg base 3 "copy_of" ["job"] (spCopy C)) (h_can_be : Has P w K mg base 2 "can_be" ["job"] (spCanBe C)) : Has P w K mg base 4 "leastkeep" ["job"] (spLook0 C .leastkeep) := by
  refine U.has sc_leastkeep (by first | (rintro _ _ _ _ ⟨_, rfl, _⟩; rfl) | (rintro _ _ _ _ ⟨_, _, rfl, _⟩; rfl) | (rintro _ _ _ _ ⟨_, _, _, rfl, _⟩; rfl) | (rintro _ _ _ _ ⟨_, _, _, _, rfl, _⟩; rfl) | (rintro _ _ _ _ ⟨_, _, _, _, _, rfl, _⟩; rfl) | (rintro _ _ _ _ ⟨_, _, _, _, _, _, rfl, _⟩; rfl) | (rintro _ _ _ _ ⟨_, _, _, _, _, _, _, rfl, _⟩; rfl) | (rintro _ _ _ _ ⟨_, _, _, _, _, _, _, _, rfl, _⟩; rfl)) (fun f cdv A outer s H vs Q E hr h => ?_)
  obtain ⟨p, pw, b, a, rfl, J, q⟩ := h
  have cl := T.c
  have sc := sc_leastkeep
  obtain ⟨f1, f2, f3, f4, f5, f6⟩ := J.fit
  refine ⟨_, (pss_cons (ps_set (i := 1) sc.nd rfl (Or.inl rfl) (pe_callH h_copy_of (hr.mono (by decide)) rfl (pa_cons (pv 0) pa_nil))) (pss_cons (ps_for PassesOwn.never rfl (pi_range1 rfl T.b_range (pa_cons (pe_op op_add (pe_gi rfl T.c_MOST_KEEP) pe_int) pa_nil)) (pg_name (i := 2) sc.nd rfl (Or.inl rfl) (Or.inr rfl)) (pss_cons (ps_fld (pv 1) (pv 2) rfl) (pss_one (ps_if (pt_val (pe_callH h_can_be (hr.mono (by decide)) rfl (pa_cons (pv 1) pa_nil))) (pss_one (ps_ret (pe_lst (pa_cons (pv 2) pa_nil)))) pss_nil)))) (pss_one (ps_ret (pe_lst (pa_cons (pe_gi rfl T.c_IT_CANNOT_BE) pa_nil)))))), ?_⟩
  walk_at "rd0"
  unfold Look at q
  walk_at "rd"
  refine ⟨p, pw, b, a, rfl, J, fun H1 x xw s1 hx hxw J1 => ?_⟩
  walk_at "rd"
  refine rd_rg1 (n := 301) (by decide) ?_
  refine fb_range0 (n := 301) (fun i σ H' => ∃ v2 y, σ = [some (.ref p), some (.ref x), v2] ∧ Same H H' ∧ JobAt C H' x xw b ({ a with keep := y } : Abs) ∧ ∀ k, k < i → (({ a with keep := k } : Abs)).can = false) ⟨none, a.keep, rfl, s1, J1, fun k h1 => absurd h1 (by omega)⟩ ?_ ?_
  · rintro i σ H2 hi ⟨v2, y, rfl, s2, J2, hno⟩
    walk_at "rd"
    refine sf_keep cl J2 (by omega) fun H3 J3 o3 g3 => ?_
    have s3 := same_st s2 hx g3
    walk_at "rd"
    refine ⟨x, xw, b, _, rfl, J3, fun H4 s4 => ?_⟩
    have s5 := s3.trans s4
    walk_at "rd"
    refine rd_bool (fun e => ?_) (fun e => ?_)
    · walk_at "rd"
      intro l hl
      refine q _ l (s5.trans (same_new hl)) (s5.free hl) ?_
      rw [upd_same]
      refine congrArg (fun z => some (HO.lst z)) (Eq.symm (one_some ?_))
      refine Mth.find_some (i := i) (by omega) e fun j hj => hno j hj
    · walk_at "rd"
      refine ⟨_, _, rfl, s5, J3.same s4, fun k h1 => ?_⟩
      by_cases hk : k = i
      · subst hk
        exact e
      · exact hno k (by omega)
  · rintro σ H2 ⟨v2, y, rfl, s2, J2, hno⟩
    walk_at "rd"
    intro l hl
    refine q _ l (s2.trans (same_new hl)) (s2.free hl) ?_
    rw [upd_same]
    refine congrArg (fun z => some (HO.lst z)) (Eq.symm (one_none ?_))
    exact Mth.find_none fun j hj => hno j hj
theorem has_mostfill (T : Txt K mg C) (U : Top K mg "mostfill" s_mostfill ["job"]) (h_copy_of : Has P w K mg base 3 "copy_of" ["job"] (spCopy C)) (h_can_be : Has P w K mg base 2 "can_be" ["job"] (spCanBe C)) : Has P w K mg base 4 "mostfill" ["job"] (spLook0 C .mostfill) := by
  refine U.has sc_mostfill (by first | (rintro _ _ _ _ ⟨_, rfl, _⟩; rfl) | (rintro _ _ _ _ ⟨_, _, rfl, _⟩; rfl) | (rintro _ _ _ _ ⟨_, _, _, rfl, _⟩; rfl) | (rintro _ _ _ _ ⟨_, _, _, _, rfl, _⟩; rfl) | (rintro _ _ _ _ ⟨_, _, _, _, _, rfl, _⟩; rfl) | (rintro _ _ _ _ ⟨_, _, _, _, _, _, rfl, _⟩; rfl) | (rintro _ _ _ _ ⟨_, _, _, _, _, _, _, rfl, _⟩; rfl) | (rintro _ _ _ _ ⟨_, _, _, _, _, _, _, _, rfl, _⟩; rfl)) (fun f cdv A outer s H vs Q E hr h => ?_)
  obtain ⟨p, pw, b, a, rfl, J, q⟩ := h
  have cl := T.c
  have sc := sc_mostfill
  obtain ⟨f1, f2, f3, f4, f5, f6⟩ := J.fit
  refine ⟨_, (pss_cons (ps_set (i := 1) sc.nd rfl (Or.inl rfl) (pe_callH h_copy_of (hr.mono (by decide)) rfl (pa_cons (pv 0) pa_nil))) (pss_cons (ps_for PassesOwn.never rfl (pi_range3 rfl T.b_range (pa_cons (pe_gi rfl T.c_MOST_WORK) (pa_cons pe_int (pa_cons (pe_un un_neg pe_int) pa_nil)))) (pg_name (i := 2) sc.nd rfl (Or.inl rfl) (Or.inr rfl)) (pss_cons (ps_fld (pv 1) (pv 2) rfl) (pss_one (ps_if (pt_val (pe_callH h_can_be (hr.mono (by decide)) rfl (pa_cons (pv 1) pa_nil))) (pss_one (ps_ret (pe_lst (pa_cons (pv 2) pa_nil)))) pss_nil)))) (pss_one (ps_ret (pe_lst (pa_cons (pe_gi rfl T.c_IT_CANNOT_BE) pa_nil)))))), ?_⟩
  walk_at "rd0"
  unfold Look at q
  walk_at "rd"
  refine ⟨p, pw, b, a, rfl, J, fun H1 x xw s1 hx hxw J1 => ?_⟩
  walk_at "rd"
  refine rd_rgd0 (n := 60) (by decide) ?_
  refine fb_down0 (n := 60) (fun i σ H' => ∃ v2 y, σ = [some (.ref p), some (.ref x), v2] ∧ Same H H' ∧ JobAt C H' x xw b ({ a with fill := y } : Abs) ∧ ∀ k, 60 - i < k → k < 61 → (({ a with fill := k } : Abs)).can = false) ⟨none, a.fill, rfl, s1, J1, fun k h0 h1 => absurd h1 (by omega)⟩ ?_ ?_
  · rintro i σ H2 hi ⟨v2, y, rfl, s2, J2, hno⟩
    walk_at "rd"
    refine sf_fill cl J2 (by omega) fun H3 J3 o3 g3 => ?_
    have s3 := same_st s2 hx g3
    walk_at "rd"
    refine ⟨x, xw, b, _, rfl, J3, fun H4 s4 => ?_⟩
    have s5 := s3.trans s4
    walk_at "rd"
    refine rd_bool (fun e => ?_) (fun e => ?_)
    · walk_at "rd"
      intro l hl
      refine q _ l (s5.trans (same_new hl)) (s5.free hl) ?_
      rw [upd_same]
      refine congrArg (fun z => some (HO.lst z)) (Eq.symm (one_some ?_))
      refine Mth.findR_some (i := 60 - i) ?_ (by omega) fun j hj hj2 => ?_
      · rw [decide_eq_true (by omega), Bool.true_and]
        exact e
      · rw [decide_eq_true (by omega), Bool.true_and]
        exact hno j hj hj2
    · walk_at "rd"
      refine ⟨_, _, rfl, s5, J3.same s4, fun k h0 h1 => ?_⟩
      by_cases hk : k = 60 - i
      · subst hk
        exact e
      · exact hno k (by omega) h1
  · rintro σ H2 ⟨v2, y, rfl, s2, J2, hno⟩
    walk_at "rd"
    intro l hl
    refine q _ l (s2.trans (same_new hl)) (s2.free hl) ?_
    rw [upd_same]
    refine congrArg (fun z => some (HO.lst z)) (Eq.symm (one_none ?_))
    refine Mth.findR_none fun j hj => ?_
    by_cases hj1 : 1 ≤ j
    · rw [decide_eq_true hj1, Bool.true_and]
      exact hno j (by omega) hj
    · rw [decide_eq_false hj1, Bool.false_and]
theorem has_spare (T : Txt K mg C) (U : Top K mg "spare" s_spare ["job", "k"]) (h_can_be : Has P w K mg base 2 "can_be" ["job"] (spCanBe C)) (h_copy_of : Has P w K mg base 3 "copy_of" ["job"] (spCopy C)) : Has P w K mg base 4 "spare" ["job", "k"] (spLook1 C .spare) := by
  refine U.has sc_spare (by first | (rintro _ _ _ _ ⟨_, rfl, _⟩; rfl) | (rintro _ _ _ _ ⟨_, _, rfl, _⟩; rfl) | (rintro _ _ _ _ ⟨_, _, _, rfl, _⟩; rfl) | (rintro _ _ _ _ ⟨_, _, _, _, rfl, _⟩; rfl) | (rintro _ _ _ _ ⟨_, _, _, _, _, rfl, _⟩; rfl) | (rintro _ _ _ _ ⟨_, _, _, _, _, _, rfl, _⟩; rfl) | (rintro _ _ _ _ ⟨_, _, _, _, _, _, _, rfl, _⟩; rfl) | (rintro _ _ _ _ ⟨_, _, _, _, _, _, _, _, rfl, _⟩; rfl)) (fun f cdv A outer s H vs Q E hr h => ?_)
  obtain ⟨p, pw, b, a, n, rfl, J, q⟩ := h
  have cl := T.c
  have sc := sc_spare
  obtain ⟨f1, f2, f3, f4, f5, f6⟩ := J.fit
  refine ⟨_, (pss_cons (ps_if (pt_cmpR op_ge (pv 1) (pe_callB call_len_seq rfl T.b_len PySem.boot_len (pa_cons (pe_fld (pv 0) rfl) pa_nil)) (nomark _)) (pss_one (ps_ret (pe_lst (pa_cons (pe_gi rfl T.c_NONE_SUCH) pa_nil)))) pss_nil) (pss_cons (ps_if (pt_not (pt_val (pe_callH h_can_be (hr.mono (by decide)) rfl (pa_cons (pv 0) pa_nil)))) (pss_one (ps_ret (pe_lst (pa_cons (pe_gi rfl T.c_IT_CANNOT_BE) pa_nil)))) pss_nil) (pss_cons (ps_set (i := 2) sc.nd rfl (Or.inl rfl) (pe_callH h_copy_of (hr.mono (by decide)) rfl (pa_cons (pv 0) pa_nil))) (pss_cons (ps_for PassesOwn.never rfl (pi_range2 rfl T.b_range (pa_cons pe_int (pa_cons (pe_op op_add (pe_gi rfl T.c_MOST_SPARE) pe_int) pa_nil))) (pg_name (i := 3) sc.nd rfl (Or.inl rfl) (Or.inr rfl)) (pss_cons (ps_asg (pe_op op_add (pe_ix ix_list (pe_fld (pv 0) rfl) (pv 1) (fun _ _ => rfl)) (pv 3)) (pg_sub (pe_fld (pv 2) rfl) (pv 1) set_list)) (pss_one (ps_if (pt_not (pt_val (pe_callH h_can_be (hr.mono (by decide)) rfl (pa_cons (pv 2) pa_nil)))) (pss_one (ps_ret (pe_lst (pa_cons (pe_op op_sub (pv 3) pe_int) pa_nil)))) pss_nil)))) (pss_one (ps_ret (pe_lst (pa_cons (pe_gi rfl T.c_MOST_SPARE) pa_nil)))))))), ?_⟩
  walk_at "rd0"
  unfold Look at q
  have e0 : a.does (.spare n) = if a.n ≤ n then (a, Kv366.say (-2)) else if a.can = false then (a, Kv366.say (-33)) else (a, Kv366.say (a.spare n : Nat)) := rfl
  rw [e0] at q
  walk_at "rd"
  refine rd_dec (fun e => ?_) (fun e => ?_)
  · walk_at "rd"
    intro l hl
    rw [if_pos (by omega)] at q
    exact q _ l (same_new hl) hl upd_same
  · have hn : n < a.n := by omega
    rw [if_neg (by omega)] at q
    walk_at "rd"
    refine ⟨p, pw, b, a, rfl, J, fun H0 s0 => ?_⟩
    walk_at "rd"
    refine rd_nbool (fun e2 => ?_) (fun e2 => ?_)
    · rw [if_pos e2] at q
      walk_at "rd"
      intro l hl
      exact q _ l (s0.trans (same_new hl)) (s0.free hl) upd_same
    · rw [if_neg (by rw [e2]; decide)] at q
      walk_at "rd"
      refine ⟨p, pw, b, a, rfl, J.same s0, fun H1 x xw s1 hx hxw J1 => ?_⟩
      have hx0 := s0.free hx
      have hxw0 := s0.free hxw
      have s1' := s0.trans s1
      walk_at "rd"
      refine rd_rg2 (m := 1) (n := 301) (by decide) (by decide) ?_
      refine fb_rangeN (m := 1) (n := 300) (fun i σ H' => ∃ v3 y, σ = [some (.ref p), some (.int (n : Nat)), some (.ref x), v3] ∧ Same H H' ∧ JobAt C H' x xw b (a.setD n y) ∧ ∀ k, 1 ≤ k → k < 1 + i → (a.setD n (a.d n + k)).can = true) ⟨none, a.d n, rfl, s1', by rw [Mth.setD_self]; exact J1, fun k h0 h1 => absurd h1 (by omega)⟩ ?_ ?_
      · rintro i σ H2 hi ⟨v3, y, rfl, s2, J2, hyes⟩
        have Jp := J.same s2
        have hlen : (ivs (a.setD n y).drives).length = a.n := by rw [ivs_len]; exact Mth.setD_n a n y
        walk_at "rd"
        refine rd_setL J2.ws (k := n) (by unfold ixN; rw [hlen, if_pos (by omega), if_pos (by omega), Int.toNat_natCast]) ?_
        rw [show (a.d n : Int) + ((1 + i : Nat) : Int) = ((a.d n + (1 + i) : Nat) : Int) by omega, ivs_set]
        obtain ⟨J3, o3⟩ := J2.ways (ds := (a.setD n y).drives.set n (a.d n + (1 + i))) (by rw [List.length_set]; exact J2.fit.n)
        have s3 : Same H (upd H2 xw (.lst (ivs ((a.setD n y).drives.set n (a.d n + (1 + i)))))) := same_upd s2 hxw0
        have J3 : JobAt C _ x xw b ((a.setD n y).setD n (a.d n + (1 + i))) := J3
        rw [Mth.setD_setD] at J3
        walk_at "rd"
        refine ⟨x, xw, b, _, rfl, J3, fun H4 s4 => ?_⟩
        have s5 := s3.trans s4
        walk_at "rd"
        refine rd_nbool (fun e3 => ?_) (fun e3 => ?_)
        · walk_at "rd"
          intro l hl
          refine q _ l (s5.trans (same_new hl)) (s5.free hl) ?_
          rw [upd_same, Mth.spare_is (i := i) (by omega) (fun x h1 h2 => hyes x h1 (by omega)) (.inr (by rw [Nat.add_comm i 1]; exact e3)), ans_say]
          rw [show ((1 + i : Nat) : Int) - 1 = (i : Int) by omega]
        · walk_at "rd"
          refine ⟨_, _, rfl, s5, J3.same s4, fun k h0 h1 => ?_⟩
          by_cases hk : k = 1 + i
          · subst hk
            exact e3
          · exact hyes k h0 (by omega)
      · rintro σ H2 ⟨v3, y, rfl, s2, J2, hyes⟩
        walk_at "rd"
        intro l hl
        refine q _ l (s2.trans (same_new hl)) (s2.free hl) ?_
        rw [upd_same, Mth.spare_is (i := 300) (by decide) (fun x h1 h2 => hyes x h1 (by omega)) (.inl rfl)]
        rfl
end

section
variable {P : Program} {w : World} {K : PySem.W.Frag} {mg : Str → Option Value} {base : Heap} {C : Addr}
/-! ### lists of what was told -/
theorem has_tour (T : Txt K mg C) (U : Top K mg "tour" s_tour ["job", "lorry"]) : Has P w K mg base 1 "tour" ["job", "lorry"] (spLook1 C .tour) := by
  refine U.has sc_tour (by first | (rintro _ _ _ _ ⟨_, rfl, _⟩; rfl) | (rintro _ _ _ _ ⟨_, _, rfl, _⟩; rfl) | (rintro _ _ _ _ ⟨_, _, _, rfl, _⟩; rfl) | (rintro _ _ _ _ ⟨_, _, _, _, rfl, _⟩; rfl) | (rintro _ _ _ _ ⟨_, _, _, _, _, rfl, _⟩; rfl) | (rintro _ _ _ _ ⟨_, _, _, _, _, _, rfl, _⟩; rfl) | (rintro _ _ _ _ ⟨_, _, _, _, _, _, _, rfl, _⟩; rfl) | (rintro _ _ _ _ ⟨_, _, _, _, _, _, _, _, rfl, _⟩; rfl)) (fun f cdv A outer s H vs Q E hr h => ?_)
  obtain ⟨p, pw, b, a, n, rfl, J, q⟩ := h
  have cl := T.c
  have sc := sc_tour
  obtain ⟨f1, f2, f3, f4, f5, f6⟩ := J.fit
  refine ⟨_, (pss_cons (ps_if (pt_cmpR op_ge (pv 1) (pe_fld (pv 0) rfl) (nomark _)) (pss_one (ps_ret (pe_lst (pa_cons (pe_gi rfl T.c_NONE_SUCH) pa_nil)))) pss_nil) (pss_cons (ps_setLc (i := 2) (own := [("k", 3)]) (g := (gName 3)) (tt := (tTest (tOp rEq (tOp (rI (fun _ j => 0 < j) fun i j => .int (i % j)) (tVar 3) (tFld K (tVar 0) "fleet")) (tVar 1)))) rfl sc.nd rfl rfl (sw_true rfl rfl rfl rfl) (pi_range1 rfl T.b_range (pa_cons (pe_callB call_len_seq rfl T.b_len PySem.boot_len (pa_cons (pe_fld (pv 0) rfl) pa_nil)) pa_nil)) bk_tour (fun _ _ _ _ _ => (pg_name (i := 3) sc.nd rfl (Or.inl rfl) (Or.inr rfl))) (fun _ _ _ _ _ => (pts_one (pt_cmpR op_eq (pe_op op_mod (pv 3) (pe_fld (pv 0) rfl)) (pv 1) (nomark _)))) (fun _ _ _ _ _ => (pv 3))) (pss_one (ps_ret (pe_op op_cat (pe_lst (pa_cons (pe_callB call_len_seq rfl T.b_len PySem.boot_len (pa_cons (pv 2) pa_nil)) pa_nil)) (pv 2)))))), ?_⟩
  walk_at "rd0"
  unfold Look at q
  have e0 : a.does (.tour n) = if a.lorries ≤ n then (a, Kv366.say (-2)) else (a, Kv366.list ((List.range a.n).filter fun k => k % a.lorries == n)) := rfl
  rw [e0] at q
  walk_at "rd"
  refine rd_dec (fun e => ?_) (fun e => ?_)
  · walk_at "rd"
    intro l hl
    rw [if_pos (by omega)] at q
    exact q _ l (same_new hl) hl upd_same
  · rw [if_neg (by omega)] at q
    walk_at "rd"
    refine rd_rg1 (by omega) ?_
    refine lb_range (fun D i H' => Same H H' ∧ H' D = some (.lst (ivs ((List.range i).filter fun k => k % a.lorries == n)))) (fun D hD => ⟨same_new hD, upd_same⟩) ?_ ?_
    · rintro D i H1 hD hi ⟨s1, hD1⟩
      have J1 := J.same s1
      walk_at "rd"
      refine rd_lg rfl ?_
      walk_at "rd"
      have em : (i : Int) % (a.lorries : Int) = ((i % a.lorries : Nat) : Int) := (Int.natCast_emod i a.lorries).symm
      have hlen : (ivs ((List.range i).filter fun k => k % a.lorries == n)).length < sizeLine := by
        rw [ivs_len]
        have := List.length_filter_le (fun k => k % a.lorries == n) (List.range i)
        rw [List.length_range] at this
        exact small1000 (by omega)
      refine rd_ltd (fun e2 => ?_) (fun e2 => ?_)
      · walk_at "rd"
        refine rd_la hD1 hlen ⟨same_upd s1 hD, ?_⟩
        rw [upd_same, List.range_succ, List.filter_append, show List.filter (fun k => k % a.lorries == n) [i] = [i] by
          rw [List.filter_cons, if_pos (by rw [beq_iff_eq]; omega)]
          rfl, ivs_snoc]
      · refine ⟨s1, ?_⟩
        rw [hD1, List.range_succ, List.filter_append, show List.filter (fun k => k % a.lorries == n) [i] = [] by
          rw [List.filter_cons, if_neg (by rw [beq_iff_eq]; omega)]
          rfl, List.append_nil]
    · rintro D H1 hD ⟨s1, hD1⟩
      have J1 := J.same s1
      walk_at "rd"
      intro l3 hl3
      have s3 := s1.trans (same_new (o := .lst [.int ((ivs ((List.range a.n).filter fun k => k % a.lorries == n)).length : Nat)]) hl3)
      walk_at "rd"
      refine rd_cat upd_same (same_new hl3 _ _ hD1) (by
        rw [ivs_len]
        have := List.length_filter_le (fun k => k % a.lorries == n) (List.range a.n)
        rw [List.length_range] at this
        exact Nat.le_of_lt (small1000 (by simp; omega))) ?_
      intro l hl
      refine q _ l (s3.trans (same_new hl)) (s3.free hl) ?_
      rw [upd_same, ans_list, ivs_len]
      rfl
theorem has_drives (T : Txt K mg C) (U : Top K mg "drives" s_drives ["job"]) : Has P w K mg base 1 "drives" ["job"] (spLook0 C .drives) := by
  refine U.has sc_drives (by first | (rintro _ _ _ _ ⟨_, rfl, _⟩; rfl) | (rintro _ _ _ _ ⟨_, _, rfl, _⟩; rfl) | (rintro _ _ _ _ ⟨_, _, _, rfl, _⟩; rfl) | (rintro _ _ _ _ ⟨_, _, _, _, rfl, _⟩; rfl) | (rintro _ _ _ _ ⟨_, _, _, _, _, rfl, _⟩; rfl) | (rintro _ _ _ _ ⟨_, _, _, _, _, _, rfl, _⟩; rfl) | (rintro _ _ _ _ ⟨_, _, _, _, _, _, _, rfl, _⟩; rfl) | (rintro _ _ _ _ ⟨_, _, _, _, _, _, _, _, rfl, _⟩; rfl)) (fun f cdv A outer s H vs Q E hr h => ?_)
  obtain ⟨p, pw, b, a, rfl, J, q⟩ := h
  have cl := T.c
  have sc := sc_drives
  obtain ⟨f1, f2, f3, f4, f5, f6⟩ := J.fit
  refine ⟨_, (pss_one (ps_ret (pe_op op_cat (pe_lst (pa_cons (pe_callB call_len_seq rfl T.b_len PySem.boot_len (pa_cons (pe_fld (pv 0) rfl) pa_nil)) pa_nil)) (pe_fld (pv 0) rfl)))), ?_⟩
  walk_at "rd0"
  unfold Look at q
  have e0 : a.does .drives = (a, Kv366.list a.drives) := rfl
  rw [e0] at q
  walk_at "rd"
  intro l3 hl3
  have s3 := same_new (o := .lst [.int (a.n : Nat)]) hl3
  have J3 := J.same s3
  walk_at "rd"
  refine rd_cat upd_same J3.ws (by rw [ivs_len]; exact Nat.le_of_lt (small1000 (by have : a.drives.length ≤ 20 := f6; simp; omega))) ?_
  intro l hl
  refine q _ l (s3.trans (same_new hl)) (s3.free hl) ?_
  rw [upd_same, ans_list]
  rfl
theorem has_state (T : Txt K mg C) (U : Top K mg "state" s_state ["job"]) : Has P w K mg base 1 "state" ["job"] (spLook0 C .state) := by
  refine U.has sc_state (by first | (rintro _ _ _ _ ⟨_, rfl, _⟩; rfl) | (rintro _ _ _ _ ⟨_, _, rfl, _⟩; rfl) | (rintro _ _ _ _ ⟨_, _, _, rfl, _⟩; rfl) | (rintro _ _ _ _ ⟨_, _, _, _, rfl, _⟩; rfl) | (rintro _ _ _ _ ⟨_, _, _, _, _, rfl, _⟩; rfl) | (rintro _ _ _ _ ⟨_, _, _, _, _, _, rfl, _⟩; rfl) | (rintro _ _ _ _ ⟨_, _, _, _, _, _, _, rfl, _⟩; rfl) | (rintro _ _ _ _ ⟨_, _, _, _, _, _, _, _, rfl, _⟩; rfl)) (fun f cdv A outer s H vs Q E hr h => ?_)
  obtain ⟨p, pw, b, a, rfl, J, q⟩ := h
  have cl := T.c
  have sc := sc_state
  refine ⟨_, (pss_one (ps_ret (pe_lst (pa_cons pe_int (pa_cons (pe_fld (pv 0) rfl) (pa_cons (pe_fld (pv 0) rfl) (pa_cons (pe_fld (pv 0) rfl) (pa_cons (pe_fld (pv 0) rfl) (pa_cons (pe_callB call_len_seq rfl T.b_len PySem.boot_len (pa_cons (pe_fld (pv 0) rfl) pa_nil)) pa_nil))))))))), ?_⟩
  walk_at "rd0"
  unfold Look at q
  walk_at "rd"
  intro l hl
  refine q _ l (same_new hl) hl ?_
  rw [upd_same]
  rfl
end

section
variable {P : Program} {w : World} {K : PySem.W.Frag} {mg : Str → Option Value} {base : Heap} {C : Addr}
theorem cut2 (x y : Nat) (row : List Nat) : cutV (ivs (x :: y :: row)) (some 2) none = ivs row := by
  unfold cutV
  rw [show (some (2 : Int)) = some ((2 : Nat) : Int) from rfl, HT.sIx_nat, HT.sIx_none, ivs_len, Nat.min_eq_left (by simp)]
  unfold ivs
  show ((row.map _).take _) = _
  rw [List.take_of_length_le (by simp)]
theorem has_looking_answer (T : Txt K mg C) (U : Top K mg "looking_answer" s_looking_answer ["job", "call", "told"]) (h_can : Has P w K mg base 3 "can" ["job"] (spLook0 C .can)) (h_why : Has P w K mg base 3 "why" ["job"] (spLook0 C .why)) (h_start : Has P w K mg base 3 "start" ["job"] (spLook0 C .start)) (h_soonest : Has P w K mg base 5 "soonest" ["job", "paver_start"] (spLook1 C .soonest)) (h_latest : Has P w K mg base 5 "latest" ["job", "paver_start"] (spLook1 C .latest)) (h_ages : Has P w K mg base 6 "ages" ["job", "paver_start"] (spLook1 C .ages)) (h_waits : Has P w K mg base 6 "waits" ["job", "paver_start"] (spLook1 C .waits)) (h_ifstart : Has P w K mg base 4 "ifstart" ["job", "paver_start"] (spLook1 C .ifstart)) (h_ends : Has P w K mg base 5 "ends" ["job", "paver_start"] (spLook1 C .ends)) (h_tried : Has P w K mg base 5 "tried" ["job", "paver_start", "row"] (spTry C)) : Has P w K mg base 7 "looking_answer" ["job", "call", "told"] (spLooking C 8 17) := by
  refine U.has sc_looking_answer (by first | (rintro _ _ _ _ ⟨_, rfl, _⟩; rfl) | (rintro _ _ _ _ ⟨_, _, rfl, _⟩; rfl) | (rintro _ _ _ _ ⟨_, _, _, rfl, _⟩; rfl) | (rintro _ _ _ _ ⟨_, _, _, _, rfl, _⟩; rfl) | (rintro _ _ _ _ ⟨_, _, _, _, _, rfl, _⟩; rfl) | (rintro _ _ _ _ ⟨_, _, _, _, _, _, rfl, _⟩; rfl) | (rintro _ _ _ _ ⟨_, _, _, _, _, _, _, rfl, _⟩; rfl) | (rintro _ _ _ _ ⟨_, _, _, _, _, _, _, _, rfl, _⟩; rfl)) (fun f cdv A outer s H vs Q E hr h => ?_)
  obtain ⟨p, pw, a, q, t, told, kc, rfl, J, ht, hs, hq, hq2, k⟩ := h
  have cl := T.c
  have sc := sc_looking_answer
  refine ⟨_, (pss_cons (ps_if (pt_cmpR op_eq (pv 1) (pe_gi rfl T.c_CAN) (nomark _)) (pss_one (ps_ret (pe_callH h_can (hr.mono (by decide)) rfl (pa_cons (pv 0) pa_nil)))) pss_nil) (pss_cons (ps_if (pt_cmpR op_eq (pv 1) (pe_gi rfl T.c_WHY) (nomark _)) (pss_one (ps_ret (pe_callH h_why (hr.mono (by decide)) rfl (pa_cons (pv 0) pa_nil)))) pss_nil) (pss_cons (ps_if (pt_cmpR op_eq (pv 1) (pe_gi rfl T.c_START) (nomark _)) (pss_one (ps_ret (pe_callH h_start (hr.mono (by decide)) rfl (pa_cons (pv 0) pa_nil)))) pss_nil) (pss_cons (ps_if (pt_cmpR op_eq (pv 1) (pe_gi rfl T.c_SOONEST) (nomark _)) (pss_one (ps_ret (pe_callH h_soonest (hr.mono (by decide)) rfl (pa_cons (pv 0) (pa_cons (pe_ix ix_list (pv 2) pe_int (fun _ _ => rfl)) pa_nil))))) pss_nil) (pss_cons (ps_if (pt_cmpR op_eq (pv 1) (pe_gi rfl T.c_LATEST) (nomark _)) (pss_one (ps_ret (pe_callH h_latest (hr.mono (by decide)) rfl (pa_cons (pv 0) (pa_cons (pe_ix ix_list (pv 2) pe_int (fun _ _ => rfl)) pa_nil))))) pss_nil) (pss_cons (ps_if (pt_cmpR op_eq (pv 1) (pe_gi rfl T.c_AGES) (nomark _)) (pss_one (ps_ret (pe_callH h_ages (hr.mono (by decide)) rfl (pa_cons (pv 0) (pa_cons (pe_ix ix_list (pv 2) pe_int (fun _ _ => rfl)) pa_nil))))) pss_nil) (pss_cons (ps_if (pt_cmpR op_eq (pv 1) (pe_gi rfl T.c_WAITS) (nomark _)) (pss_one (ps_ret (pe_callH h_waits (hr.mono (by decide)) rfl (pa_cons (pv 0) (pa_cons (pe_ix ix_list (pv 2) pe_int (fun _ _ => rfl)) pa_nil))))) pss_nil) (pss_cons (ps_if (pt_cmpR op_eq (pv 1) (pe_gi rfl T.c_IFSTART) (nomark _)) (pss_one (ps_ret (pe_callH h_ifstart (hr.mono (by decide)) rfl (pa_cons (pv 0) (pa_cons (pe_ix ix_list (pv 2) pe_int (fun _ _ => rfl)) pa_nil))))) pss_nil) (pss_cons (ps_if (pt_cmpR op_eq (pv 1) (pe_gi rfl T.c_ENDS) (nomark _)) (pss_one (ps_ret (pe_callH h_ends (hr.mono (by decide)) rfl (pa_cons (pv 0) (pa_cons (pe_ix ix_list (pv 2) pe_int (fun _ _ => rfl)) pa_nil))))) pss_nil) (pss_one (ps_ret (pe_callH h_tried (hr.mono (by decide)) rfl (pa_cons (pv 0) (pa_cons (pe_ix ix_list (pv 2) pe_int (fun _ _ => rfl)) (pa_cons (pe_slice sl_list (pv 2) (po_some pe_int) po_none) pa_nil))))))))))))))), ?_⟩
  walk_at "rd0"
  cases kc with
  | can =>
    obtain ⟨rfl, rfl⟩ := hs
    walk_at "pick"
    exact ⟨p, pw, true, a, rfl, J, k⟩
  | why =>
    obtain ⟨rfl, rfl⟩ := hs
    walk_at "pick"
    exact ⟨p, pw, true, a, rfl, J, k⟩
  | start =>
    obtain ⟨rfl, rfl⟩ := hs
    walk_at "pick"
    exact ⟨p, pw, true, a, rfl, J, k⟩
  | soonest n =>
    obtain ⟨rfl, rfl⟩ := hs
    walk_at "pick"
    exact ⟨p, pw, true, a, n, rfl, J, k⟩
  | latest n =>
    obtain ⟨rfl, rfl⟩ := hs
    walk_at "pick"
    exact ⟨p, pw, true, a, n, rfl, J, k⟩
  | ages n =>
    obtain ⟨rfl, rfl⟩ := hs
    walk_at "pick"
    exact ⟨p, pw, true, a, n, rfl, J, k⟩
  | waits n =>
    obtain ⟨rfl, rfl⟩ := hs
    walk_at "pick"
    exact ⟨p, pw, true, a, n, rfl, J, k⟩
  | ifstart n =>
    obtain ⟨rfl, rfl⟩ := hs
    walk_at "pick"
    exact ⟨p, pw, true, a, n, rfl, J, k⟩
  | ends n =>
    obtain ⟨rfl, rfl⟩ := hs
    walk_at "pick"
    exact ⟨p, pw, true, a, n, rfl, J, k⟩
  | try_ x row =>
    obtain ⟨rfl, rfl⟩ := hs
    walk_at "pick"
    refine rd_ixL ht (show atI (ivs (x :: row.length :: row)) ((0 : Nat) : Int) = some (.int (x : Nat)) from atI_nat rfl) ?_
    walk_at "pick"
    intro t2 ht2
    have s2 := same_new (o := .lst (cutV (ivs (x :: row.length :: row)) (some 2) none)) ht2
    have hrow : upd H t2 (.lst (cutV (ivs (x :: row.length :: row)) (some 2) none)) t2 = some (.lst (ivs row)) := by
      rw [upd_same, cut2]
    exact ⟨p, pw, true, a, x, t2, row, rfl, J.same s2, hrow, fun H' l s3 hl hl' => k H' l (s2.trans s3) (s2.free hl) hl'⟩
  | _ => exact absurd hs.1 (by omega)
theorem has_limits_answer (T : Txt K mg C) (U : Top K mg "limits_answer" s_limits_answer ["job", "call", "told"]) (h_fewest : Has P w K mg base 4 "fewest" ["job"] (spLook0 C .fewest)) (h_leastlay : Has P w K mg base 4 "leastlay" ["job"] (spLook0 C .leastlay)) (h_leastkeep : Has P w K mg base 4 "leastkeep" ["job"] (spLook0 C .leastkeep)) (h_mostfill : Has P w K mg base 4 "mostfill" ["job"] (spLook0 C .mostfill)) (h_spare : Has P w K mg base 4 "spare" ["job", "k"] (spLook1 C .spare)) : Has P w K mg base 5 "limits_answer" ["job", "call", "told"] (spLooking C 18 22) := by
  refine U.has sc_limits_answer (by first | (rintro _ _ _ _ ⟨_, rfl, _⟩; rfl) | (rintro _ _ _ _ ⟨_, _, rfl, _⟩; rfl) | (rintro _ _ _ _ ⟨_, _, _, rfl, _⟩; rfl) | (rintro _ _ _ _ ⟨_, _, _, _, rfl, _⟩; rfl) | (rintro _ _ _ _ ⟨_, _, _, _, _, rfl, _⟩; rfl) | (rintro _ _ _ _ ⟨_, _, _, _, _, _, rfl, _⟩; rfl) | (rintro _ _ _ _ ⟨_, _, _, _, _, _, _, rfl, _⟩; rfl) | (rintro _ _ _ _ ⟨_, _, _, _, _, _, _, _, rfl, _⟩; rfl)) (fun f cdv A outer s H vs Q E hr h => ?_)
  obtain ⟨p, pw, a, q, t, told, kc, rfl, J, ht, hs, hq, hq2, k⟩ := h
  have cl := T.c
  have sc := sc_limits_answer
  refine ⟨_, (pss_cons (ps_if (pt_cmpR op_eq (pv 1) (pe_gi rfl T.c_FEWEST) (nomark _)) (pss_one (ps_ret (pe_callH h_fewest (hr.mono (by decide)) rfl (pa_cons (pv 0) pa_nil)))) pss_nil) (pss_cons (ps_if (pt_cmpR op_eq (pv 1) (pe_gi rfl T.c_LEASTLAY) (nomark _)) (pss_one (ps_ret (pe_callH h_leastlay (hr.mono (by decide)) rfl (pa_cons (pv 0) pa_nil)))) pss_nil) (pss_cons (ps_if (pt_cmpR op_eq (pv 1) (pe_gi rfl T.c_LEASTKEEP) (nomark _)) (pss_one (ps_ret (pe_callH h_leastkeep (hr.mono (by decide)) rfl (pa_cons (pv 0) pa_nil)))) pss_nil) (pss_cons (ps_if (pt_cmpR op_eq (pv 1) (pe_gi rfl T.c_MOSTFILL) (nomark _)) (pss_one (ps_ret (pe_callH h_mostfill (hr.mono (by decide)) rfl (pa_cons (pv 0) pa_nil)))) pss_nil) (pss_one (ps_ret (pe_callH h_spare (hr.mono (by decide)) rfl (pa_cons (pv 0) (pa_cons (pe_ix ix_list (pv 2) pe_int (fun _ _ => rfl)) pa_nil))))))))), ?_⟩
  walk_at "rd0"
  cases kc with
  | fewest =>
    obtain ⟨rfl, rfl⟩ := hs
    walk_at "pick"
    exact ⟨p, pw, true, a, rfl, J, k⟩
  | leastlay =>
    obtain ⟨rfl, rfl⟩ := hs
    walk_at "pick"
    exact ⟨p, pw, true, a, rfl, J, k⟩
  | leastkeep =>
    obtain ⟨rfl, rfl⟩ := hs
    walk_at "pick"
    exact ⟨p, pw, true, a, rfl, J, k⟩
  | mostfill =>
    obtain ⟨rfl, rfl⟩ := hs
    walk_at "pick"
    exact ⟨p, pw, true, a, rfl, J, k⟩
  | spare n =>
    obtain ⟨rfl, rfl⟩ := hs
    walk_at "pick"
    exact ⟨p, pw, true, a, n, rfl, J, k⟩
  | _ => exact absurd hs.1 (by omega)
theorem has_listing_answer (T : Txt K mg C) (U : Top K mg "listing_answer" s_listing_answer ["job", "call", "told"]) (h_tour : Has P w K mg base 1 "tour" ["job", "lorry"] (spLook1 C .tour)) (h_drives : Has P w K mg base 1 "drives" ["job"] (spLook0 C .drives)) (h_state : Has P w K mg base 1 "state" ["job"] (spLook0 C .state)) : Has P w K mg base 2 "listing_answer" ["job", "call", "told"] (spLooking C 23 25) := by
  refine U.has sc_listing_answer (by first | (rintro _ _ _ _ ⟨_, rfl, _⟩; rfl) | (rintro _ _ _ _ ⟨_, _, rfl, _⟩; rfl) | (rintro _ _ _ _ ⟨_, _, _, rfl, _⟩; rfl) | (rintro _ _ _ _ ⟨_, _, _, _, rfl, _⟩; rfl) | (rintro _ _ _ _ ⟨_, _, _, _, _, rfl, _⟩; rfl) | (rintro _ _ _ _ ⟨_, _, _, _, _, _, rfl, _⟩; rfl) | (rintro _ _ _ _ ⟨_, _, _, _, _, _, _, rfl, _⟩; rfl) | (rintro _ _ _ _ ⟨_, _, _, _, _, _, _, _, rfl, _⟩; rfl)) (fun f cdv A outer s H vs Q E hr h => ?_)
  obtain ⟨p, pw, a, q, t, told, kc, rfl, J, ht, hs, hq, hq2, k⟩ := h
  have cl := T.c
  have sc := sc_listing_answer
  refine ⟨_, (pss_cons (ps_if (pt_cmpR op_eq (pv 1) (pe_gi rfl T.c_TOUR) (nomark _)) (pss_one (ps_ret (pe_callH h_tour (hr.mono (by decide)) rfl (pa_cons (pv 0) (pa_cons (pe_ix ix_list (pv 2) pe_int (fun _ _ => rfl)) pa_nil))))) pss_nil) (pss_cons (ps_if (pt_cmpR op_eq (pv 1) (pe_gi rfl T.c_DRIVES) (nomark _)) (pss_one (ps_ret (pe_callH h_drives (hr.mono (by decide)) rfl (pa_cons (pv 0) pa_nil)))) pss_nil) (pss_one (ps_ret (pe_callH h_state (hr.mono (by decide)) rfl (pa_cons (pv 0) pa_nil)))))), ?_⟩
  walk_at "rd0"
  cases kc with
  | tour n =>
    obtain ⟨rfl, rfl⟩ := hs
    walk_at "pick"
    exact ⟨p, pw, true, a, n, rfl, J, k⟩
  | drives =>
    obtain ⟨rfl, rfl⟩ := hs
    walk_at "pick"
    exact ⟨p, pw, true, a, rfl, J, k⟩
  | state =>
    obtain ⟨rfl, rfl⟩ := hs
    walk_at "pick"
    exact ⟨p, pw, true, a, rfl, J, k⟩
  | _ => exact absurd hs.1 (by omega)
end

section
variable {P : Program} {w : World} {K : PySem.W.Frag} {mg : Str → Option Value} {base : Heap} {C : Addr}
def spAnswer (C : Addr) : Sp := fun vs H Q _ => ∃ (p pw : Addr) (b : Bool) (a : Abs) (st : Kv366.State) (q : Nat) (t : Addr) (told : List Nat) (kc : Kv366.Call), vs = [.ref p, .int (q : Nat), .ref t] ∧ JobAt C H p pw b a ∧ StIs st b a ∧ H t = some (.lst (ivs told)) ∧ Mth.Says q told kc ∧ After C H Q p pw st kc
theorem act_none {kc : Kv366.Call} {q : Nat} {told : List Nat} (hs : Mth.Says q told kc) (hq : q ≠ 0) : Kv366.act none kc = (none, Kv366.say (-11)) := by
  cases kc with
  | begin_ f l k => exact absurd hs.1 hq
  | _ => rfl
theorem does_look {kc : Kv366.Call} {q : Nat} {told : List Nat} (a : Abs) (hs : Mth.Says q told kc) (hq : 8 ≤ q) : (a.does kc).1 = a := by
  cases kc with
  | can => rfl
  | why =>
    show (match a.why with
      | none => (a, Kv366.say (-17))
      | some w => (a, ⟨(w.1 : Nat), [w.2.1, w.2.2]⟩) : Abs × Kv366.Ans).1 = a
    cases a.why <;> rfl
  | start =>
    show (if a.can = false then (a, Kv366.say (-33)) else (a, Kv366.say (a.start : Nat))).1 = a
    split <;> rfl
  | soonest s =>
    show (if Kv366.okS s = false then (a, Kv366.say (-22)) else if a.could s = false then (a, Kv366.say (-33)) else (a, Kv366.list _)).1 = a
    split
    · rfl
    · split <;> rfl
  | latest s =>
    show (if Kv366.okS s = false then (a, Kv366.say (-22)) else if a.could s = false then (a, Kv366.say (-33)) else (a, Kv366.list _)).1 = a
    split
    · rfl
    · split <;> rfl
  | ages s =>
    show (if Kv366.okS s = false then (a, Kv366.say (-22)) else if a.could s = false then (a, Kv366.say (-33)) else (a, Kv366.list _)).1 = a
    split
    · rfl
    · split <;> rfl
  | waits s =>
    show (if Kv366.okS s = false then (a, Kv366.say (-22)) else if a.could s = false then (a, Kv366.say (-33)) else (a, Kv366.list _)).1 = a
    split
    · rfl
    · split <;> rfl
  | ifstart s =>
    show (if Kv366.okS s = false then (a, Kv366.say (-22)) else (a, Kv366.say _)).1 = a
    split <;> rfl
  | ends s =>
    show (if Kv366.okS s = false then (a, Kv366.say (-22)) else if a.could s = false then (a, Kv366.say (-33)) else (a, Kv366.say _)).1 = a
    split
    · rfl
    · split <;> rfl
  | try_ s l =>
    show (if Kv366.okS s = false ∨ l.length ≠ a.n then (a, Kv366.say (-22)) else (a, Kv366.say _)).1 = a
    split <;> rfl
  | fewest =>
    show (a.one _).1 = a
    unfold Kv366.Abs.one
    split <;> rfl
  | leastlay =>
    show (a.one _).1 = a
    unfold Kv366.Abs.one
    split <;> rfl
  | leastkeep =>
    show (a.one _).1 = a
    unfold Kv366.Abs.one
    split <;> rfl
  | mostfill =>
    show (a.one _).1 = a
    unfold Kv366.Abs.one
    split <;> rfl
  | spare k =>
    show (if a.n ≤ k then (a, Kv366.say (-2)) else if a.can = false then (a, Kv366.say (-33)) else (a, Kv366.say _)).1 = a
    split
    · rfl
    · split <;> rfl
  | tour i =>
    show (if a.lorries ≤ i then (a, Kv366.say (-2)) else (a, Kv366.list _)).1 = a
    split <;> rfl
  | drives => rfl
  | state => rfl
  | _ => exact absurd hs.1 (by omega)
theorem says_le {kc : Kv366.Call} {q : Nat} {told : List Nat} (hs : Mth.Says q told kc) : q ≤ 25 := by
  cases kc <;> (have := hs.1; omega)
theorem has_answer (T : Txt K mg C) (U : Top K mg "answer" s_answer ["job", "call", "told"]) (h_telling_answer : Has P w K mg base 3 "telling_answer" ["job", "call", "told"] (spTelling C)) (h_looking_answer : Has P w K mg base 7 "looking_answer" ["job", "call", "told"] (spLooking C 8 17))
    (h_limits_answer : Has P w K mg base 5 "limits_answer" ["job", "call", "told"] (spLooking C 18 22)) (h_listing_answer : Has P w K mg base 2 "listing_answer" ["job", "call", "told"] (spLooking C 23 25)) :
    Has P w K mg base 8 "answer" ["job", "call", "told"] (spAnswer C) := by
  refine U.has sc_answer (by rintro _ _ _ _ ⟨_, _, _, _, _, _, _, _, _, rfl, _⟩; rfl) (fun f cdv A outer s H vs Q E hr h => ?_)
  obtain ⟨p, pw, b, a, st, q, t, told, kc, rfl, J, hS, ht, hs, k⟩ := h
  have cl := T.c
  have sc := sc_answer
  refine ⟨_, (pss_cons (ps_if (PW.pt (pw_and (pt_cmpR op_ne (pv 1) (pe_gi rfl T.c_BEGIN) (nomark _)) (pw_and1 (pt_not (pt_val (pe_fld (pv 0) rfl)))))) (pss_one (ps_ret (pe_lst (pa_cons (pe_gi rfl T.c_NOT_BEGUN) pa_nil)))) pss_nil) (pss_cons (ps_if (pt_cmpR op_le (pv 1) (pe_gi rfl T.c_KEEPING) (nomark _)) (pss_one (ps_ret (pe_callH h_telling_answer (hr.mono (by decide)) rfl (pa_cons (pv 0) (pa_cons (pv 1) (pa_cons (pv 2) pa_nil)))))) pss_nil) (pss_cons (ps_if (pt_cmpR op_le (pv 1) (pe_gi rfl T.c_TRIED) (nomark _)) (pss_one (ps_ret (pe_callH h_looking_answer (hr.mono (by decide)) rfl (pa_cons (pv 0) (pa_cons (pv 1) (pa_cons (pv 2) pa_nil)))))) pss_nil) (pss_cons (ps_if (pt_cmpR op_le (pv 1) (pe_gi rfl T.c_SPARE) (nomark _)) (pss_one (ps_ret (pe_callH h_limits_answer (hr.mono (by decide)) rfl (pa_cons (pv 0) (pa_cons (pv 1) (pa_cons (pv 2) pa_nil)))))) pss_nil) (pss_one (ps_ret (pe_callH h_listing_answer (hr.mono (by decide)) rfl (pa_cons (pv 0) (pa_cons (pv 1) (pa_cons (pv 2) pa_nil)))))))))), ?_⟩
  walk_at "rd0"
  walk_at "rd"
  refine rd_ndec (fun e => ?_) (fun e => ?_)
  · walk_at "rd"
    refine rd_nbool (fun hb => ?_) (fun hb => ?_)
    · subst hb
      rcases hS with ⟨z, _⟩ | ⟨_, rfl, rfl⟩
      · cases z
      walk_at "rd"
      intro l hl
      have e2 := act_none hs (by omega)
      refine k _ l pw false _ (J.same (same_new hl)) (.inr ⟨rfl, by rw [e2], rfl⟩) (Oth.of (same_new hl)) (.inl rfl) hl ?_
      rw [upd_same, e2]
      rfl
    · subst hb
      walk_at "rd"
      refine rd_dec (fun e2 => ?_) (fun e2 => ?_)
      · walk_at "rd"
        exact ⟨p, pw, true, a, st, q, t, told, kc, rfl, J, hS, ht, hs, by omega, fun _ => rfl, k⟩
      · walk_at "rd"
        obtain rfl := hS.some
        have hq := says_le hs
        have kl := k.look J (does_look a hs (by omega))
        refine rd_dec (fun e3 => ?_) (fun e3 => ?_)
        · walk_at "rd"
          exact ⟨p, pw, a, q, t, told, kc, rfl, J, ht, hs, by omega, by omega, kl⟩
        · walk_at "rd"
          refine rd_dec (fun e4 => ?_) (fun e4 => ?_)
          · walk_at "rd"
            exact ⟨p, pw, a, q, t, told, kc, rfl, J, ht, hs, by omega, by omega, kl⟩
          · walk_at "rd"
            exact ⟨p, pw, a, q, t, told, kc, rfl, J, ht, hs, by omega, by omega, kl⟩
  · walk_at "rd"
    refine rd_dec (fun e2 => ?_) (fun e2 => ?_)
    · walk_at "rd"
      exact ⟨p, pw, b, a, st, q, t, told, kc, rfl, J, hS, ht, hs, by omega, fun h => absurd (by omega) h, k⟩
    · omega
/-! ### the whole -/
theorem cut_ivs {ns : List Nat} {i e : Nat} (h1 : i ≤ e) (h2 : e ≤ ns.length) : cutV (ivs ns) (some (i : Int)) (some (e : Int)) = ivs ((ns.drop i).take (e - i)) := by
  unfold cutV
  rw [HT.sIx_nat, HT.sIx_nat, ivs_len, Nat.min_eq_left (show i ≤ ns.length by omega), Nat.min_eq_left h2]
  unfold ivs
  rw [List.map_take, List.map_drop]
def spAnswers (K : PySem.W.Frag) : Sp := fun vs H Q _ => ∃ (t : Addr) (ns : List Nat), vs = [.ref t] ∧ SqL K H t (ivs ns) ∧ ns.length ≤ 30000 ∧ PyKv366.answers_asked (Mth.iz ns) = true ∧ ∀ (H' : Hp) (g : Addr), H' g = some (.lst ((PyKv366.answers (Mth.iz ns)).map V.int)) → Q (.ref g) H'
structure Inv1 (C : Addr) (H0 H : Hp) (p g : Addr) (ns : List Nat) (i : Nat) (given : List Int) : Prop where
  same : Same H0 H
  p0 : H0 p = none
  g0 : H0 g = none
  gv : H g = some (.lst (given.map V.int))
  ex : ∃ (pw : Addr) (b : Bool) (a : Abs) (st : Kv366.State) (f : Nat) (cs : List (List (List Int))), H0 pw = none ∧ g ≠ pw ∧ JobAt C H p pw b a ∧ StIs st b a ∧ PyFlat.calls PyKv366.shape f (Mth.iz (ns.drop i)) = some cs ∧
    PyKv366.answers (Mth.iz ns) = given ++ PyFlat.told (PyFlat.played Kv366Neutral.step st cs)
theorem ok_answers {f : Addr} {fd : FuncData} (T : Txt K mg C) (F : Fun K "answers" "answers" s_answers f fd) (h_Job : HasC P w K mg base 1 "Job" C (spInit C)) (h_call_end : Has P w K mg base 1 "call_end" ["calls", "at"] (spEnd K)) (h_answer : Has P w K mg base 8 "answer" ["job", "call", "told"] (spAnswer C)) :
    FnOk P w K mg base CX0 9 f fd ["calls"] (spAnswers K) := by
  refine F.ok sc_answers (by first | (rintro _ _ _ _ ⟨_, rfl, _⟩; rfl) | (rintro _ _ _ _ ⟨_, _, rfl, _⟩; rfl) | (rintro _ _ _ _ ⟨_, _, _, rfl, _⟩; rfl) | (rintro _ _ _ _ ⟨_, _, _, _, rfl, _⟩; rfl) | (rintro _ _ _ _ ⟨_, _, _, _, _, rfl, _⟩; rfl) | (rintro _ _ _ _ ⟨_, _, _, _, _, _, rfl, _⟩; rfl) | (rintro _ _ _ _ ⟨_, _, _, _, _, _, _, rfl, _⟩; rfl) | (rintro _ _ _ _ ⟨_, _, _, _, _, _, _, _, rfl, _⟩; rfl)) (fun cdv A outer s H vs Q E hr h => ?_)
  obtain ⟨t, ns, rfl, hS, hlen, hask, q⟩ := h
  have cl := T.c
  have sc := sc_answers
  obtain ⟨cs0, hcs0, hsh⟩ := Mth.asked_calls hask
  refine ⟨_, (pss_cons (ps_set (i := 1) sc.nd rfl (Or.inl rfl) (pe_make0H h_Job (hr.mono (by decide)) rfl)) (pss_cons (ps_set (i := 2) sc.nd rfl (Or.inl rfl) (pe_lst pa_nil)) (pss_cons (ps_set (i := 3) sc.nd rfl (Or.inl rfl) pe_int) (pss_cons (ps_while PassesOwn.never (pt_cmpR op_lt (pv 3) (pe_callB call_len_seq rfl T.b_len PySem.boot_len (pa_cons (pv 0) pa_nil)) (nomark _)) (pss_cons (ps_set (i := 4) sc.nd rfl (Or.inl rfl) (pe_callH h_call_end (hr.mono (by decide)) rfl (pa_cons (pv 0) (pa_cons (pv 3) pa_nil)))) (pss_cons (ps_set (i := 5) sc.nd rfl (Or.inl rfl) (pe_callH h_answer (hr.mono (by decide)) rfl (pa_cons (pv 1) (pa_cons (pe_ix ix_list (pv 0) (pv 3) (fun _ _ => rfl)) (pa_cons (pe_slice sl_list (pv 0) (po_some (pe_op op_add (pv 3) pe_int)) (po_some (pv 4))) pa_nil))))) (pss_cons (ps_expr (pe_bm PySem.F.plainAttrs_list PySem.F.slot_list_append PySem.F.type_list_append mt_append (pv 2) (pa_cons (pe_callB call_len_seq rfl T.b_len PySem.boot_len (pa_cons (pv 5) pa_nil)) pa_nil))) (pss_cons (ps_expr (pe_bm PySem.F.plainAttrs_list PySem.F.slot_list_extend PySem.F.type_list_extend mt_extend (pv 2) (pa_cons (pv 5) pa_nil))) (pss_one (ps_set (i := 3) sc.nd rfl (Or.inl rfl) (pv 4)))))))) (pss_one (ps_ret (pv 2))))))), ?_⟩
  walk_at "rd0"
  walk_at "rd"
  intro p dx hp hdx hne
  refine ⟨p, dx, rfl, upd_same, fun H1 pw J1 k1 hpw => ⟨rfl, ?_⟩⟩
  have s1 : Same H H1 := Same.made hp hdx k1
  have hpw0 : H pw = none := by
    have n1 : pw ≠ p := fun z => by rw [z, upd_same] at hpw; cases hpw
    rw [upd_ne n1] at hpw
    have n2 : pw ≠ dx := fun z => by rw [z, upd_same] at hpw; cases hpw
    rw [upd_ne n2] at hpw
    exact hpw
  walk_at "rd"
  intro g hg
  have s2 : Same H1 (upd H1 g (.lst [])) := same_new hg
  walk_at "rd"
  refine rd_while (fun m σ H' => ∃ (i : Nat) (v4 v5 : Option V) (given : List Int), m = ns.length - i ∧ i ≤ ns.length ∧ σ = [some (.ref t), some (.ref p), some (.ref g), some (.int (i : Nat)), v4, v5] ∧ Inv1 C H H' p g ns i given) ns.length
    ⟨0, none, none, [], rfl, Nat.zero_le _, rfl, ⟨s1.trans s2, hp, s1.free hg, upd_same, pw, false, _, none, _, cs0, hpw0, fun z => (by rw [z, J1.ws] at hg; cases hg), J1.same s2, .inr ⟨rfl, rfl, rfl⟩, hcs0, Mth.answers_eq hcs0⟩⟩ ?_
  rintro m σ H2 ⟨i, v4, v5, given, rfl, hi, rfl, ⟨sm, hp0, hg0, hgv, pw2, b2, a2, st2, f2, cs2, hpw2, hgp, J2, hSt, hcs, hans⟩⟩
  have hS2 := sm.seq hS
  walk_at "rd"
  refine rd_whq (fun e => ?_) (fun e => ?_)
  · rw [ivs_len] at e
    have hi2 : i < ns.length := by omega
    obtain ⟨f3, qq, en, kc, c, cs3, hq1, hq2, rfl, hkc, hsay, hie, hen, hcs3, hend⟩ := Mth.turn hi2 hcs
    walk_at "rd"
    refine ⟨t, ns, i, qq, en, rfl, hS2, hq1, hq2, hend, ?_⟩
    walk_at "rd"
    refine rd_ixS hS2 (ivs_get hq1) ?_
    walk_at "rd"
    intro tl htl
    rw [show (i : Int) + 1 = ((i + 1 : Nat) : Int) by omega, cut_ivs (by omega) hen]
    have s3 : Same H2 (upd H2 tl (.lst (ivs ((ns.drop (i + 1)).take (en - (i + 1)))))) := same_new htl
    walk_at "rd"
    refine ⟨p, pw2, b2, a2, st2, qq, tl, _, kc, rfl, J2.same s3, hSt, upd_same, hsay, fun H4 l4 pw4 b4 a4 J4 hSt4 o4 hpw4 hl4 hl4' => ?_⟩
    have hgp' : g ≠ p := fun z => by obtain ⟨dx2, e2⟩ := J2.at_; rw [← z, hgv] at e2; cases e2
    have hgv3 := s3 _ _ hgv
    have hgv4 : H4 g = some (.lst (given.map V.int)) := o4 _ _ hgv3 hgp' hgp
    have hl4g : l4 ≠ g := fun z => by rw [z, hgv3] at hl4; cases hl4
    have hstep : Kv366Neutral.step st2 c = ((Kv366.act st2 kc).1, Kv366Neutral.row (Kv366.act st2 kc).2) := by
      unfold Kv366Neutral.step
      rw [hkc]
    rw [Mth.played_cons, hstep, Mth.told_cons] at hans
    have hlens : given.length + 1 + (Kv366Neutral.row (Kv366.act st2 kc).2).length ≤ 10000000 := by
      have z := congrArg List.length hans
      simp only [List.length_append, List.length_cons] at z
      omega
    have hsz : sizeLine = 16777216 := sizeLine_eq
    have hal : (ans (Kv366.act st2 kc).2).length = (Kv366Neutral.row (Kv366.act st2 kc).2).length := List.length_map ..
    walk_at "rd"
    refine rd_app hgv4 (by rw [List.length_map]; omega) ?_
    walk_at "rd"
    refine rd_tyL upd_same ?_
    walk_at "rd"
    refine rd_ext upd_same (by rw [upd_ne hl4g]; exact hl4') (by rw [List.length_append, List.length_map, hal]; simp only [List.length_cons, List.length_nil]; omega) ?_
    walk_at "rd"
    refine ⟨ns.length - en, by omega, en, some (.int (en : Nat)), some (.ref l4), given ++ (((Kv366Neutral.row (Kv366.act st2 kc).2).length : Int) :: Kv366Neutral.row (Kv366.act st2 kc).2), rfl, hen, rfl, ⟨?_, hp0, hg0, ?_, pw4, b4, a4, (Kv366.act st2 kc).1, f3, cs3, ?_, ?_, ?_, hSt4, hcs3, ?_⟩⟩
    · intro x o ex
      have n1 : x ≠ g := fun z => by rw [z, hg0] at ex; cases ex
      have n2 : x ≠ p := fun z => by rw [z, hp0] at ex; cases ex
      have n3 : x ≠ pw2 := fun z => by rw [z, hpw2] at ex; cases ex
      rw [upd_ne n1, upd_ne n1]
      exact o4 _ _ (s3 _ _ (sm _ _ ex)) n2 n3
    · rw [upd_same, List.map_append, List.map_cons, List.append_assoc, hal]
      rfl
    · rcases hpw4 with rfl | z
      · exact hpw2
      · exact sm.free (s3.free z)
    · rcases hpw4 with rfl | z
      · exact hgp
      · exact fun y => by rw [← y, hgv3] at z; cases z
    · obtain ⟨dx4, e4⟩ := J4.at_
      have ng : g ≠ pw4 := by
        rcases hpw4 with rfl | z
        · exact hgp
        · exact fun y => by rw [← y, hgv3] at z; cases z
      exact ⟨⟨dx4, by rw [upd_ne (Ne.symm hgp'), upd_ne (Ne.symm hgp')]; exact e4⟩, by rw [upd_ne (Ne.symm ng), upd_ne (Ne.symm ng)]; exact J4.ws, J4.fit⟩
    · rw [hans, List.append_assoc]
  · rw [ivs_len] at e
    have hi3 : i = ns.length := by omega
    subst hi3
    rw [List.drop_length] at hcs
    have hc0 : cs2 = [] := by
      have z : some cs2 = some [] := hcs.symm.trans Mth.calls_nil
      exact Option.some.inj z
    subst hc0
    have hans : PyKv366.answers (Mth.iz ns) = given := by rw [hans]; exact List.append_nil _
    walk_at "rd"
    refine q _ g ?_
    rw [hans]
    exact hgv
end
end My

set_option Elab.async false
set_option linter.all false
set_option maxRecDepth 100000
set_option maxHeartbeats 2000000
namespace My
open PySem PySem.Spec PyProof.Rows L2
open PySem.W (Codec)
theorem txt_mk {K : PySem.W.Frag} {h : Heap} {mg : Str → Option Value} {C : Addr} {t_BY_AGE : Tok} {t_BY_LORRIES : Tok} {t_NONE_SUCH : Tok} {t_NO_LOADS : Tok} {t_NOT_BEGUN : Tok} {t_IT_CAN_BE : Tok} {t_OUT_OF_RANGE : Tok} {t_TOO_MANY : Tok} {t_IT_CANNOT_BE : Tok} {t_MOST_WORK : Tok} {t_MOST_KEEP : Tok} {t_MOST_WAY : Tok} {t_MOST_LORRIES : Tok} {t_MOST_LOADS : Tok} {t_MOST_SPARE : Tok} {t_LAST_START : Tok} {t_BEGIN : Tok} {t_LOAD : Tok} {t_DRIVE : Tok} {t_LESS : Tok} {t_LORRIES : Tok} {t_FILLING : Tok} {t_LAYING : Tok} {t_KEEPING : Tok} {t_CAN : Tok} {t_WHY : Tok} {t_START : Tok} {t_SOONEST : Tok} {t_LATEST : Tok} {t_AGES : Tok} {t_WAITS : Tok} {t_IFSTART : Tok} {t_ENDS : Tok} {t_TRIED : Tok} {t_FEWEST : Tok} {t_LEASTLAY : Tok} {t_LEASTKEEP : Tok} {t_MOSTFILL : Tok} {t_SPARE : Tok} {t_TOUR : Tok} {t_DRIVES : Tok} {a_TAKES : Addr} {d_TAKES : Option Addr} {i_TAKES : Array Value} {z_TAKES : Nat} {s_TAKES : Array (Option Value)} (X : K.In h) (G : h.Ns mainGlobals mg)
    (aC : PySem.W.nsIn K mainGlobals "Job" = some (some (.ref C)))
    (pg : PySem.W.plainGet K C Str.empty = true)
    (hd : PySem.W.hasDictIn K C = true)
    (po : PySem.W.plainOver K C = true)
    (sa : PySem.W.findIn K (.ref C) "__setattr__" = some (some (.builtin "object.__setattr__")))
    (n_begun : PySem.W.findIn K (.ref C) "begun" = some none)
    (n_fill : PySem.W.findIn K (.ref C) "fill" = some none)
    (n_lay : PySem.W.findIn K (.ref C) "lay" = some none)
    (n_keep : PySem.W.findIn K (.ref C) "keep" = some none)
    (n_fleet : PySem.W.findIn K (.ref C) "fleet" = some none)
    (n_ways : PySem.W.findIn K (.ref C) "ways" = some none)
    (c_BY_AGE : PySem.W.nsIn K mainGlobals "BY_AGE" = some (some (.int (0) t_BY_AGE)))
    (c_BY_LORRIES : PySem.W.nsIn K mainGlobals "BY_LORRIES" = some (some (.int (1) t_BY_LORRIES)))
    (c_NONE_SUCH : PySem.W.nsIn K mainGlobals "NONE_SUCH" = some (some (.int (-2) t_NONE_SUCH)))
    (c_NO_LOADS : PySem.W.nsIn K mainGlobals "NO_LOADS" = some (some (.int (-6) t_NO_LOADS)))
    (c_NOT_BEGUN : PySem.W.nsIn K mainGlobals "NOT_BEGUN" = some (some (.int (-11) t_NOT_BEGUN)))
    (c_IT_CAN_BE : PySem.W.nsIn K mainGlobals "IT_CAN_BE" = some (some (.int (-17) t_IT_CAN_BE)))
    (c_OUT_OF_RANGE : PySem.W.nsIn K mainGlobals "OUT_OF_RANGE" = some (some (.int (-22) t_OUT_OF_RANGE)))
    (c_TOO_MANY : PySem.W.nsIn K mainGlobals "TOO_MANY" = some (some (.int (-28) t_TOO_MANY)))
    (c_IT_CANNOT_BE : PySem.W.nsIn K mainGlobals "IT_CANNOT_BE" = some (some (.int (-33) t_IT_CANNOT_BE)))
    (c_MOST_WORK : PySem.W.nsIn K mainGlobals "MOST_WORK" = some (some (.int (60) t_MOST_WORK)))
    (c_MOST_KEEP : PySem.W.nsIn K mainGlobals "MOST_KEEP" = some (some (.int (300) t_MOST_KEEP)))
    (c_MOST_WAY : PySem.W.nsIn K mainGlobals "MOST_WAY" = some (some (.int (120) t_MOST_WAY)))
    (c_MOST_LORRIES : PySem.W.nsIn K mainGlobals "MOST_LORRIES" = some (some (.int (20) t_MOST_LORRIES)))
    (c_MOST_LOADS : PySem.W.nsIn K mainGlobals "MOST_LOADS" = some (some (.int (20) t_MOST_LOADS)))
    (c_MOST_SPARE : PySem.W.nsIn K mainGlobals "MOST_SPARE" = some (some (.int (300) t_MOST_SPARE)))
    (c_LAST_START : PySem.W.nsIn K mainGlobals "LAST_START" = some (some (.int (5000) t_LAST_START)))
    (c_BEGIN : PySem.W.nsIn K mainGlobals "BEGIN" = some (some (.int (0) t_BEGIN)))
    (c_LOAD : PySem.W.nsIn K mainGlobals "LOAD" = some (some (.int (1) t_LOAD)))
    (c_DRIVE : PySem.W.nsIn K mainGlobals "DRIVE" = some (some (.int (2) t_DRIVE)))
    (c_LESS : PySem.W.nsIn K mainGlobals "LESS" = some (some (.int (3) t_LESS)))
    (c_LORRIES : PySem.W.nsIn K mainGlobals "LORRIES" = some (some (.int (4) t_LORRIES)))
    (c_FILLING : PySem.W.nsIn K mainGlobals "FILLING" = some (some (.int (5) t_FILLING)))
    (c_LAYING : PySem.W.nsIn K mainGlobals "LAYING" = some (some (.int (6) t_LAYING)))
    (c_KEEPING : PySem.W.nsIn K mainGlobals "KEEPING" = some (some (.int (7) t_KEEPING)))
    (c_CAN : PySem.W.nsIn K mainGlobals "CAN" = some (some (.int (8) t_CAN)))
    (c_WHY : PySem.W.nsIn K mainGlobals "WHY" = some (some (.int (9) t_WHY)))
    (c_START : PySem.W.nsIn K mainGlobals "START" = some (some (.int (10) t_START)))
    (c_SOONEST : PySem.W.nsIn K mainGlobals "SOONEST" = some (some (.int (11) t_SOONEST)))
    (c_LATEST : PySem.W.nsIn K mainGlobals "LATEST" = some (some (.int (12) t_LATEST)))
    (c_AGES : PySem.W.nsIn K mainGlobals "AGES" = some (some (.int (13) t_AGES)))
    (c_WAITS : PySem.W.nsIn K mainGlobals "WAITS" = some (some (.int (14) t_WAITS)))
    (c_IFSTART : PySem.W.nsIn K mainGlobals "IFSTART" = some (some (.int (15) t_IFSTART)))
    (c_ENDS : PySem.W.nsIn K mainGlobals "ENDS" = some (some (.int (16) t_ENDS)))
    (c_TRIED : PySem.W.nsIn K mainGlobals "TRIED" = some (some (.int (17) t_TRIED)))
    (c_FEWEST : PySem.W.nsIn K mainGlobals "FEWEST" = some (some (.int (18) t_FEWEST)))
    (c_LEASTLAY : PySem.W.nsIn K mainGlobals "LEASTLAY" = some (some (.int (19) t_LEASTLAY)))
    (c_LEASTKEEP : PySem.W.nsIn K mainGlobals "LEASTKEEP" = some (some (.int (20) t_LEASTKEEP)))
    (c_MOSTFILL : PySem.W.nsIn K mainGlobals "MOSTFILL" = some (some (.int (21) t_MOSTFILL)))
    (c_SPARE : PySem.W.nsIn K mainGlobals "SPARE" = some (some (.int (22) t_SPARE)))
    (c_TOUR : PySem.W.nsIn K mainGlobals "TOUR" = some (some (.int (23) t_TOUR)))
    (c_DRIVES : PySem.W.nsIn K mainGlobals "DRIVES" = some (some (.int (24) t_DRIVES)))
    (c_TAKES : PySem.W.nsIn K mainGlobals "TAKES" = some (some (.ref a_TAKES)))
    (l_TAKES : K.lookup a_TAKES = some ⟨.type "tuple", d_TAKES, .seq i_TAKES z_TAKES, s_TAKES⟩)
    (y_TAKES : i_TAKES.size ≤ sizeLine)
    (v_TAKES : Vals [.int (3), .int (1), .int (2), .int (0), .int (1), .int (1), .int (1), .int (1), .int (0), .int (0), .int (0), .int (1), .int (1), .int (1), .int (1), .int (1), .int (1), .int (1), .int (0), .int (0), .int (0), .int (0), .int (1), .int (1), .int (0), .int (0)] i_TAKES.toList)
    (b_enumerate : PySem.W.nsIn K mainGlobals "enumerate" = some none)
    (b_len : PySem.W.nsIn K mainGlobals "len" = some none)
    (b_list : PySem.W.nsIn K mainGlobals "list" = some none)
    (b_max : PySem.W.nsIn K mainGlobals "max" = some none)
    (b_min : PySem.W.nsIn K mainGlobals "min" = some none)
    (b_range : PySem.W.nsIn K mainGlobals "range" = some none)
    (b_zip : PySem.W.nsIn K mainGlobals "zip" = some none) : Txt K mg C :=
  ⟨⟨⟨pg, hd, po, sa⟩, n_begun, n_fill, n_lay, n_keep, n_fleet, n_ways⟩, ⟨t_BY_AGE, PySem.W.mg_of X G c_BY_AGE⟩, ⟨t_BY_LORRIES, PySem.W.mg_of X G c_BY_LORRIES⟩, ⟨t_NONE_SUCH, PySem.W.mg_of X G c_NONE_SUCH⟩, ⟨t_NO_LOADS, PySem.W.mg_of X G c_NO_LOADS⟩, ⟨t_NOT_BEGUN, PySem.W.mg_of X G c_NOT_BEGUN⟩, ⟨t_IT_CAN_BE, PySem.W.mg_of X G c_IT_CAN_BE⟩, ⟨t_OUT_OF_RANGE, PySem.W.mg_of X G c_OUT_OF_RANGE⟩, ⟨t_TOO_MANY, PySem.W.mg_of X G c_TOO_MANY⟩, ⟨t_IT_CANNOT_BE, PySem.W.mg_of X G c_IT_CANNOT_BE⟩, ⟨t_MOST_WORK, PySem.W.mg_of X G c_MOST_WORK⟩, ⟨t_MOST_KEEP, PySem.W.mg_of X G c_MOST_KEEP⟩, ⟨t_MOST_WAY, PySem.W.mg_of X G c_MOST_WAY⟩, ⟨t_MOST_LORRIES, PySem.W.mg_of X G c_MOST_LORRIES⟩, ⟨t_MOST_LOADS, PySem.W.mg_of X G c_MOST_LOADS⟩, ⟨t_MOST_SPARE, PySem.W.mg_of X G c_MOST_SPARE⟩, ⟨t_LAST_START, PySem.W.mg_of X G c_LAST_START⟩, ⟨t_BEGIN, PySem.W.mg_of X G c_BEGIN⟩, ⟨t_LOAD, PySem.W.mg_of X G c_LOAD⟩, ⟨t_DRIVE, PySem.W.mg_of X G c_DRIVE⟩, ⟨t_LESS, PySem.W.mg_of X G c_LESS⟩, ⟨t_LORRIES, PySem.W.mg_of X G c_LORRIES⟩, ⟨t_FILLING, PySem.W.mg_of X G c_FILLING⟩, ⟨t_LAYING, PySem.W.mg_of X G c_LAYING⟩, ⟨t_KEEPING, PySem.W.mg_of X G c_KEEPING⟩, ⟨t_CAN, PySem.W.mg_of X G c_CAN⟩, ⟨t_WHY, PySem.W.mg_of X G c_WHY⟩, ⟨t_START, PySem.W.mg_of X G c_START⟩, ⟨t_SOONEST, PySem.W.mg_of X G c_SOONEST⟩, ⟨t_LATEST, PySem.W.mg_of X G c_LATEST⟩, ⟨t_AGES, PySem.W.mg_of X G c_AGES⟩, ⟨t_WAITS, PySem.W.mg_of X G c_WAITS⟩, ⟨t_IFSTART, PySem.W.mg_of X G c_IFSTART⟩, ⟨t_ENDS, PySem.W.mg_of X G c_ENDS⟩, ⟨t_TRIED, PySem.W.mg_of X G c_TRIED⟩, ⟨t_FEWEST, PySem.W.mg_of X G c_FEWEST⟩, ⟨t_LEASTLAY, PySem.W.mg_of X G c_LEASTLAY⟩, ⟨t_LEASTKEEP, PySem.W.mg_of X G c_LEASTKEEP⟩, ⟨t_MOSTFILL, PySem.W.mg_of X G c_MOSTFILL⟩, ⟨t_SPARE, PySem.W.mg_of X G c_SPARE⟩, ⟨t_TOUR, PySem.W.mg_of X G c_TOUR⟩, ⟨t_DRIVES, PySem.W.mg_of X G c_DRIVES⟩, ⟨a_TAKES, _, i_TAKES, z_TAKES, PySem.W.mg_of X G c_TAKES, l_TAKES, rfl, rfl, y_TAKES, v_TAKES⟩, PySem.W.mg_none_of X G b_enumerate, PySem.W.mg_none_of X G b_len, PySem.W.mg_none_of X G b_list, PySem.W.mg_none_of X G b_max, PySem.W.mg_none_of X G b_min, PySem.W.mg_none_of X G b_range, PySem.W.mg_none_of X G b_zip⟩
/-- the class is made by its __init__ -/
def Init (K : PySem.W.Frag) (mg : Str → Option Value) (C : Addr) : Prop := ∃ (f : Addr) (fd : FuncData), Mk K C f ∧ Fun K "__init__" "Job.__init__" s_Job___init__ f fd ∧ mg "Job" = some (.ref C) ∧ Binds K fd ["self"] []
theorem init_mk {K : PySem.W.Frag} {h : Heap} {mg : Str → Option Value} {C f : Addr} {oc : Value} {od an : Option Addr} {osl : Array (Option Value)} {kV doc pm cdv ct : Value} (X : K.In h) (G : h.Ns mainGlobals mg)
    (aC : PySem.W.nsIn K mainGlobals "Job" = some (some (.ref C))) (mk : PySem.W.makesIn K C = true) (a1 : PySem.W.findIn K (.ref C) "__init__" = some (some (.ref f))) (i1 : PySem.W.isFn K (.ref f) = true) (kc : PySem.W.keepIn K (.ref C) = true)
    (l : K.lookup f = some ⟨oc, od, .func (PySem.W.fnOf "__init__" "Job.__init__" (defArgs s_Job___init__) (defBody s_Job___init__) (defScope s_Job___init__) .none kV doc pm an cdv ct), osl⟩)
    (c : PySem.W.codeIn K cdv "Job.__init__" = true) (k : PySem.W.keepIn K (.ref f) = true)
    (hb : ∀ (kV doc pm : Value) (an : Option Addr) (cdv ct : Value) (us : List Value), us.length = (["self"] : List Str).length → bindArgs (PySem.W.fnOf "__init__" "Job.__init__" (defArgs s_Job___init__) (defBody s_Job___init__) (defScope s_Job___init__) .none kV doc pm an cdv ct) ⟨us, []⟩ = pure ((["self"] : List Str).zip us)) : Init K mg C :=
  ⟨f, _, ⟨mk, a1, i1, kc⟩, fun_mk l c k, PySem.W.mg_of X G aC, (fun_mk l c k).binds hb⟩
theorem Init.has {P : Program} {w : World} {K : PySem.W.Frag} {mg : Str → Option Value} {base : Heap} {C : Addr} (h : Init K mg C) (T : Txt K mg C) : HasC P w K mg base 1 "Job" C (spInit C) := by
  obtain ⟨f, fd, M, F, hm, b⟩ := h
  exact ⟨f, fd, M, ok_init F T, hm, b⟩
theorem top_mk {K : PySem.W.Frag} {h : Heap} {mg : Str → Option Value} {x : Str} {st : Stmt} {ps : List Str} {f : Addr} {oc : Value} {od an : Option Addr} {osl : Array (Option Value)} {kV doc pm cdv ct : Value} (X : K.In h) (G : h.Ns mainGlobals mg)
    (a : PySem.W.nsIn K mainGlobals x = some (some (.ref f))) (l : K.lookup f = some ⟨oc, od, .func (PySem.W.fnOf x x (defArgs st) (defBody st) (defScope st) .none kV doc pm an cdv ct), osl⟩)
    (c : PySem.W.codeIn K cdv x = true) (k : PySem.W.keepIn K (.ref f) = true)
    (hb : ∀ (kV doc pm : Value) (an : Option Addr) (cdv ct : Value) (us : List Value), us.length = ps.length → bindArgs (PySem.W.fnOf x x (defArgs st) (defBody st) (defScope st) .none kV doc pm an cdv ct) ⟨us, []⟩ = pure (ps.zip us)) : Top K mg x st ps :=
  ⟨f, _, fun_mk l c k, PySem.W.mg_of X G a, (fun_mk l c k).binds hb⟩
end My
/-! names taken: so no second copy is laid of the ten largest texts that the head writes out (with them the built file is over 64 MB) -/
theorem PySem.W.Fast.tw9819607242945448267 : True := trivial
theorem PySem.W.Fast.tw13649847220721241398 : True := trivial
theorem PySem.W.Fast.tw4279744402534990549 : True := trivial
theorem PySem.W.Fast.tw11938063753587303553 : True := trivial
theorem PySem.W.Fast.tw2745265236021174417 : True := trivial
theorem PySem.W.Fast.tw13669967818249816667 : True := trivial
theorem PySem.W.Fast.tw4144039551234317660 : True := trivial
theorem PySem.W.Fast.tw5691206143341247921 : True := trivial
theorem PySem.W.Fast.tw122472297802464915 : True := trivial
theorem PySem.W.Fast.tw11472164742862944839 : True := trivial
open PySem PySem.W PyProof.Rows
set_option maxRecDepth 100000 in
set_option maxHeartbeats 0 in
theorem PySem.Challenge.cw_pavedloads_s01_answers_holds : PySem.Challenge.rw_pavedloads_s01_answers.Holds := by
  w_on; k_headS; (case hw => exact ⟨[.list [.int 3]], by decide +kernel, by decide +kernel⟩)
  k_fillS
  refine L2.walk_specK (r := PySem.Challenge.rw_pavedloads_s01_answers) (k := 9) (CX := L2.CX0) (ps := ["calls"]) (sp := My.spAnswers) (by decide +kernel) rfl rfl ⟨rfl, by decide, by decide⟩ (fun w h Y => PySem.W.kIn_of Y) ?F ?S (fun _ _ _ _ z => z)
  case F =>
    intro w mg fa h Y KX G hmg
    have T : ∃ C, My.Txt (L2.KOf KX) mg C ∧ My.Init (L2.KOf KX) mg C := by
      dsimp only [L2.KOf]
      refine' ⟨_, My.txt_mk KX G ?aC ?pg ?hd ?po ?sa ?n_begun ?n_fill ?n_lay ?n_keep ?n_fleet ?n_ways ?c_BY_AGE ?c_BY_LORRIES ?c_NONE_SUCH ?c_NO_LOADS ?c_NOT_BEGUN ?c_IT_CAN_BE ?c_OUT_OF_RANGE ?c_TOO_MANY ?c_IT_CANNOT_BE ?c_MOST_WORK ?c_MOST_KEEP ?c_MOST_WAY ?c_MOST_LORRIES ?c_MOST_LOADS ?c_MOST_SPARE ?c_LAST_START ?c_BEGIN ?c_LOAD ?c_DRIVE ?c_LESS ?c_LORRIES ?c_FILLING ?c_LAYING ?c_KEEPING ?c_CAN ?c_WHY ?c_START ?c_SOONEST ?c_LATEST ?c_AGES ?c_WAITS ?c_IFSTART ?c_ENDS ?c_TRIED ?c_FEWEST ?c_LEASTLAY ?c_LEASTKEEP ?c_MOSTFILL ?c_SPARE ?c_TOUR ?c_DRIVES ?c_TAKES ?l_TAKES ?y_TAKES ?v_TAKES ?b_enumerate ?b_len ?b_list ?b_max ?b_min ?b_range ?b_zip, My.init_mk KX G ?aC2 ?mk ?a1 ?i1 ?kc ?l1 ?c1 ?k1 (fun _ _ _ _ _ _ us hl => match us, hl with | [_], _ => rfl)⟩
      (case aC => k_is)
      (case pg => k_is)
      (case hd => k_is)
      (case po => k_is)
      (case sa => k_is)
      (case n_begun => k_is)
      (case n_fill => k_is)
      (case n_lay => k_is)
      (case n_keep => k_is)
      (case n_fleet => k_is)
      (case n_ways => k_is)
      (case c_BY_AGE => k_is)
      (case c_BY_LORRIES => k_is)
      (case c_NONE_SUCH => k_is)
      (case c_NO_LOADS => k_is)
      (case c_NOT_BEGUN => k_is)
      (case c_IT_CAN_BE => k_is)
      (case c_OUT_OF_RANGE => k_is)
      (case c_TOO_MANY => k_is)
      (case c_IT_CANNOT_BE => k_is)
      (case c_MOST_WORK => k_is)
      (case c_MOST_KEEP => k_is)
      (case c_MOST_WAY => k_is)
      (case c_MOST_LORRIES => k_is)
      (case c_MOST_LOADS => k_is)
      (case c_MOST_SPARE => k_is)
      (case c_LAST_START => k_is)
      (case c_BEGIN => k_is)
      (case c_LOAD => k_is)
      (case c_DRIVE => k_is)
      (case c_LESS => k_is)
      (case c_LORRIES => k_is)
      (case c_FILLING => k_is)
      (case c_LAYING => k_is)
      (case c_KEEPING => k_is)
      (case c_CAN => k_is)
      (case c_WHY => k_is)
      (case c_START => k_is)
      (case c_SOONEST => k_is)
      (case c_LATEST => k_is)
      (case c_AGES => k_is)
      (case c_WAITS => k_is)
      (case c_IFSTART => k_is)
      (case c_ENDS => k_is)
      (case c_TRIED => k_is)
      (case c_FEWEST => k_is)
      (case c_LEASTLAY => k_is)
      (case c_LEASTKEEP => k_is)
      (case c_MOSTFILL => k_is)
      (case c_SPARE => k_is)
      (case c_TOUR => k_is)
      (case c_DRIVES => k_is)
      (case c_TAKES => k_is)
      (case l_TAKES => k_is)
      (case y_TAKES => decide)
      (case v_TAKES => exact (.cons ⟨_, rfl⟩ (.cons ⟨_, rfl⟩ (.cons ⟨_, rfl⟩ (.cons ⟨_, rfl⟩ (.cons ⟨_, rfl⟩ (.cons ⟨_, rfl⟩ (.cons ⟨_, rfl⟩ (.cons ⟨_, rfl⟩ (.cons ⟨_, rfl⟩ (.cons ⟨_, rfl⟩ (.cons ⟨_, rfl⟩ (.cons ⟨_, rfl⟩ (.cons ⟨_, rfl⟩ (.cons ⟨_, rfl⟩ (.cons ⟨_, rfl⟩ (.cons ⟨_, rfl⟩ (.cons ⟨_, rfl⟩ (.cons ⟨_, rfl⟩ (.cons ⟨_, rfl⟩ (.cons ⟨_, rfl⟩ (.cons ⟨_, rfl⟩ (.cons ⟨_, rfl⟩ (.cons ⟨_, rfl⟩ (.cons ⟨_, rfl⟩ (.cons ⟨_, rfl⟩ (.cons ⟨_, rfl⟩ .nil)))))))))))))))))))))))))))
      (case b_enumerate => k_is)
      (case b_len => k_is)
      (case b_list => k_is)
      (case b_max => k_is)
      (case b_min => k_is)
      (case b_range => k_is)
      (case b_zip => k_is)
      (case aC2 => k_is)
      (case mk => k_is)
      (case a1 => k_is)
      (case i1 => k_is)
      (case kc => k_is)
      (case l1 => k_is)
      (case c1 => k_is)
      (case k1 => k_is)
    obtain ⟨C, T, TI⟩ := T
    have u_copy_of : My.Top (L2.KOf KX) mg "copy_of" My.s_copy_of ["job"] := by
      dsimp only [L2.KOf]
      refine' My.top_mk KX G ?a ?l ?c ?k (fun _ _ _ _ _ _ us hl => match us, hl with | [_], _ => rfl)
      (case a => k_is); (case l => k_is); (case c => k_is); (case k => k_is)
    have u_tell_by_age : My.Top (L2.KOf KX) mg "tell_by_age" My.s_tell_by_age ["job", "j", "k"] := by
      dsimp only [L2.KOf]
      refine' My.top_mk KX G ?a ?l ?c ?k (fun _ _ _ _ _ _ us hl => match us, hl with | [_, _, _], _ => rfl)
      (case a => k_is); (case l => k_is); (case c => k_is); (case k => k_is)
    have u_tell_by_lorries : My.Top (L2.KOf KX) mg "tell_by_lorries" My.s_tell_by_lorries ["job", "j", "k"] := by
      dsimp only [L2.KOf]
      refine' My.top_mk KX G ?a ?l ?c ?k (fun _ _ _ _ _ _ us hl => match us, hl with | [_, _, _], _ => rfl)
      (case a => k_is); (case l => k_is); (case c => k_is); (case k => k_is)
    have u_first_why_not : My.Top (L2.KOf KX) mg "first_why_not" My.s_first_why_not ["job"] := by
      dsimp only [L2.KOf]
      refine' My.top_mk KX G ?a ?l ?c ?k (fun _ _ _ _ _ _ us hl => match us, hl with | [_], _ => rfl)
      (case a => k_is); (case l => k_is); (case c => k_is); (case k => k_is)
    have u_most_ahead : My.Top (L2.KOf KX) mg "most_ahead" My.s_most_ahead ["job", "k", "before"] := by
      dsimp only [L2.KOf]
      refine' My.top_mk KX G ?a ?l ?c ?k (fun _ _ _ _ _ _ us hl => match us, hl with | [_, _, _], _ => rfl)
      (case a => k_is); (case l => k_is); (case c => k_is); (case k => k_is)
    have u_can_be : My.Top (L2.KOf KX) mg "can_be" My.s_can_be ["job"] := by
      dsimp only [L2.KOf]
      refine' My.top_mk KX G ?a ?l ?c ?k (fun _ _ _ _ _ _ us hl => match us, hl with | [_], _ => rfl)
      (case a => k_is); (case l => k_is); (case c => k_is); (case k => k_is)
    have u_soonest_start : My.Top (L2.KOf KX) mg "soonest_start" My.s_soonest_start ["job"] := by
      dsimp only [L2.KOf]
      refine' My.top_mk KX G ?a ?l ?c ?k (fun _ _ _ _ _ _ us hl => match us, hl with | [_], _ => rfl)
      (case a => k_is); (case l => k_is); (case c => k_is); (case k => k_is)
    have u_has_plan : My.Top (L2.KOf KX) mg "has_plan" My.s_has_plan ["job", "paver_start"] := by
      dsimp only [L2.KOf]
      refine' My.top_mk KX G ?a ?l ?c ?k (fun _ _ _ _ _ _ us hl => match us, hl with | [_, _], _ => rfl)
      (case a => k_is); (case l => k_is); (case c => k_is); (case k => k_is)
    have u_begun_at : My.Top (L2.KOf KX) mg "begun_at" My.s_begun_at ["job", "paver_start", "k"] := by
      dsimp only [L2.KOf]
      refine' My.top_mk KX G ?a ?l ?c ?k (fun _ _ _ _ _ _ us hl => match us, hl with | [_, _, _], _ => rfl)
      (case a => k_is); (case l => k_is); (case c => k_is); (case k => k_is)
    have u_back_at : My.Top (L2.KOf KX) mg "back_at" My.s_back_at ["job", "paver_start", "k"] := by
      dsimp only [L2.KOf]
      refine' My.top_mk KX G ?a ?l ?c ?k (fun _ _ _ _ _ _ us hl => match us, hl with | [_, _, _], _ => rfl)
      (case a => k_is); (case l => k_is); (case c => k_is); (case k => k_is)
    have u_not_before : My.Top (L2.KOf KX) mg "not_before" My.s_not_before ["job", "paver_start", "k"] := by
      dsimp only [L2.KOf]
      refine' My.top_mk KX G ?a ?l ?c ?k (fun _ _ _ _ _ _ us hl => match us, hl with | [_, _, _], _ => rfl)
      (case a => k_is); (case l => k_is); (case c => k_is); (case k => k_is)
    have u_filled_soonest : My.Top (L2.KOf KX) mg "filled_soonest" My.s_filled_soonest ["job", "paver_start"] := by
      dsimp only [L2.KOf]
      refine' My.top_mk KX G ?a ?l ?c ?k (fun _ _ _ _ _ _ us hl => match us, hl with | [_, _], _ => rfl)
      (case a => k_is); (case l => k_is); (case c => k_is); (case k => k_is)
    have u_ages_soonest : My.Top (L2.KOf KX) mg "ages_soonest" My.s_ages_soonest ["job", "paver_start"] := by
      dsimp only [L2.KOf]
      refine' My.top_mk KX G ?a ?l ?c ?k (fun _ _ _ _ _ _ us hl => match us, hl with | [_, _], _ => rfl)
      (case a => k_is); (case l => k_is); (case c => k_is); (case k => k_is)
    have u_filled_latest : My.Top (L2.KOf KX) mg "filled_latest" My.s_filled_latest ["job", "paver_start"] := by
      dsimp only [L2.KOf]
      refine' My.top_mk KX G ?a ?l ?c ?k (fun _ _ _ _ _ _ us hl => match us, hl with | [_, _], _ => rfl)
      (case a => k_is); (case l => k_is); (case c => k_is); (case k => k_is)
    have u_is_plan : My.Top (L2.KOf KX) mg "is_plan" My.s_is_plan ["job", "paver_start", "filled"] := by
      dsimp only [L2.KOf]
      refine' My.top_mk KX G ?a ?l ?c ?k (fun _ _ _ _ _ _ us hl => match us, hl with | [_, _, _], _ => rfl)
      (case a => k_is); (case l => k_is); (case c => k_is); (case k => k_is)
    have u_is_work : My.Top (L2.KOf KX) mg "is_work" My.s_is_work ["minutes"] := by
      dsimp only [L2.KOf]
      refine' My.top_mk KX G ?a ?l ?c ?k (fun _ _ _ _ _ _ us hl => match us, hl with | [_], _ => rfl)
      (case a => k_is); (case l => k_is); (case c => k_is); (case k => k_is)
    have u_is_keep : My.Top (L2.KOf KX) mg "is_keep" My.s_is_keep ["minutes"] := by
      dsimp only [L2.KOf]
      refine' My.top_mk KX G ?a ?l ?c ?k (fun _ _ _ _ _ _ us hl => match us, hl with | [_], _ => rfl)
      (case a => k_is); (case l => k_is); (case c => k_is); (case k => k_is)
    have u_is_way : My.Top (L2.KOf KX) mg "is_way" My.s_is_way ["minutes"] := by
      dsimp only [L2.KOf]
      refine' My.top_mk KX G ?a ?l ?c ?k (fun _ _ _ _ _ _ us hl => match us, hl with | [_], _ => rfl)
      (case a => k_is); (case l => k_is); (case c => k_is); (case k => k_is)
    have u_is_fleet : My.Top (L2.KOf KX) mg "is_fleet" My.s_is_fleet ["number"] := by
      dsimp only [L2.KOf]
      refine' My.top_mk KX G ?a ?l ?c ?k (fun _ _ _ _ _ _ us hl => match us, hl with | [_], _ => rfl)
      (case a => k_is); (case l => k_is); (case c => k_is); (case k => k_is)
    have u_begin : My.Top (L2.KOf KX) mg "begin" My.s_begin ["job", "fill", "lay", "keep"] := by
      dsimp only [L2.KOf]
      refine' My.top_mk KX G ?a ?l ?c ?k (fun _ _ _ _ _ _ us hl => match us, hl with | [_, _, _, _], _ => rfl)
      (case a => k_is); (case l => k_is); (case c => k_is); (case k => k_is)
    have u_load : My.Top (L2.KOf KX) mg "load" My.s_load ["job", "way"] := by
      dsimp only [L2.KOf]
      refine' My.top_mk KX G ?a ?l ?c ?k (fun _ _ _ _ _ _ us hl => match us, hl with | [_, _], _ => rfl)
      (case a => k_is); (case l => k_is); (case c => k_is); (case k => k_is)
    have u_drive : My.Top (L2.KOf KX) mg "drive" My.s_drive ["job", "k", "way"] := by
      dsimp only [L2.KOf]
      refine' My.top_mk KX G ?a ?l ?c ?k (fun _ _ _ _ _ _ us hl => match us, hl with | [_, _, _], _ => rfl)
      (case a => k_is); (case l => k_is); (case c => k_is); (case k => k_is)
    have u_less : My.Top (L2.KOf KX) mg "less" My.s_less ["job"] := by
      dsimp only [L2.KOf]
      refine' My.top_mk KX G ?a ?l ?c ?k (fun _ _ _ _ _ _ us hl => match us, hl with | [_], _ => rfl)
      (case a => k_is); (case l => k_is); (case c => k_is); (case k => k_is)
    have u_lorries : My.Top (L2.KOf KX) mg "lorries" My.s_lorries ["job", "number"] := by
      dsimp only [L2.KOf]
      refine' My.top_mk KX G ?a ?l ?c ?k (fun _ _ _ _ _ _ us hl => match us, hl with | [_, _], _ => rfl)
      (case a => k_is); (case l => k_is); (case c => k_is); (case k => k_is)
    have u_filling : My.Top (L2.KOf KX) mg "filling" My.s_filling ["job", "minutes"] := by
      dsimp only [L2.KOf]
      refine' My.top_mk KX G ?a ?l ?c ?k (fun _ _ _ _ _ _ us hl => match us, hl with | [_, _], _ => rfl)
      (case a => k_is); (case l => k_is); (case c => k_is); (case k => k_is)
    have u_laying : My.Top (L2.KOf KX) mg "laying" My.s_laying ["job", "minutes"] := by
      dsimp only [L2.KOf]
      refine' My.top_mk KX G ?a ?l ?c ?k (fun _ _ _ _ _ _ us hl => match us, hl with | [_, _], _ => rfl)
      (case a => k_is); (case l => k_is); (case c => k_is); (case k => k_is)
    have u_keeping : My.Top (L2.KOf KX) mg "keeping" My.s_keeping ["job", "minutes"] := by
      dsimp only [L2.KOf]
      refine' My.top_mk KX G ?a ?l ?c ?k (fun _ _ _ _ _ _ us hl => match us, hl with | [_, _], _ => rfl)
      (case a => k_is); (case l => k_is); (case c => k_is); (case k => k_is)
    have u_fewest : My.Top (L2.KOf KX) mg "fewest" My.s_fewest ["job"] := by
      dsimp only [L2.KOf]
      refine' My.top_mk KX G ?a ?l ?c ?k (fun _ _ _ _ _ _ us hl => match us, hl with | [_], _ => rfl)
      (case a => k_is); (case l => k_is); (case c => k_is); (case k => k_is)
    have u_leastlay : My.Top (L2.KOf KX) mg "leastlay" My.s_leastlay ["job"] := by
      dsimp only [L2.KOf]
      refine' My.top_mk KX G ?a ?l ?c ?k (fun _ _ _ _ _ _ us hl => match us, hl with | [_], _ => rfl)
      (case a => k_is); (case l => k_is); (case c => k_is); (case k => k_is)
    have u_leastkeep : My.Top (L2.KOf KX) mg "leastkeep" My.s_leastkeep ["job"] := by
      dsimp only [L2.KOf]
      refine' My.top_mk KX G ?a ?l ?c ?k (fun _ _ _ _ _ _ us hl => match us, hl with | [_], _ => rfl)
      (case a => k_is); (case l => k_is); (case c => k_is); (case k => k_is)
    have u_mostfill : My.Top (L2.KOf KX) mg "mostfill" My.s_mostfill ["job"] := by
      dsimp only [L2.KOf]
      refine' My.top_mk KX G ?a ?l ?c ?k (fun _ _ _ _ _ _ us hl => match us, hl with | [_], _ => rfl)
      (case a => k_is); (case l => k_is); (case c => k_is); (case k => k_is)
    have u_spare : My.Top (L2.KOf KX) mg "spare" My.s_spare ["job", "k"] := by
      dsimp only [L2.KOf]
      refine' My.top_mk KX G ?a ?l ?c ?k (fun _ _ _ _ _ _ us hl => match us, hl with | [_, _], _ => rfl)
      (case a => k_is); (case l => k_is); (case c => k_is); (case k => k_is)
    have u_tour : My.Top (L2.KOf KX) mg "tour" My.s_tour ["job", "lorry"] := by
      dsimp only [L2.KOf]
      refine' My.top_mk KX G ?a ?l ?c ?k (fun _ _ _ _ _ _ us hl => match us, hl with | [_, _], _ => rfl)
      (case a => k_is); (case l => k_is); (case c => k_is); (case k => k_is)
    have u_drives : My.Top (L2.KOf KX) mg "drives" My.s_drives ["job"] := by
      dsimp only [L2.KOf]
      refine' My.top_mk KX G ?a ?l ?c ?k (fun _ _ _ _ _ _ us hl => match us, hl with | [_], _ => rfl)
      (case a => k_is); (case l => k_is); (case c => k_is); (case k => k_is)
    have u_state : My.Top (L2.KOf KX) mg "state" My.s_state ["job"] := by
      dsimp only [L2.KOf]
      refine' My.top_mk KX G ?a ?l ?c ?k (fun _ _ _ _ _ _ us hl => match us, hl with | [_], _ => rfl)
      (case a => k_is); (case l => k_is); (case c => k_is); (case k => k_is)
    have u_can : My.Top (L2.KOf KX) mg "can" My.s_can ["job"] := by
      dsimp only [L2.KOf]
      refine' My.top_mk KX G ?a ?l ?c ?k (fun _ _ _ _ _ _ us hl => match us, hl with | [_], _ => rfl)
      (case a => k_is); (case l => k_is); (case c => k_is); (case k => k_is)
    have u_why : My.Top (L2.KOf KX) mg "why" My.s_why ["job"] := by
      dsimp only [L2.KOf]
      refine' My.top_mk KX G ?a ?l ?c ?k (fun _ _ _ _ _ _ us hl => match us, hl with | [_], _ => rfl)
      (case a => k_is); (case l => k_is); (case c => k_is); (case k => k_is)
    have u_start : My.Top (L2.KOf KX) mg "start" My.s_start ["job"] := by
      dsimp only [L2.KOf]
      refine' My.top_mk KX G ?a ?l ?c ?k (fun _ _ _ _ _ _ us hl => match us, hl with | [_], _ => rfl)
      (case a => k_is); (case l => k_is); (case c => k_is); (case k => k_is)
    have u_ifstart : My.Top (L2.KOf KX) mg "ifstart" My.s_ifstart ["job", "paver_start"] := by
      dsimp only [L2.KOf]
      refine' My.top_mk KX G ?a ?l ?c ?k (fun _ _ _ _ _ _ us hl => match us, hl with | [_, _], _ => rfl)
      (case a => k_is); (case l => k_is); (case c => k_is); (case k => k_is)
    have u_start_refusal : My.Top (L2.KOf KX) mg "start_refusal" My.s_start_refusal ["job", "paver_start"] := by
      dsimp only [L2.KOf]
      refine' My.top_mk KX G ?a ?l ?c ?k (fun _ _ _ _ _ _ us hl => match us, hl with | [_, _], _ => rfl)
      (case a => k_is); (case l => k_is); (case c => k_is); (case k => k_is)
    have u_soonest : My.Top (L2.KOf KX) mg "soonest" My.s_soonest ["job", "paver_start"] := by
      dsimp only [L2.KOf]
      refine' My.top_mk KX G ?a ?l ?c ?k (fun _ _ _ _ _ _ us hl => match us, hl with | [_, _], _ => rfl)
      (case a => k_is); (case l => k_is); (case c => k_is); (case k => k_is)
    have u_latest : My.Top (L2.KOf KX) mg "latest" My.s_latest ["job", "paver_start"] := by
      dsimp only [L2.KOf]
      refine' My.top_mk KX G ?a ?l ?c ?k (fun _ _ _ _ _ _ us hl => match us, hl with | [_, _], _ => rfl)
      (case a => k_is); (case l => k_is); (case c => k_is); (case k => k_is)
    have u_ages : My.Top (L2.KOf KX) mg "ages" My.s_ages ["job", "paver_start"] := by
      dsimp only [L2.KOf]
      refine' My.top_mk KX G ?a ?l ?c ?k (fun _ _ _ _ _ _ us hl => match us, hl with | [_, _], _ => rfl)
      (case a => k_is); (case l => k_is); (case c => k_is); (case k => k_is)
    have u_waits : My.Top (L2.KOf KX) mg "waits" My.s_waits ["job", "paver_start"] := by
      dsimp only [L2.KOf]
      refine' My.top_mk KX G ?a ?l ?c ?k (fun _ _ _ _ _ _ us hl => match us, hl with | [_, _], _ => rfl)
      (case a => k_is); (case l => k_is); (case c => k_is); (case k => k_is)
    have u_ends : My.Top (L2.KOf KX) mg "ends" My.s_ends ["job", "paver_start"] := by
      dsimp only [L2.KOf]
      refine' My.top_mk KX G ?a ?l ?c ?k (fun _ _ _ _ _ _ us hl => match us, hl with | [_, _], _ => rfl)
      (case a => k_is); (case l => k_is); (case c => k_is); (case k => k_is)
    have u_tried : My.Top (L2.KOf KX) mg "tried" My.s_tried ["job", "paver_start", "row"] := by
      dsimp only [L2.KOf]
      refine' My.top_mk KX G ?a ?l ?c ?k (fun _ _ _ _ _ _ us hl => match us, hl with | [_, _, _], _ => rfl)
      (case a => k_is); (case l => k_is); (case c => k_is); (case k => k_is)
    have u_call_end : My.Top (L2.KOf KX) mg "call_end" My.s_call_end ["calls", "at"] := by
      dsimp only [L2.KOf]
      refine' My.top_mk KX G ?a ?l ?c ?k (fun _ _ _ _ _ _ us hl => match us, hl with | [_, _], _ => rfl)
      (case a => k_is); (case l => k_is); (case c => k_is); (case k => k_is)
    have u_telling_answer : My.Top (L2.KOf KX) mg "telling_answer" My.s_telling_answer ["job", "call", "told"] := by
      dsimp only [L2.KOf]
      refine' My.top_mk KX G ?a ?l ?c ?k (fun _ _ _ _ _ _ us hl => match us, hl with | [_, _, _], _ => rfl)
      (case a => k_is); (case l => k_is); (case c => k_is); (case k => k_is)
    have u_looking_answer : My.Top (L2.KOf KX) mg "looking_answer" My.s_looking_answer ["job", "call", "told"] := by
      dsimp only [L2.KOf]
      refine' My.top_mk KX G ?a ?l ?c ?k (fun _ _ _ _ _ _ us hl => match us, hl with | [_, _, _], _ => rfl)
      (case a => k_is); (case l => k_is); (case c => k_is); (case k => k_is)
    have u_limits_answer : My.Top (L2.KOf KX) mg "limits_answer" My.s_limits_answer ["job", "call", "told"] := by
      dsimp only [L2.KOf]
      refine' My.top_mk KX G ?a ?l ?c ?k (fun _ _ _ _ _ _ us hl => match us, hl with | [_, _, _], _ => rfl)
      (case a => k_is); (case l => k_is); (case c => k_is); (case k => k_is)
    have u_listing_answer : My.Top (L2.KOf KX) mg "listing_answer" My.s_listing_answer ["job", "call", "told"] := by
      dsimp only [L2.KOf]
      refine' My.top_mk KX G ?a ?l ?c ?k (fun _ _ _ _ _ _ us hl => match us, hl with | [_, _, _], _ => rfl)
      (case a => k_is); (case l => k_is); (case c => k_is); (case k => k_is)
    have u_answer : My.Top (L2.KOf KX) mg "answer" My.s_answer ["job", "call", "told"] := by
      dsimp only [L2.KOf]
      refine' My.top_mk KX G ?a ?l ?c ?k (fun _ _ _ _ _ _ us hl => match us, hl with | [_, _, _], _ => rfl)
      (case a => k_is); (case l => k_is); (case c => k_is); (case k => k_is)
    have u_answers : My.Top (L2.KOf KX) mg "answers" My.s_answers ["calls"] := by
      dsimp only [L2.KOf]
      refine' My.top_mk KX G ?a ?l ?c ?k (fun _ _ _ _ _ _ us hl => match us, hl with | [_], _ => rfl)
      (case a => k_is); (case l => k_is); (case c => k_is); (case k => k_is)
    obtain ⟨fA, fdA, FA, hmA, bA⟩ := u_answers
    have eA := hmg.symm.trans hmA
    cases eA
    refine ⟨fdA, ?_, fun base _ _ => ?_⟩
    · obtain ⟨oc, od, kV, doc, pm, an, cdv, ct, osl, rfl, lk, hcd⟩ := FA.ex
      exact fun s us hu => match us, hu with | [_], _ => .of_eq rfl
    · have h_Job := TI.has (P := PySem.Challenge.rw_pavedloads_s01_answers.prog) (w := w) (base := base) T
      have h_tell_by_age := My.has_tell_by_age (P := PySem.Challenge.rw_pavedloads_s01_answers.prog) (w := w) (base := base) T u_tell_by_age 
      have h_tell_by_lorries := My.has_tell_by_lorries (P := PySem.Challenge.rw_pavedloads_s01_answers.prog) (w := w) (base := base) T u_tell_by_lorries 
      have h_first_why_not := My.has_first_why_not (P := PySem.Challenge.rw_pavedloads_s01_answers.prog) (w := w) (base := base) T u_first_why_not h_tell_by_age h_tell_by_lorries
      have h_most_ahead := My.has_most_ahead (P := PySem.Challenge.rw_pavedloads_s01_answers.prog) (w := w) (base := base) T u_most_ahead 
      have h_can_be := My.has_can_be (P := PySem.Challenge.rw_pavedloads_s01_answers.prog) (w := w) (base := base) T u_can_be h_most_ahead
      have h_soonest_start := My.has_soonest_start (P := PySem.Challenge.rw_pavedloads_s01_answers.prog) (w := w) (base := base) T u_soonest_start 
      have h_has_plan := My.has_has_plan (P := PySem.Challenge.rw_pavedloads_s01_answers.prog) (w := w) (base := base) T u_has_plan h_can_be h_soonest_start
      have h_begun_at := My.has_begun_at (P := PySem.Challenge.rw_pavedloads_s01_answers.prog) (w := w) (base := base) T u_begun_at 
      have h_back_at := My.has_back_at (P := PySem.Challenge.rw_pavedloads_s01_answers.prog) (w := w) (base := base) T u_back_at h_begun_at
      have h_not_before := My.has_not_before (P := PySem.Challenge.rw_pavedloads_s01_answers.prog) (w := w) (base := base) T u_not_before h_begun_at h_back_at
      have h_filled_soonest := My.has_filled_soonest (P := PySem.Challenge.rw_pavedloads_s01_answers.prog) (w := w) (base := base) T u_filled_soonest h_not_before
      have h_ages_soonest := My.has_ages_soonest (P := PySem.Challenge.rw_pavedloads_s01_answers.prog) (w := w) (base := base) T u_ages_soonest h_begun_at h_filled_soonest
      have h_is_plan := My.has_is_plan (P := PySem.Challenge.rw_pavedloads_s01_answers.prog) (w := w) (base := base) T u_is_plan h_not_before h_begun_at
      have h_is_work := My.has_is_work (P := PySem.Challenge.rw_pavedloads_s01_answers.prog) (w := w) (base := base) T u_is_work 
      have h_is_keep := My.has_is_keep (P := PySem.Challenge.rw_pavedloads_s01_answers.prog) (w := w) (base := base) T u_is_keep 
      have h_is_way := My.has_is_way (P := PySem.Challenge.rw_pavedloads_s01_answers.prog) (w := w) (base := base) T u_is_way 
      have h_is_fleet := My.has_is_fleet (P := PySem.Challenge.rw_pavedloads_s01_answers.prog) (w := w) (base := base) T u_is_fleet 
      have h_load := My.has_load (P := PySem.Challenge.rw_pavedloads_s01_answers.prog) (w := w) (base := base) T u_load h_is_way
      have h_drive := My.has_drive (P := PySem.Challenge.rw_pavedloads_s01_answers.prog) (w := w) (base := base) T u_drive h_is_way
      have h_less := My.has_less (P := PySem.Challenge.rw_pavedloads_s01_answers.prog) (w := w) (base := base) T u_less 
      have h_lorries := My.has_lorries (P := PySem.Challenge.rw_pavedloads_s01_answers.prog) (w := w) (base := base) T u_lorries h_is_fleet
      have h_filling := My.has_filling (P := PySem.Challenge.rw_pavedloads_s01_answers.prog) (w := w) (base := base) T u_filling h_is_work
      have h_laying := My.has_laying (P := PySem.Challenge.rw_pavedloads_s01_answers.prog) (w := w) (base := base) T u_laying h_is_work
      have h_keeping := My.has_keeping (P := PySem.Challenge.rw_pavedloads_s01_answers.prog) (w := w) (base := base) T u_keeping h_is_keep
      have h_begin := My.has_begin (P := PySem.Challenge.rw_pavedloads_s01_answers.prog) (w := w) (base := base) T u_begin h_is_work h_is_keep
      have h_filled_latest := My.has_filled_latest (P := PySem.Challenge.rw_pavedloads_s01_answers.prog) (w := w) (base := base) T u_filled_latest h_begun_at
      have h_can := My.has_can (P := PySem.Challenge.rw_pavedloads_s01_answers.prog) (w := w) (base := base) T u_can h_can_be
      have h_why := My.has_why (P := PySem.Challenge.rw_pavedloads_s01_answers.prog) (w := w) (base := base) T u_why h_first_why_not
      have h_start := My.has_start (P := PySem.Challenge.rw_pavedloads_s01_answers.prog) (w := w) (base := base) T u_start h_can_be h_soonest_start
      have h_start_refusal := My.has_start_refusal (P := PySem.Challenge.rw_pavedloads_s01_answers.prog) (w := w) (base := base) T u_start_refusal h_has_plan
      have h_soonest := My.has_soonest (P := PySem.Challenge.rw_pavedloads_s01_answers.prog) (w := w) (base := base) T u_soonest h_start_refusal h_filled_soonest
      have h_latest := My.has_latest (P := PySem.Challenge.rw_pavedloads_s01_answers.prog) (w := w) (base := base) T u_latest h_start_refusal h_filled_latest
      have h_call_end := My.has_call_end (P := PySem.Challenge.rw_pavedloads_s01_answers.prog) (w := w) (base := base) T u_call_end 
      have h_telling_answer := My.has_telling_answer (P := PySem.Challenge.rw_pavedloads_s01_answers.prog) (w := w) (base := base) T u_telling_answer h_begin h_load h_drive h_less h_lorries h_filling h_laying h_keeping
      have h_ifstart := My.has_ifstart (P := PySem.Challenge.rw_pavedloads_s01_answers.prog) (w := w) (base := base) T u_ifstart h_has_plan
      have h_ages := My.has_ages (P := PySem.Challenge.rw_pavedloads_s01_answers.prog) (w := w) (base := base) T u_ages h_start_refusal h_ages_soonest
      have h_waits := My.has_waits (P := PySem.Challenge.rw_pavedloads_s01_answers.prog) (w := w) (base := base) T u_waits h_start_refusal h_ages_soonest
      have h_ends := My.has_ends (P := PySem.Challenge.rw_pavedloads_s01_answers.prog) (w := w) (base := base) T u_ends h_start_refusal h_begun_at
      have h_tried := My.has_tried (P := PySem.Challenge.rw_pavedloads_s01_answers.prog) (w := w) (base := base) T u_tried h_is_plan
      have h_copy_of := My.has_copy_of (P := PySem.Challenge.rw_pavedloads_s01_answers.prog) (w := w) (base := base) T u_copy_of h_Job
      have h_fewest := My.has_fewest (P := PySem.Challenge.rw_pavedloads_s01_answers.prog) (w := w) (base := base) T u_fewest h_copy_of h_can_be
      have h_leastlay := My.has_leastlay (P := PySem.Challenge.rw_pavedloads_s01_answers.prog) (w := w) (base := base) T u_leastlay h_copy_of h_can_be
      have h_leastkeep := My.has_leastkeep (P := PySem.Challenge.rw_pavedloads_s01_answers.prog) (w := w) (base := base) T u_leastkeep h_copy_of h_can_be
      have h_mostfill := My.has_mostfill (P := PySem.Challenge.rw_pavedloads_s01_answers.prog) (w := w) (base := base) T u_mostfill h_copy_of h_can_be
      have h_spare := My.has_spare (P := PySem.Challenge.rw_pavedloads_s01_answers.prog) (w := w) (base := base) T u_spare h_can_be h_copy_of
      have h_tour := My.has_tour (P := PySem.Challenge.rw_pavedloads_s01_answers.prog) (w := w) (base := base) T u_tour 
      have h_drives := My.has_drives (P := PySem.Challenge.rw_pavedloads_s01_answers.prog) (w := w) (base := base) T u_drives 
      have h_state := My.has_state (P := PySem.Challenge.rw_pavedloads_s01_answers.prog) (w := w) (base := base) T u_state 
      have h_looking_answer := My.has_looking_answer (P := PySem.Challenge.rw_pavedloads_s01_answers.prog) (w := w) (base := base) T u_looking_answer h_can h_why h_start h_soonest h_latest h_ages h_waits h_ifstart h_ends h_tried
      have h_limits_answer := My.has_limits_answer (P := PySem.Challenge.rw_pavedloads_s01_answers.prog) (w := w) (base := base) T u_limits_answer h_fewest h_leastlay h_leastkeep h_mostfill h_spare
      have h_listing_answer := My.has_listing_answer (P := PySem.Challenge.rw_pavedloads_s01_answers.prog) (w := w) (base := base) T u_listing_answer h_tour h_drives h_state
      have h_answer := My.has_answer (P := PySem.Challenge.rw_pavedloads_s01_answers.prog) (w := w) (base := base) T u_answer h_telling_answer h_looking_answer h_limits_answer h_listing_answer
      exact My.ok_answers T FA h_Job h_call_end h_answer
  case S =>
    intro K H xs a hO hwi hask hx
    cases hx with
    | cons h1 h2 =>
      cases h2
      cases h1 with
      | lst hs ha =>
        have e := L2.ints_dw a.1 _ ha
        subst e
        have q : ((Codec.inLen 0 30000 a.1 && a.1.all (Codec.inInt 0 4294967295)) && true) = true := hwi
        rw [Bool.and_eq_true, Bool.and_eq_true] at q
        obtain ⟨l, u⟩ := a
        obtain ⟨ns, en⟩ := Mth.iz_of (l := l) (fun x hx => (Codec.inInt_iff.mp (List.all_eq_true.mp q.1.2 x hx)).1)
        subst en
        refine ⟨_, ns, rfl, ?_, ?_, hask, fun H' p hp => .lst (L2.SqL.of hp) (L2.dw_ints _)⟩
        · unfold My.ivs
          unfold Mth.iz at hs
          rw [List.map_map] at hs
          exact hs
        · have z := (Codec.inNat_iff.mp q.1.1).2
          rw [Mth.iz_length] at z
          exact z
#print axioms PySem.Challenge.cw_pavedloads_s01_answers_holds


