import PyProof.Rows.All
import Wide.All
import OpenK.AllK
import Wide.FinOn
import Lean
import PyProof.EqAt
import PyProof.EqKinds
import PyProof.TupleCall
import PySem.Challenge.RW_lumprow_k16_seats_refused
set_option Elab.async false
set_option linter.all false
set_option maxRecDepth 100000
namespace L2
open PySem PySem.Spec PyProof.Rows

abbrev Key := Sum Int Str
def keyIs : Key → Value → Bool
  | .inl k, v => Value.isInt k v
  | .inr x, v => Value.isStrOf x v
def keyH (w : World) : Key → Int
  | .inl k => hashInt k
  | .inr x => hashStr w x
theorem keyIs_shape : ∀ {k : Key} {v : Value}, keyIs k v = true → (∃ i t, k = Sum.inl i ∧ v = Value.int i t) ∨ (∃ x t, k = Sum.inr x ∧ v = Value.str x t)
  | .inl i, v, h => by
    obtain ⟨t, e⟩ := Value.isInt_shape (k := i) (v := v) h
    exact .inl ⟨i, t, rfl, e⟩
  | .inr x, v, h => by
    obtain ⟨t, e⟩ := Value.isStrOf_shape (x := x) (v := v) h
    exact .inr ⟨x, t, rfl, e⟩
theorem key_ll (a b : Int) : decide ((Sum.inl a : Key) = Sum.inl b) = (a == b) := by
  by_cases e : a = b
  · subst e; simp
  · have h : ¬ (Sum.inl a : Key) = Sum.inl b := fun q => e (Sum.inl.inj q)
    rw [decide_eq_false h]
    exact (beq_eq_false_iff_ne.mpr e).symm
theorem key_rr (a b : Str) : decide ((Sum.inr a : Key) = Sum.inr b) = decide (a = b) := by
  by_cases e : a = b
  · subst e; simp
  · have h : ¬ (Sum.inr a : Key) = Sum.inr b := fun q => e (Sum.inr.inj q)
    rw [decide_eq_false h, decide_eq_false e]
theorem key_lr (a : Int) (b : Str) : decide ((Sum.inl a : Key) = Sum.inr b) = false := decide_eq_false (fun q => nomatch q)
theorem key_rl (a : Str) (b : Int) : decide ((Sum.inr a : Key) = Sum.inl b) = false := decide_eq_false (fun q => nomatch q)

def mixKind (prog : Program) (w : World) : PySem.KeyKind prog w Key where
  is := keyIs
  hash := keyH w
  inj := fun v a b ha hb => by
    rcases keyIs_shape ha with ⟨i, t, rfl, rfl⟩ | ⟨x, t, rfl, rfl⟩
    · rcases keyIs_shape hb with ⟨j, u, rfl, e⟩ | ⟨y, u, rfl, e⟩
      · injection e with e1 _; rw [e1]
      · exact nomatch e
    · rcases keyIs_shape hb with ⟨j, u, rfl, e⟩ | ⟨y, u, rfl, e⟩
      · exact nomatch e
      · injection e with e1 _; rw [e1]
  byValue := fun k v h => by
    rcases keyIs_shape h with ⟨i, t, rfl, rfl⟩ | ⟨x, t, rfl, rfl⟩ <;> rfl
  pyHash := fun hv h => by
    rcases keyIs_shape hv with ⟨i, t, rfl, rfl⟩ | ⟨x, t, rfl, rfl⟩
    · exact wpAny_pyHash_int h
    · exact wpAny_pyHash_str h
  eqBool := fun hu hv h => by
    rcases keyIs_shape hu with ⟨i, t, rfl, rfl⟩ | ⟨x, t, rfl, rfl⟩
    · rcases keyIs_shape hv with ⟨j, u, rfl, rfl⟩ | ⟨y, u, rfl, rfl⟩
      · rw [key_ll] at h; exact wpAny_eqBool_int h
      · rw [key_lr] at h; exact SeqAt.EqAt.int_str i t y u _ _ _ _ h
    · rcases keyIs_shape hv with ⟨j, u, rfl, rfl⟩ | ⟨y, u, rfl, rfl⟩
      · rw [key_rl] at h; exact SeqAt.EqAt.str_int x t j u _ _ _ _ h
      · rw [key_rr] at h; exact wpAny_eqBool_str h
  «strs» := fun k x t v h => by
    rcases keyIs_shape h with ⟨i, u, rfl, e⟩ | ⟨y, u, rfl, e⟩
    · exact nomatch e
    · injection e with e1 _
      subst e1
      cases v <;> rfl

end L2

namespace L2
open PySem PySem.Spec PyProof.Rows

inductive V where
  | non | bl (b : Bool) | int (i : Int) | str (x : Str) | byt (b : Array UInt8) | flt (b : UInt64) | ref (a : Addr) | ty (n : String)
  deriving DecidableEq

def RelV : V → Value → Prop
  | .non, u => u = Value.none
  | .bl b, u => u = Value.bool b
  | .int i, u => ∃ t, u = Value.int i t
  | .str x, u => ∃ t, u = Value.str x t
  | .byt b, u => ∃ t, u = Value.bytes b t
  | .flt b, u => ∃ t, u = Value.float b t
  | .ref a, u => u = Value.ref a
  | .ty n, u => u = Value.type n

abbrev Vals : List V → List Value → Prop := Paired RelV
theorem Vals.length {xs : List V} {us : List Value} (r : Vals xs us) : xs.length = us.length := Paired.length r
theorem Vals.get : ∀ {xs : List V} {us : List Value} {i : Nat} {x : V}, Vals xs us → xs[i]? = some x → ∃ u, us[i]? = some u ∧ RelV x u
  | _, _, _, _, .nil, e => by simp at e
  | _, _, 0, _, .cons r _, e => by simp at e; subst e; exact ⟨_, rfl, r⟩
  | _, _, i + 1, x, .cons _ t, e => by
    obtain ⟨u, h1, h2⟩ := Vals.get (i := i) (x := x) t (by simpa using e)
    exact ⟨u, by simpa using h1, h2⟩
theorem Vals.set {x : V} {u : Value} (r : RelV x u) : ∀ {xs : List V} {us : List Value} (i : Nat), Vals xs us → Vals (xs.set i x) (us.set i u)
  | _, _, _, .nil => .nil
  | _, _, 0, .cons _ t => .cons r t
  | _, _, i + 1, .cons q t => .cons q (Vals.set r i t)
theorem Vals.append : ∀ {xs ys : List V} {us ws : List Value}, Vals xs us → Vals ys ws → Vals (xs ++ ys) (us ++ ws)
  | _, _, _, _, .nil, s => s
  | _, _, _, _, .cons r t, s => .cons r (Vals.append t s)
theorem Vals.take : ∀ {xs : List V} {us : List Value} (n : Nat), Vals xs us → Vals (xs.take n) (us.take n)
  | _, _, 0, _ => .nil
  | _, _, _ + 1, .nil => .nil
  | _, _, n + 1, .cons r t => .cons r (Vals.take n t)
theorem Vals.drop : ∀ {xs : List V} {us : List Value} (n : Nat), Vals xs us → Vals (xs.drop n) (us.drop n)
  | _, _, 0, r => r
  | _, _, _ + 1, .nil => .nil
  | _, _, n + 1, .cons _ t => Vals.drop n t
def RelO : Option V → Option Value → Prop
  | some v, some u => RelV v u
  | none, none => True
  | _, _ => False
def KV {κ : Type} : List (κ × V) → List (κ × Value) → Prop := Paired fun (p : κ × V) (q : κ × Value) => p.1 = q.1 ∧ RelV p.2 q.2

def kV : Key → V
  | .inl i => .int i
  | .inr x => .str x

inductive HO where
  /-- a list -/
  | lst (xs : List V)
  /-- a tuple (never changes) -/
  | tup (xs : List V)
  /-- a dict whose keys are ints and texts; one whose keys are tuples of ints and texts (the empty one is both) -/
  | dK (kvs : List (Key × V)) | dT (kvs : List (List Key × V))
  /-- a set of ints: its members, its size -/
  | set (S : Int → Bool) (n : Nat)
  /-- an instance of the class at C, its dict at dx, its attributes -/
  | ins (C dx : Addr) (fs : List (Str × V))
  /-- the dict of the instance at x -/
  | own (x : Addr)
  /-- the dict of an exception -/
  | xd (fs : List (Str × V))
  /-- a bound method, f of x -/
  | met (f x : Addr)
  /-- a range object lo, lo + 1, .. below hi -/
  | rng (lo hi : Int)
  /-- a thing that is known to the object (the script; a dict while a loop walks it): read, never written while it is so -/
  | frz (o : Obj) (u : HO)
  /-- a code object's table -/
  | tbl (ps : Array Value)
  /-- any other thing, by what is true of its one object (a def of one's own: SetO a S n := HO.ext fun h => ..) -/
  | ext (φ : Heap → Prop)

abbrev Hp := Addr → Option HO
def upd (H : Hp) (a : Addr) (o : HO) : Hp := fun b => if b = a then some o else H b
theorem upd_same {H : Hp} {a : Addr} {o : HO} : upd H a o a = some o := by unfold upd; rw [if_pos rfl]
theorem upd_ne {H : Hp} {a b : Addr} {o : HO} (h : b ≠ a) : upd H a o b = H b := by unfold upd; rw [if_neg h]
theorem ne_of {H : Hp} {a b : Addr} {o u : HO} (h : H a = some o) (h' : H b = some u) (d : o ≠ u) : a ≠ b := by
  intro e; subst e; rw [h] at h'; exact d (Option.some.inj h')
theorem ne_of_none {H : Hp} {a b : Addr} {o : HO} (h : H a = some o) (h' : H b = none) : a ≠ b := by
  intro e; subst e; rw [h] at h'; cases h'

section
variable (P : Program) (w : World)
def ObjOk (H : Hp) (h : Heap) (a : Addr) : HO → Prop
  | .lst xs => xs.length ≤ sizeLine ∧ ∃ (its : List Value) (n : Nat), Vals xs its ∧ h.get? a = some { cls := .type "list", data := .seq its.toArray n }
  | .tup xs => xs.length ≤ sizeLine ∧ ∃ its : List Value, Vals xs its ∧ IsTup h a its.toArray
  | .dK kvs => kvs.length ≤ sizeLine ∧ (a == sysModules) = false ∧ ∃ vs, KV kvs vs ∧ h.DictOf (mixKind P w) a vs
  | .dT kvs => kvs.length ≤ sizeLine ∧ (a == sysModules) = false ∧ ∃ xs : List (List Key × Addr × Value),
      Paired (fun (p : List Key × V) (q : List Key × Addr × Value) => p.1 = q.1 ∧ H q.2.1 = some (.tup (p.1.map kV)) ∧ RelV p.2 q.2.2) kvs xs ∧
      ∃ o es ep, h.get? a = some o ∧ o.ExactDict ∧ o.data = .dict es ep ∧ es.toList = xs.map (entryOfKey (tupleKind (mixKind P w))) ∧ (xs.map (·.1)).Nodup
  | .set S n => h.SetOf (intKind P w) a S n
  | .ins C dx fs => H dx = some (.own a) ∧ fs.length ≤ 1000 ∧ dx ≠ a ∧ h.get? a = some (PySem.W.instObj C dx) ∧
      ∃ mA, h.Ns1 dx mA ∧ (∀ f, RelO (fs.lookup f) (mA f)) ∧ PySem.Within mA (fs.map (·.1))
  | .own _ => ∃ o, h.get? a = some o
  | .xd fs => ∃ mA, h.Ns1 a mA ∧ ∀ f, RelO (fs.lookup f) (mA f)
  | .rng lo hi => ∃ t u v, h.get? a = some { cls := .type "range", data := .fields #[.int lo t, .int hi u, .int 1 v] }
  | .frz o u => h.get? a = some o ∧ ObjOk H h a u
  | .tbl ps => h.get? a = some { cls := .none, data := .fields ps }
  | .met f x => h.get? a = some (PySem.W.methodObj (.ref f) (.ref x))
  | .ext φ => φ h ∧ (∃ o, h.get? a = some o) ∧ ∀ h1 h2 : Heap, φ h1 → (∀ o, h1.get? a = some o → h2.get? a = some o) → φ h2
def HOk (H : Hp) (h : Heap) : Prop := ∀ a o, H a = some o → ObjOk P w H h a o
end

section
variable {P : Program} {w : World} {H H' : Hp} {h h' : Heap} {a : Addr} {o : HO}
theorem ObjOk.lt (x : ObjOk P w H h a o) : a < h.objs.size := by
  cases o with
  | lst xs => obtain ⟨_, _, _, _, e⟩ := x; exact Heap.lt_size e
  | tup xs => obtain ⟨_, _, _, p⟩ := x; exact p.lt
  | dK kvs => obtain ⟨_, _, _, _, o, _, _, e, _⟩ := x; exact Heap.lt_size e
  | dT kvs => obtain ⟨_, _, _, _, o, _, _, e, _⟩ := x; exact Heap.lt_size e
  | set S n => obtain ⟨o, _, _, _, e, _⟩ := x; exact Heap.lt_size e
  | ins C dx fs => obtain ⟨_, _, _, e, _⟩ := x; exact Heap.lt_size e
  | own y => obtain ⟨_, e⟩ := x; exact Heap.lt_size e
  | xd fs => obtain ⟨_, ⟨_, _, _, e, _⟩, _⟩ := x; exact Heap.lt_size e
  | rng lo hi => obtain ⟨_, _, _, e⟩ := x; exact Heap.lt_size e
  | frz ob u => obtain ⟨e, _⟩ := x; exact Heap.lt_size e
  | tbl ps => exact Heap.lt_size (show h.get? a = some _ from x)
  | met f y => exact Heap.lt_size (show h.get? a = some _ from x)
  | ext φ => obtain ⟨_, ⟨_, e⟩, _⟩ := x; exact Heap.lt_size e
theorem Paired.mapP {α β : Type} {F G : α → β → Prop} : ∀ {l₁ : List α} {l₂ : List β}, Paired F l₁ l₂ → (∀ a b, F a b → G a b) → Paired G l₁ l₂
  | _, _, .nil, _ => .nil
  | _, _, .cons r t, f => .cons (f _ _ r) (Paired.mapP t f)
theorem ObjOk.stay (x : ObjOk P w H h a o) (k : ∀ b u, (b = a ∨ H b = some (.own a)) → h.get? b = some u → h'.get? b = some u)
    (ho : ∀ b, H b = some (.own a) → H' b = some (.own a)) (ht : ∀ b xs, H b = some (.tup xs) → H' b = some (.tup xs)) : ObjOk P w H' h' a o := by
  induction o with
  | lst xs => obtain ⟨z, its, n, r, e⟩ := x; exact ⟨z, its, n, r, k _ _ (.inl rfl) e⟩
  | tup xs => obtain ⟨z, its, r, ob, e, c⟩ := x; exact ⟨z, its, r, ob, k _ _ (.inl rfl) e, c⟩
  | dK kvs => obtain ⟨z, y, vs, r, ob, es, ep, e, c⟩ := x; exact ⟨z, y, vs, r, ob, es, ep, k _ _ (.inl rfl) e, c⟩
  | dT kvs =>
    obtain ⟨z, y, xs, r, ob, es, ep, e, c⟩ := x
    exact ⟨z, y, xs, Paired.mapP r fun p q z => ⟨z.1, ht _ _ z.2.1, z.2.2⟩, ob, es, ep, k _ _ (.inl rfl) e, c⟩
  | set S n => obtain ⟨ob, es, ep, t, e, c⟩ := x; exact ⟨ob, es, ep, t, k _ _ (.inl rfl) e, c⟩
  | ins C dx fs =>
    obtain ⟨d, z, ne, e, mA, ⟨od, es, ep, e2, c⟩, r⟩ := x
    exact ⟨ho _ d, z, ne, k _ _ (.inl rfl) e, mA, ⟨od, es, ep, k _ _ (.inr d) e2, c⟩, r⟩
  | own y => obtain ⟨ob, e⟩ := x; exact ⟨ob, k _ _ (.inl rfl) e⟩
  | xd fs => obtain ⟨mA, ⟨od, es, ep, e, c⟩, r⟩ := x; exact ⟨mA, ⟨od, es, ep, k _ _ (.inl rfl) e, c⟩, r⟩
  | rng lo hi => obtain ⟨t, u, v, e⟩ := x; exact ⟨t, u, v, k _ _ (.inl rfl) e⟩
  | frz ob u ih => obtain ⟨e, q⟩ := x; exact ⟨k _ _ (.inl rfl) e, ih q⟩
  | tbl ps =>
    have e : h.get? a = some { cls := .none, data := .fields ps } := x
    show h'.get? a = some { cls := .none, data := .fields ps }
    exact k a _ (.inl rfl) e
  | met f y =>
    have e : h.get? a = some (PySem.W.methodObj (.ref f) (.ref y)) := x
    show h'.get? a = some (PySem.W.methodObj (.ref f) (.ref y))
    exact k a _ (.inl rfl) e
  | ext φ => obtain ⟨p, ⟨o, e⟩, st⟩ := x; exact ⟨st _ _ p fun o q => k _ _ (.inl rfl) q, ⟨o, k _ _ (.inl rfl) e⟩, st⟩
theorem HOk.lt (x : HOk P w H h) (e : H a = some o) : a < h.objs.size := (x a o e).lt
theorem HOk.fresh (x : HOk P w H h) (e : h.objs.size ≤ a) : H a = none := by
  cases q : H a with
  | none => rfl
  | some u => exact absurd (Nat.lt_of_lt_of_le (x.lt q) e) (Nat.lt_irrefl _)
theorem HOk.kept (x : HOk P w H h) (k : ∀ b u, h.get? b = some u → h'.get? b = some u) : HOk P w H h' := fun a o e =>
  (x a o e).stay (fun b u _ q => k b u q) (fun _ q => q) fun _ _ q => q
theorem HOk.laid (x : HOk P w H h) (k : ∀ b u, h.get? b = some u → h'.get? b = some u) (hp : h.objs.size ≤ a) (new : ObjOk P w (upd H a o) h' a o) : HOk P w (upd H a o) h' := fun b u e => by
  have hn := x.fresh hp
  by_cases hb : b = a
  · subst hb; rw [upd_same] at e; cases e; exact new
  · rw [upd_ne hb] at e
    exact (x b u e).stay (fun c v _ q => k c v q) (fun c q => by rw [upd_ne (ne_of_none q hn)]; exact q) fun c xs q => by rw [upd_ne (ne_of_none q hn)]; exact q
end

def Rd (H : Hp) (a : Addr) (u : HO) : Prop := H a = some u ∨ ∃ o, H a = some (.frz o u)
theorem Rd.of {H : Hp} {a : Addr} {u : HO} (h : H a = some u) : Rd H a u := .inl h
theorem Rd.ok {P : Program} {w : World} {H : Hp} {h : Heap} {a : Addr} {u : HO} (r : Rd H a u) (x : HOk P w H h) : ObjOk P w H h a u := by
  rcases r with r | ⟨o, r⟩
  · exact x a u r
  · obtain ⟨_, q⟩ := x a _ r
    exact q
def Mut : Option HO → Prop
  | some (.lst _) => True
  | some (.dK _) => True
  | some (.dT _) => True
  | some (.set _ _) => True
  | some (.ins _ _ _) => True
  | some (.ext _) => True
  | _ => False
section
variable {P : Program} {w : World} {H : Hp} {h h' : Heap} {x e : Addr} {o' : HO}
theorem HOk.write (ok : HOk P w H h) (mu : Mut (H x)) (he : e = x ∨ H e = some (.own x)) (k : ∀ b u, b ≠ e → h.get? b = some u → h'.get? b = some u) (heo : ∃ u, h'.get? e = some u)
    (new : ObjOk P w (upd H x o') h' x o') : HOk P w (upd H x o') h' := fun b u q => by
  have nown : ∀ c y, H c = some (.own y) → c ≠ x := fun c y r z => by subst z; rw [r] at mu; exact mu
  have ntup : ∀ c xs, H c = some (.tup xs) → c ≠ x := fun c xs r z => by subst z; rw [r] at mu; exact mu
  by_cases hb : b = x
  · subst hb; rw [upd_same] at q; cases q; exact new
  · rw [upd_ne hb] at q
    by_cases hbe : b = e
    · have q' : H b = some (.own x) := by
        rcases he with z | z
        · exact absurd (hbe.trans z) hb
        · rw [hbe]; exact z
      rw [q] at q'; cases q'
      obtain ⟨v, hv⟩ := heo
      exact ⟨v, by rw [hbe]; exact hv⟩
    · refine (ok b u q).stay (fun c v hc r => k c v ?_ r) (fun c r => by rw [upd_ne (nown c b r)]; exact r) fun c xs r => by rw [upd_ne (ntup c xs r)]; exact r
      rcases hc with rfl | hc
      · exact hbe
      · rintro rfl
        rcases he with z | z
        · exact nown c b hc z
        · rw [hc] at z; cases z; exact hb rfl
end

structure Un (fs ex : List Addr) (H H' : Hp) (h h' : Heap) : Prop where
  keep : ∀ b o, h.get? b = some o → H b = none → b ∉ fs → b ∉ ex → h'.get? b = some o
  slot : ∀ b o, h.get? b = some o → H b = none → b ∈ fs → b ∉ ex → ∃ sl, h'.get? b = some { o with slots := sl }
  free : ∀ b o, h.get? b = some o → H b = none → b ∉ ex → H' b = none
  there : ∀ b o, h.get? b = some o → b ∉ ex → ∃ o', h'.get? b = some o'
  tups : ∀ b xs, H b = some (.tup xs) → H' b = some (.tup xs)
  frzs : ∀ b o u, H b = some (.frz o u) → H' b = some (.frz o u)
  tbls : ∀ b ps, H b = some (.tbl ps) → ∃ more, H' b = some (.tbl (ps ++ more))
section
variable {fs fs' ex ex' : List Addr} {H H1 H2 : Hp} {h h1 h2 h' : Heap} {a x e : Addr} {o : HO}
theorem Un.any (u : Un fs ex H H1 h h1) {b : Addr} {ob : Obj} (q : h.get? b = some ob) (n : H b = none) (hx : b ∉ ex) : ∃ sl, h1.get? b = some { ob with slots := sl } := by
  by_cases hb : b ∈ fs
  · exact u.slot b ob q n hb hx
  · exact ⟨ob.slots, u.keep b ob q n hb hx⟩
theorem Un.trans (a : Un fs ex H H1 h h1) (b : Un fs ex H1 H2 h1 h2) : Un fs ex H H2 h h2 where
  keep := fun c ob q n hc hx => b.keep c ob (a.keep c ob q n hc hx) (a.free c ob q n hx) hc hx
  slot := fun c ob q n hc hx => by
    obtain ⟨sl, e1⟩ := a.slot c ob q n hc hx
    obtain ⟨sl', e2⟩ := b.slot c _ e1 (a.free c ob q n hx) hc hx
    exact ⟨sl', e2⟩
  free := fun c ob q n hx => by
    obtain ⟨o', e1⟩ := a.there c ob q hx
    exact b.free c o' e1 (a.free c ob q n hx) hx
  there := fun c ob q hx => by
    obtain ⟨o', e1⟩ := a.there c ob q hx
    exact b.there c o' e1 hx
  tups := fun c xs q => b.tups c xs (a.tups c xs q)
  frzs := fun c ob xs q => b.frzs c ob xs (a.frzs c ob xs q)
  tbls := fun c ps q => by
    obtain ⟨m1, e1⟩ := a.tbls c ps q
    obtain ⟨m2, e2⟩ := b.tbls c _ e1
    exact ⟨m1 ++ m2, by rw [e2, Array.append_assoc]⟩
theorem Un.kept (k : ∀ b u, h.get? b = some u → h'.get? b = some u) : Un fs ex H H h h' :=
  ⟨fun b ob q _ _ _ => k b ob q, fun b ob q _ _ _ => ⟨ob.slots, k b ob q⟩, fun _ _ _ n _ => n, fun b ob q _ => ⟨ob, k b ob q⟩, fun _ _ q => q, fun _ _ _ q => q, fun _ ps q => ⟨#[], by rw [q]; simp⟩⟩
theorem Un.refl : Un fs ex H H h h := Un.kept fun _ _ q => q
theorem Un.laid (k : ∀ b u, h.get? b = some u → h'.get? b = some u) (hp : h.objs.size ≤ a) (hn : H a = none) : Un fs ex H (upd H a o) h h' where
  keep := fun b u q _ _ _ => k b u q
  slot := fun b u q _ _ _ => ⟨u.slots, k b u q⟩
  free := fun b u q n _ => by rw [upd_ne (Nat.ne_of_lt (Nat.lt_of_lt_of_le (Heap.lt_size q) hp))]; exact n
  there := fun b u q _ => ⟨u, k b u q⟩
  tups := fun b xs q => by rw [upd_ne (ne_of_none q hn)]; exact q
  frzs := fun b u xs q => by rw [upd_ne (ne_of_none q hn)]; exact q
  tbls := fun b ps q => ⟨#[], by rw [upd_ne (ne_of_none q hn), q]; simp⟩
theorem Un.write (mu : Mut (H x)) (he : e = x ∨ H e = some (.own x)) (k : ∀ b u, b ≠ e → h.get? b = some u → h'.get? b = some u) (heo : ∃ u, h'.get? e = some u) : Un fs ex H (upd H x o) h h' := by
  have hx : ∀ b, H b = none → b ≠ x := fun b n z => by subst z; rw [n] at mu; exact mu
  have hb : ∀ b, H b = none → b ≠ e := fun b n z => by
    subst z
    rcases he with r | r
    · exact hx b n r
    · rw [n] at r; cases r
  have hm : ∀ b u, H b = some u → ¬ Mut (some u) → b ≠ x := fun b u q nm z => by subst z; rw [q] at mu; exact nm mu
  refine ⟨fun b u q n _ _ => k b u (hb b n) q, fun b u q n _ _ => ⟨u.slots, k b u (hb b n) q⟩, fun b u q n _ => by rw [upd_ne (hx b n)]; exact n, fun b u q _ => ?_,
    fun b xs q => by rw [upd_ne (hm b _ q fun z => z)]; exact q, fun b u xs q => by rw [upd_ne (hm b _ q fun z => z)]; exact q, fun b ps q => ⟨#[], by rw [upd_ne (hm b _ q fun z => z), q]; simp⟩⟩
  by_cases hbe : b = e
  · subst hbe; exact heo
  · exact ⟨u, k b u hbe q⟩
theorem Un.mono (u : Un fs ex H H1 h h1) (hs : ∀ b ∈ fs, b ∈ fs') (hx : ∀ b ∈ ex, b ∈ ex') : Un fs' ex' H H1 h h1 :=
  ⟨fun b ob q n hb he => u.keep b ob q n (fun z => hb (hs b z)) fun z => he (hx b z), fun _ _ q n _ he => u.any q n fun z => he (hx _ z), fun b ob q n he => u.free b ob q n fun z => he (hx b z), fun b ob q he => u.there b ob q fun z => he (hx b z), u.tups, u.frzs, u.tbls⟩
end

def trk (h : Heap) (H : Hp) : List Addr := (List.range h.objs.size).filter fun a => (H a).isSome
def hidT (h : Heap) (H : Hp) : Heap := PySem.W.hideAll h (trk h H)
theorem hidT_size (h : Heap) (H : Hp) : (hidT h H).objs.size = h.objs.size := PySem.W.hideAll_size _ _
theorem hidT_get {h : Heap} {H : Hp} {b : Addr} {o : Obj} (e : h.get? b = some o) (n : H b = none) : (hidT h H).get? b = some o :=
  PySem.W.hideAll_get _ e fun hm => by
    have q : (H b).isSome = true := (List.mem_filter.mp hm).2
    rw [n] at q; simp at q
theorem of_hidT {h : Heap} {H : Hp} {b : Addr} {o : Obj} (e : (hidT h H).get? b = some o) : h.get? b = some o ∧ H b = none := by
  have e' : h.get? b = some o := PySem.W.of_hideAll (trk h H) e
  refine ⟨e', ?_⟩
  cases q : H b with
  | none => rfl
  | some x =>
    have hm : b ∈ trk h H := List.mem_filter.mpr ⟨List.mem_range.mpr (Heap.lt_size e'), by simp [q]⟩
    have z : (hidT h H).get? b = none := PySem.W.hideAll_none (trk h H) hm
    rw [z] at e; cases e

def allNews (g h : Heap) (L : Addr) : List (Addr × Obj) := (List.range h.objs.size).filterMap fun a => if a = L ∨ (g.get? a).isSome = true then none else (h.get? a).map fun o => (a, o)
def rest (g h : Heap) (L d : Addr) : List (Addr × Obj) := (allNews g h L).filter fun p => decide (p.1 ≠ d)
end L2

namespace L2
open PySem PySem.Spec PyProof.Rows

structure Mod (K : PySem.W.Frag) (mg : Str → Option Value) (base : Heap) : Prop where
  kin : K.In base
  glob : base.Ns mainGlobals mg
  blt : ∃ mb, base.Ns builtinsNs mb ∧ ∀ x : Str, x ≠ "__name__" → mb x = bootBuiltins x
  nolimit : base.NoLimit

structure Cx where
  prog : Program
  w : World
  K : PySem.W.Frag
  mg : Str → Option Value
  base : Heap
  A : Around
  N : List Str
  s₀ : Shared
  H₀ : Hp
  env : Env
  outer : List Env
  stack : List Env
  ex : List Addr
  fn : Str → Bool
  calm : Bool
  pn : List (Addr × Obj)
  xe : Value → Shared → Prop
def frs (l : List Env) : List Addr := l.filterMap (·.frame)
abbrev Cx.fs (X : Cx) : List Addr := frs X.outer

def Vis (sc : Scope) (x : Str) : Prop := sc.names.lookup x = some .local ∨ sc.names.lookup x = some .cell ∨ sc.names.lookup x = some .free
def Loc (sc : Scope) (x : Str) : Prop := sc.names.lookup x = some .local ∨ sc.names.lookup x = some .cell
def Look (env : Env) (h : Heap) (m : Str → Option Value) (x : Str) (u : Value) : Prop :=
  (env.kindOf x = some .local ∧ m x = some u) ∨ ((env.kindOf x = some .cell ∨ env.kindOf x = some .free) ∧ ∃ c, env.cells.lookup x = some c ∧ h.IsCell c (some u))

structure Cx.Ok (X : Cx) : Prop where
  mod : Mod X.K X.mg X.base
  kind : X.env.scope.kind = .function
  glob : X.env.globals = mainGlobals
  blt : X.env.builtins = builtinsNs
  above : X.s₀.heap.objs.size ≤ X.env.locals
  inj : ∀ x y c, X.env.cells.lookup x = some c → X.env.cells.lookup y = some c → x = y
  has : ∀ x, (X.env.kindOf x = some .cell ∨ X.env.kindOf x = some .free) → ∃ c, X.env.cells.lookup x = some c
  cab : ∀ x c, X.fn x = true → X.env.cells.lookup x = some c → X.s₀.heap.objs.size ≤ c
  hd : X.calm = true → X.A.handled = none
  frames : X.A.frames = some X.stack
  stk : X.stack = X.outer ∨ (X.stack = X.env :: X.outer ∧ X.env.frame = some X.env.locals)
  exf : ∀ b ∈ X.ex, b ≠ X.env.locals ∧ ∀ x c, X.env.cells.lookup x = some c → c ≠ b
  bs : ∀ b o, X.base.get? b = some o → X.s₀.heap.get? b = some o ∧ X.H₀ b = none
  bsz : X.base.objs.size ≤ X.s₀.heap.objs.size
  noex : ∀ b o, X.base.get? b = some o → b ∉ X.ex
  exfs : ∀ b ∈ X.ex, b ∉ X.fs
  funs : X.s₀.heap.FunFrames X.base X.outer
  frf : ∀ b ∈ X.fs, X.H₀ b = none

structure Inv (X : Cx) (pins : List (Addr × Obj)) (σ : List (Option V)) (H : Hp) (s : Shared) : Prop where
  ok : X.Ok
  os : s.os = X.s₀.os
  bare : AllBare s.gens
  base : Un X.fs X.ex X.H₀ H X.s₀.heap s.heap
  loc : ∃ m, s.heap.Ns X.env.locals m ∧ ∀ (i : Nat) (x : Str) (v : V), X.N[i]? = some x → σ[i]? = some (some v) → Vis X.env.scope x → ∃ u, RelV v u ∧ Look X.env s.heap m x u
  cell : ∀ x c, X.env.cells.lookup x = some c → ∃ v, s.heap.IsCell c v
  free : H X.env.locals = none
  freeC : ∀ x c, X.env.cells.lookup x = some c → H c = none
  pin : ∀ p ∈ X.pn ++ pins, s.heap.get? p.1 = some p.2 ∧ H p.1 = none ∧ p.1 ≠ X.env.locals ∧ p.1 ∉ X.fs ∧ ∀ v, p.2.data ≠ .cell v
  hok : HOk X.prog X.w H s.heap
  len : σ.length = X.N.length

section
variable {X : Cx} {pins : List (Addr × Obj)} {σ : List (Option V)} {H H' : Hp} {s : Shared} {h' : Heap}

theorem Cx.Ok.nofr (ok : X.Ok) {b : Addr} {o : Obj} (e : X.base.get? b = some o) : b ∉ X.fs := fun hb => by
  have := (ok.funs.mem hb).1
  rw [e] at this; cases this
theorem Inv.bs (I : Inv X pins σ H s) : ∀ b o, X.base.get? b = some o → s.heap.get? b = some o ∧ H b = none := fun b o e =>
  ⟨I.base.keep b o (I.ok.bs b o e).1 (I.ok.bs b o e).2 (I.ok.nofr e) (I.ok.noex b o e), I.base.free b o (I.ok.bs b o e).1 (I.ok.bs b o e).2 (I.ok.noex b o e)⟩
theorem Inv.bk (I : Inv X pins σ H s) : ∀ b o, X.base.get? b = some o → s.heap.get? b = some o := fun b o e => (I.bs b o e).1
theorem Inv.mod (I : Inv X pins σ H s) : Mod X.K X.mg X.base := I.ok.mod
theorem Inv.kIn (I : Inv X pins σ H s) : X.K.In s.heap := I.ok.mod.kin.keeps I.bk
theorem Inv.nolimit (I : Inv X pins σ H s) : s.heap.NoLimit := I.ok.mod.nolimit.keeps I.bk
theorem Inv.lt (I : Inv X pins σ H s) : X.env.locals < s.heap.objs.size := let ⟨_, hn, _⟩ := I.loc; hn.lt
theorem Inv.sz (I : Inv X pins σ H s) : X.s₀.heap.objs.size ≤ s.heap.objs.size := Nat.le_trans I.ok.above (Nat.le_of_lt I.lt)
theorem Inv.nofs (I : Inv X pins σ H s) {a : Addr} (h : s.heap.objs.size ≤ a) : a ∉ X.fs := fun hb => by
  obtain ⟨_, o, ho, _⟩ := I.ok.funs.mem hb
  exact absurd (Nat.lt_of_lt_of_le (Heap.lt_size ho) (Nat.le_trans I.sz h)) (Nat.lt_irrefl _)
theorem Inv.cne (I : Inv X pins σ H s) : ∀ x c, X.env.cells.lookup x = some c → c ≠ X.env.locals := fun x c e z => by
  obtain ⟨v, o, ho, hd⟩ := I.cell x c e
  obtain ⟨m, ⟨o', es, ep, ho', hd', _⟩, _⟩ := I.loc
  rw [z, ho'] at ho; cases ho; rw [hd'] at hd; cases hd
theorem Inv.funs (I : Inv X pins σ H s) : s.heap.FunFrames X.base X.outer := by
  have all : ∀ (l : List Env), (∀ b ∈ frs l, b ∈ X.fs) → X.s₀.heap.FunFrames X.base l → s.heap.FunFrames X.base l := by
    intro l
    induction l with
    | nil => intro _ _; trivial
    | cons env r ih =>
      intro hs hl
      obtain ⟨hk, ⟨L, o, hf, hn, ho, hd⟩, hr⟩ := hl
      have hL : L ∈ X.fs := hs L (by unfold frs; rw [List.filterMap_cons, hf]; exact List.mem_cons_self)
      obtain ⟨sl, e⟩ := I.base.slot L o ho (I.ok.frf L hL) hL fun z => I.ok.exfs L z hL
      exact ⟨hk, ⟨L, _, hf, hn, e, hd⟩, ih (fun b hb => hs b (by unfold frs; rw [List.filterMap_cons, hf]; exact List.mem_cons_of_mem _ hb)) hr⟩
  exact all X.outer (fun _ hb => hb) I.ok.funs

theorem Inv.stack (I : Inv X pins σ H s) : s.heap.FunFrames X.base X.stack := by
  rcases I.ok.stk with e | ⟨e, hf⟩
  · rw [e]; exact I.funs
  · rw [e]
    obtain ⟨m, hn, _⟩ := I.loc
    refine .cons (by rw [I.ok.kind]; decide) hf hn ?_ I.funs
    exact Heap.get?_none_of_le (Nat.le_trans I.ok.bsz I.ok.above)
theorem Inv.stkSub (I : Inv X pins σ H s) : ∀ b ∈ frs X.stack, b ∈ X.env.locals :: X.fs := fun b hb => by
  rcases I.ok.stk with e | ⟨e, hf⟩
  · rw [e] at hb; exact List.mem_cons_of_mem _ hb
  · rw [e] at hb
    unfold frs at hb
    rw [List.filterMap_cons, hf] at hb
    exact hb
theorem Inv.stkFree (I : Inv X pins σ H s) : ∀ b ∈ frs X.stack, H b = none := fun b hb => by
  rcases List.mem_cons.mp (I.stkSub b hb) with e | hb
  · rw [e]; exact I.free
  · obtain ⟨_, o, ho, _⟩ := I.ok.funs.mem hb
    exact I.base.free b o ho (I.ok.frf b hb) fun z => I.ok.exfs b z hb

theorem Inv.step {g' : Array GenState} {t' : Nat} {d' : Drawn} {ch : List Addr} (I : Inv X pins σ H s)
    (hch : ∀ b ∈ ch, (b ∈ X.ex ∨ X.s₀.heap.objs.size ≤ b) ∧ b ≠ X.env.locals ∧ (∀ x c, X.env.cells.lookup x = some c → c ≠ b) ∧ ∀ p ∈ X.pn ++ pins, p.1 ≠ b)
    (keep : ∀ b o, b ≠ X.env.locals → b ∉ X.fs → b ∉ ch → s.heap.get? b = some o → H b = none → h'.get? b = some o)
    (slot : ∀ b o, b ≠ X.env.locals → b ∈ X.fs → b ∉ ch → s.heap.get? b = some o → H b = none → ∃ sl, h'.get? b = some { o with slots := sl }) (free : ∀ b o, b ∉ ch → s.heap.get? b = some o → H b = none → H' b = none)
    (there : ∀ b o, b ∉ ch → s.heap.get? b = some o → ∃ o', h'.get? b = some o')
    (tups : ∀ b xs, H b = some (.tup xs) → H' b = some (.tup xs)) (frzs : ∀ b o u, H b = some (.frz o u) → H' b = some (.frz o u)) (tbls : ∀ b ps, H b = some (.tbl ps) → ∃ more, H' b = some (.tbl (ps ++ more)))
    (ns : ∀ m, s.heap.Ns X.env.locals m → h'.Ns X.env.locals m) (hok : HOk X.prog X.w H' h') (hg : AllBare g') :
    Inv X pins σ H' { s with heap := h', gens := g', drawn := d', toks := t' } := by
  have neL : ∀ b o, X.s₀.heap.get? b = some o → b ≠ X.env.locals := fun b o e => Nat.ne_of_lt (Nat.lt_of_lt_of_le (Heap.lt_size e) I.ok.above)
  have neC : ∀ b o, X.s₀.heap.get? b = some o → b ∉ X.ex → b ∉ ch := fun b o e hx hb => by
    rcases (hch b hb).1 with z | z
    · exact hx z
    · exact absurd (Nat.lt_of_lt_of_le (Heap.lt_size e) z) (Nat.lt_irrefl _)
  have cellK : ∀ x c, X.env.cells.lookup x = some c → ∀ v, s.heap.IsCell c v → h'.IsCell c v := fun x c e v ⟨o, ho, hd⟩ => by
    have nch : c ∉ ch := fun z => (hch c z).2.2.1 x c e rfl
    by_cases hc : c ∈ X.fs
    · obtain ⟨sl, q⟩ := slot c o (I.cne x c e) hc nch ho (I.freeC x c e)
      exact ⟨_, q, hd⟩
    · exact ⟨o, keep c o (I.cne x c e) hc nch ho (I.freeC x c e), hd⟩
  refine ⟨I.ok, I.os, hg, ⟨fun b o e n hb hx => ?_, fun b o e n hb hx => ?_, fun b o e n hx => ?_, fun b o e hx => ?_, fun b xs e => tups b xs (I.base.tups b xs e), fun b o xs e => frzs b o xs (I.base.frzs b o xs e), fun b ps e => ?_⟩, ?_, fun x c e => ?_, ?_, fun x c e => ?_, fun p hp => ?_, hok, I.len⟩
  · exact keep b o (neL b o e) hb (neC b o e hx) (I.base.keep b o e n hb hx) (I.base.free b o e n hx)
  · obtain ⟨sl, e1⟩ := I.base.slot b o e n hb hx
    obtain ⟨sl', e2⟩ := slot b _ (neL b o e) hb (neC b o e hx) e1 (I.base.free b o e n hx)
    exact ⟨sl', e2⟩
  · obtain ⟨o', e1⟩ := I.base.there b o e hx
    exact free b o' (neC b o e hx) e1 (I.base.free b o e n hx)
  · obtain ⟨o', e1⟩ := I.base.there b o e hx
    exact there b o' (neC b o e hx) e1
  · obtain ⟨m1, e1⟩ := I.base.tbls b ps e
    obtain ⟨m2, e2⟩ := tbls b _ e1
    exact ⟨m1 ++ m2, by rw [e2, Array.append_assoc]⟩
  · obtain ⟨m, hn, hl⟩ := I.loc
    refine ⟨m, ns m hn, fun i x v e1 e2 e3 => ?_⟩
    obtain ⟨u, r, l⟩ := hl i x v e1 e2 e3
    refine ⟨u, r, ?_⟩
    rcases l with l | ⟨k, c, e, z⟩
    · exact .inl l
    · exact .inr ⟨k, c, e, cellK x c e _ z⟩
  · obtain ⟨v, z⟩ := I.cell x c e
    exact ⟨v, cellK x c e v z⟩
  · obtain ⟨m, ⟨o, _, _, ho, _⟩, _⟩ := I.loc
    exact free _ o (fun z => (hch _ z).2.1 rfl) ho I.free
  · obtain ⟨v, o, ho, hd⟩ := I.cell x c e
    exact free c o (fun z => (hch c z).2.2.1 x c e rfl) ho (I.freeC x c e)
  · obtain ⟨e, n, ne, nf, d⟩ := I.pin p hp
    have nch : p.1 ∉ ch := fun z => (hch p.1 z).2.2.2 p hp rfl
    exact ⟨keep p.1 p.2 ne nf nch e n, free p.1 p.2 nch e n, ne, nf, d⟩
theorem Inv.un {t' : Nat} (I : Inv X pins σ H s) (u : Un X.fs [] H H' s.heap h') (hok : HOk X.prog X.w H' h') : Inv X pins σ H' { s with heap := h', toks := t' } := by
  obtain ⟨m, ⟨o, es, ep, ho, r⟩, _⟩ := id I.loc
  obtain ⟨sl, hL⟩ := u.any ho I.free (by simp)
  exact I.step (g' := s.gens) (d' := s.drawn) (ch := []) (fun _ z => nomatch z) (fun b o _ hb _ e n => u.keep b o e n hb (by simp)) (fun b o _ hb _ e n => u.slot b o e n hb (by simp)) (fun b o _ e n => u.free b o e n (by simp)) (fun b o _ e => u.there b o e (by simp)) u.tups u.frzs u.tbls (fun m' hm => by
    obtain ⟨o', es', ep', ho', r'⟩ := hm
    rw [ho] at ho'; cases ho'
    exact ⟨_, es', ep', hL, r'⟩) hok I.bare
theorem Inv.call {g' : Array GenState} {t' : Nat} {d' : Drawn} {ch : List Addr} (I : Inv X pins σ H s) (u : Un (frs X.stack) ch H H' s.heap h') (hok : HOk X.prog X.w H' h') (hg : AllBare g')
    (hch : ∀ b ∈ ch, (b ∈ X.ex ∨ X.s₀.heap.objs.size ≤ b) ∧ b ≠ X.env.locals ∧ (∀ x c, X.env.cells.lookup x = some c → c ≠ b) ∧ ∀ p ∈ X.pn ++ pins, p.1 ≠ b) :
    Inv X pins σ H' { s with heap := h', gens := g', drawn := d', toks := t' } := by
  obtain ⟨m, ⟨o, es, ep, ho, r⟩, _⟩ := id I.loc
  obtain ⟨sl, hL⟩ := u.any ho I.free fun z => (hch _ z).2.1 rfl
  exact I.step (ch := ch) hch (fun b o hL hb hc e n => u.keep b o e n (fun z => (List.mem_cons.mp (I.stkSub b z)).elim hL hb) hc) (fun b o _ _ hc e n => u.any e n hc) (fun b o hc e n => u.free b o e n hc) (fun b o hc e => u.there b o e hc) u.tups u.frzs u.tbls (fun m' hm => by
    obtain ⟨o', es', ep', ho', r'⟩ := hm
    rw [ho] at ho'; cases ho'
    exact ⟨_, es', ep', hL, r'⟩) hok hg
theorem Inv.turned {t' : Nat} {it : Addr} (I : Inv X pins σ H s) (k : ∀ b o, b ≠ it → s.heap.get? b = some o → h'.get? b = some o) (hn : H it = none) (hL : it ≠ X.env.locals)
    (h1 : it ∈ X.ex ∨ X.s₀.heap.objs.size ≤ it) (h2 : ∀ x c, X.env.cells.lookup x = some c → c ≠ it) (h3 : ∀ p ∈ X.pn ++ pins, p.1 ≠ it) : Inv X pins σ H { s with heap := h', toks := t' } := by
  have nit : ∀ b u, H b = some u → b ≠ it := fun b u e z => by rw [z, hn] at e; cases e
  refine I.step (g' := s.gens) (d' := s.drawn) (ch := [it]) (fun b hb => ?_) (fun b o _ _ hc e _ => k b o (fun z => hc (by simp [z])) e) (fun b o _ _ hc e _ => ⟨o.slots, k b o (fun z => hc (by simp [z])) e⟩) (fun _ _ _ _ n => n)
    (fun b o hc e => ⟨o, k b o (fun z => hc (by simp [z])) e⟩) (fun _ _ e => e) (fun _ _ _ e => e) (fun b ps e => ⟨#[], by rw [e]; simp⟩) (fun m hm => ?_) (fun b u e => ?_) I.bare
  · have e : b = it := by simpa using hb
    subst e
    exact ⟨h1, hL, h2, h3⟩
  · obtain ⟨o, es, ep, ho, r⟩ := hm
    exact ⟨o, es, ep, k _ o (Ne.symm hL) ho, r⟩
  · refine (I.hok b u e).stay (fun c v hc q => k c v ?_ q) (fun _ q => q) fun _ _ q => q
    rcases hc with z | z
    · rw [z]; exact nit b u e
    · exact nit c _ z
theorem Inv.tok (I : Inv X pins σ H s) (t : Nat) : Inv X pins σ H { s with toks := t } := I.un (h' := s.heap) (t' := t) Un.refl I.hok
theorem Inv.kept {t' : Nat} (I : Inv X pins σ H s) (k : ∀ b u, s.heap.get? b = some u → h'.get? b = some u) : Inv X pins σ H { s with heap := h', toks := t' } := I.un (Un.kept k) (I.hok.kept k)
theorem Inv.laid {a : Addr} {o : HO} {t' : Nat} (I : Inv X pins σ H s) (k : ∀ b u, s.heap.get? b = some u → h'.get? b = some u) (hp : s.heap.objs.size ≤ a) (new : ObjOk X.prog X.w (upd H a o) h' a o) :
    Inv X pins σ (upd H a o) { s with heap := h', toks := t' } := I.un (Un.laid k hp (I.hok.fresh hp)) (I.hok.laid k hp new)
theorem Inv.write {x e : Addr} {o : HO} {t' : Nat} (I : Inv X pins σ H s) (mu : Mut (H x)) (he : e = x ∨ H e = some (.own x)) (k : ∀ b u, b ≠ e → s.heap.get? b = some u → h'.get? b = some u) (heo : ∃ u, h'.get? e = some u)
    (new : ObjOk X.prog X.w (upd H x o) h' x o) : Inv X pins σ (upd H x o) { s with heap := h', toks := t' } := I.un (Un.write mu he k heo) (I.hok.write mu he k heo new)
theorem Inv.weak {σ' : List (Option V)} (I : Inv X pins σ H s) (hl : σ'.length = σ.length) (w : ∀ (i : Nat) v, σ'[i]? = some (some v) → σ[i]? = some (some v)) : Inv X pins σ' H s :=
  ⟨I.ok, I.os, I.bare, I.base, let ⟨m, hn, hl'⟩ := I.loc; ⟨m, hn, fun i x v e1 e2 e3 => hl' i x v e1 (w i v e2) e3⟩, I.cell, I.free, I.freeC, I.pin, I.hok, hl.trans I.len⟩
theorem Inv.pins_of {pins' : List (Addr × Obj)} (I : Inv X pins σ H s) (h : ∀ p ∈ pins', s.heap.get? p.1 = some p.2 ∧ H p.1 = none ∧ p.1 ≠ X.env.locals ∧ p.1 ∉ X.fs ∧ ∀ v, p.2.data ≠ .cell v) : Inv X pins' σ H s :=
  ⟨I.ok, I.os, I.bare, I.base, I.loc, I.cell, I.free, I.freeC, fun p hp => (List.mem_append.mp hp).elim (fun z => I.pin p (List.mem_append_left _ z)) (h p), I.hok, I.len⟩

theorem nodup_ix {N : List Str} (hN : N.Nodup) {i j : Nat} {x : Str} (a : N[i]? = some x) (b : N[j]? = some x) : i = j := by
  obtain ⟨h1, e1⟩ := List.getElem?_eq_some_iff.mp a
  obtain ⟨h2, e2⟩ := List.getElem?_eq_some_iff.mp b
  exact (List.getElem_inj hN).mp (e1.trans e2.symm)

theorem store_ok2 {M : Model} {A : Around} {E : Value → Shared → Prop} {i : Nat} {x : Str} {v : V} {u : Value} {Q : Unit → Shared → Prop} (I : Inv X pins σ H s) (hN : X.N.Nodup) (hi : X.N[i]? = some x) (hx : Loc X.env.scope x) (r : RelV v u)
    (h : ∀ s', Inv X pins (σ.set i (some v)) H s' → (∃ a, Heap.SameBut a s.heap s'.heap ∧ (a = X.env.locals ∨ X.env.cells.lookup x = some a)) → Q () s') (hf : X.fn x = true ∨ X.env.scope.names.lookup x = some .local := by first | exact .inl rfl | exact .inr rfl | assumption) : wpAny M A (storeName X.env x u) Q E s := by
  obtain ⟨m, hn, hl⟩ := id I.loc
  have hcls : (X.env.scope.kind == .class || (X.env.scope.kind == .module && X.env.locals != X.env.globals)) = false := by rw [I.ok.kind]; rfl
  have hiσ : i < σ.length := by rw [I.len]; exact (List.getElem?_eq_some_iff.mp hi).1
  have cne := I.cne
  have tracked : ∀ {a : Addr} {h' : Heap}, (∃ o, s.heap.get? a = some o ∧ H a = none) → Heap.SameBut a s.heap h' → HOk X.prog X.w H h' := fun {a h'} ha hs b ob e => by
    obtain ⟨_, _, hfree⟩ := ha
    refine (I.hok b ob e).stay (fun c w' hc q => (hs.2 c ?_).trans q) (fun _ q => q) fun _ _ q => q
    rintro rfl
    rcases hc with rfl | hc
    · rw [hfree] at e; cases e
    · rw [hfree] at hc; cases hc
  rcases hx with hk | hk
  · refine wpAny_storeName_local hk hn (fun h' hn' hs => ?_) hcls
    obtain ⟨oL, _, _, hoL, _⟩ := id hn
    refine h _ ⟨I.ok, I.os, I.bare, ⟨fun b o e n hb hx => ?_, fun b o e n hb hx => ?_, I.base.free, fun b o e hx => ?_, I.base.tups, I.base.frzs, I.base.tbls⟩, ⟨_, hn', fun j y v' e1 e2 e3 => ?_⟩, fun y c e => ?_, I.free, I.freeC, fun p hp => ?_, tracked ⟨oL, hoL, I.free⟩ hs, by simpa using I.len⟩ ⟨_, hs, .inl rfl⟩
    · exact (hs.2 b (Nat.ne_of_lt (Nat.lt_of_lt_of_le (Heap.lt_size e) I.ok.above))).trans (I.base.keep b o e n hb hx)
    · obtain ⟨sl, e1⟩ := I.base.slot b o e n hb hx
      exact ⟨sl, (hs.2 b (Nat.ne_of_lt (Nat.lt_of_lt_of_le (Heap.lt_size e) I.ok.above))).trans e1⟩
    · obtain ⟨o', e1⟩ := I.base.there b o e hx
      exact ⟨o', (hs.2 b (Nat.ne_of_lt (Nat.lt_of_lt_of_le (Heap.lt_size e) I.ok.above))).trans e1⟩
    · by_cases hj : j = i
      · subst hj
        rw [hi] at e1; cases e1
        rw [List.getElem?_set_self hiσ] at e2
        cases e2
        exact ⟨u, r, .inl ⟨hk, by simp⟩⟩
      · rw [List.getElem?_set_ne (Ne.symm hj)] at e2
        obtain ⟨u', r', q⟩ := hl j y v' e1 e2 e3
        refine ⟨u', r', ?_⟩
        rcases q with ⟨k, e⟩ | ⟨k, c, e, z⟩
        · refine .inl ⟨k, ?_⟩
          have : y ≠ x := fun e => hj (nodup_ix hN e1 (e ▸ hi))
          simp [this, e]
        · exact .inr ⟨k, c, e, z.sameBut hs (cne y c e)⟩
    · obtain ⟨w', z⟩ := I.cell y c e
      exact ⟨w', z.sameBut hs (cne y c e)⟩
    · obtain ⟨e, n, ne, nf, d⟩ := I.pin p hp
      exact ⟨(hs.2 p.1 ne).trans e, n, ne, nf, d⟩
  · have hfn : X.fn x = true := by
      rcases hf with z | z
      · exact z
      · rw [z] at hk; cases hk
    obtain ⟨c, hc⟩ := I.ok.has x (.inl hk)
    obtain ⟨w', z⟩ := I.cell x c hc
    refine wpAny_storeName_cell I.ok.kind hk hc z (fun h' hc' hs => ?_)
    obtain ⟨oc, hoc, hocd⟩ := id z
    refine h { s with heap := h' } ⟨I.ok, I.os, I.bare, ⟨fun b o e n hb hx => ?_, fun b o e n hb hx => ?_, I.base.free, fun b o e hx => ?_, I.base.tups, I.base.frzs, I.base.tbls⟩, ⟨m, hn.sameBut hs (Ne.symm (cne x c hc)), fun j y v' e1 e2 e3 => ?_⟩, fun y c' e => ?_, I.free, I.freeC, fun p hp => ?_, tracked ⟨oc, hoc, I.freeC x c hc⟩ hs, by simpa using I.len⟩ ⟨c, hs, .inr hc⟩
    · exact (hs.2 b (Nat.ne_of_lt (Nat.lt_of_lt_of_le (Heap.lt_size e) (I.ok.cab x c hfn hc)))).trans (I.base.keep b o e n hb hx)
    · obtain ⟨sl, e1⟩ := I.base.slot b o e n hb hx
      exact ⟨sl, (hs.2 b (Nat.ne_of_lt (Nat.lt_of_lt_of_le (Heap.lt_size e) (I.ok.cab x c hfn hc)))).trans e1⟩
    · obtain ⟨o', e1⟩ := I.base.there b o e hx
      exact ⟨o', (hs.2 b (Nat.ne_of_lt (Nat.lt_of_lt_of_le (Heap.lt_size e) (I.ok.cab x c hfn hc)))).trans e1⟩
    · by_cases hj : j = i
      · subst hj
        rw [hi] at e1; cases e1
        rw [List.getElem?_set_self hiσ] at e2
        cases e2
        exact ⟨u, r, .inr ⟨.inl hk, c, hc, hc'⟩⟩
      · rw [List.getElem?_set_ne (Ne.symm hj)] at e2
        obtain ⟨u', r', q⟩ := hl j y v' e1 e2 e3
        refine ⟨u', r', ?_⟩
        rcases q with q | ⟨k, c', e, z'⟩
        · exact .inl q
        · refine .inr ⟨k, c', e, z'.sameBut hs ?_⟩
          rintro rfl
          exact hj (nodup_ix hN e1 (I.ok.inj _ _ _ e hc ▸ hi))
    · by_cases hcc : c' = c
      · subst hcc; exact ⟨_, hc'⟩
      · obtain ⟨w2, z2⟩ := I.cell y c' e
        exact ⟨w2, z2.sameBut hs hcc⟩
    · obtain ⟨e, n, ne, nf, d⟩ := I.pin p hp
      refine ⟨(hs.2 p.1 ?_).trans e, n, ne, nf, d⟩
      intro q
      rw [q, hoc] at e
      have q' : oc = p.2 := Option.some.inj e
      exact d w' (by rw [← q']; exact hocd)
theorem store_ok {M : Model} {A : Around} {E : Value → Shared → Prop} {i : Nat} {x : Str} {v : V} {u : Value} {Q : Unit → Shared → Prop} (I : Inv X pins σ H s) (hN : X.N.Nodup) (hi : X.N[i]? = some x) (hx : Loc X.env.scope x) (r : RelV v u)
    (h : ∀ s', Inv X pins (σ.set i (some v)) H s' → Q () s') (hf : X.fn x = true ∨ X.env.scope.names.lookup x = some .local := by first | exact .inl rfl | exact .inr rfl | assumption) : wpAny M A (storeName X.env x u) Q E s :=
  store_ok2 I hN hi hx r (fun s' I' _ => h s' I') hf
theorem Inv.call' {s' : Shared} {ch : List Addr} (I : Inv X pins σ H s) (ho : s'.os = s.os) (u : Un (frs X.stack) ch H H' s.heap s'.heap) (hok : HOk X.prog X.w H' s'.heap) (hg : AllBare s'.gens)
    (hch : ∀ b ∈ ch, (b ∈ X.ex ∨ X.s₀.heap.objs.size ≤ b) ∧ b ≠ X.env.locals ∧ (∀ x c, X.env.cells.lookup x = some c → c ≠ b) ∧ ∀ p ∈ X.pn ++ pins, p.1 ≠ b) : Inv X pins σ H' s' := by
  obtain ⟨h', g', d', t', o'⟩ := s'
  have e : o' = s.os := ho
  subst e
  exact I.call (g' := g') (t' := t') (d' := d') u hok hg hch
end

abbrev XK := Value → Option Addr → Hp → Prop
abbrev St := List (Option V)
abbrev VK := V → Hp → Prop
abbrev TE := St → Hp → VK → Prop
abbrev TT := St → Hp → (Bool → Hp → Prop) → Prop
abbrev TA := St → Hp → (List V → Hp → Prop) → Prop
structure Ends where
  nx : St → Hp → Prop
  rt : VK
  bk : St → Hp → Prop := fun _ _ => False
  ct : St → Hp → Prop := fun _ _ => False
abbrev TS := Ends → St → Hp → Prop

def EP (X : Cx) (pins : List (Addr × Obj)) (σ : St) (Q : VK) (u : Value) (s' : Shared) : Prop := ∃ v H', Inv X pins σ H' s' ∧ RelV v u ∧ Q v H'
def TP (X : Cx) (pins : List (Addr × Obj)) (σ : St) (Q : Bool → Hp → Prop) (b : Bool) (s' : Shared) : Prop := ∃ H', Inv X pins σ H' s' ∧ Q b H'
def AP (X : Cx) (pins : List (Addr × Obj)) (σ : St) (Q : List V → Hp → Prop) (us : List Value) (s' : Shared) : Prop := ∃ vs H', Inv X pins σ H' s' ∧ Vals vs us ∧ Q vs H'
def SP (X : Cx) (pins : List (Addr × Obj)) (D : Ends) (f : Flow) (s' : Shared) : Prop :=
  match f with
  | .next => ∃ σ' H', Inv X pins σ' H' s' ∧ D.nx σ' H'
  | .brk => ∃ σ' H', Inv X pins σ' H' s' ∧ D.bk σ' H'
  | .cont => ∃ σ' H', Inv X pins σ' H' s' ∧ D.ct σ' H'
  | .ret u => ∃ v σ' H', Inv X pins σ' H' s' ∧ RelV v u ∧ D.rt v H'

def PE (X : Cx) (e : Expr) (t : TE) : Prop :=
  ∀ (pins : List (Addr × Obj)) (s : Shared) (σ : St) (H : Hp) (Q : VK), Inv X pins σ H s → t σ H Q → wpAny (model X.prog X.w) X.A (eval e X.env) (EP X pins σ Q) X.xe s
def PT (X : Cx) (e : Expr) (t : TT) : Prop :=
  ∀ (pins : List (Addr × Obj)) (s : Shared) (σ : St) (H : Hp) (Q : Bool → Hp → Prop), Inv X pins σ H s → t σ H Q → wpAny (model X.prog X.w) X.A (isTrue e X.env (eval e X.env)) (TP X pins σ Q) X.xe s
def PW (X : Cx) (e : Expr) (t : TT) : Prop :=
  ∀ (whole : Sem Value) (pins : List (Addr × Obj)) (s : Shared) (σ : St) (H : Hp) (Q : Bool → Hp → Prop), Inv X pins σ H s → t σ H Q → wpAny (model X.prog X.w) X.A (isTrue e X.env whole) (TP X pins σ Q) X.xe s
theorem PW.pt {X : Cx} {e : Expr} {t : TT} (h : PW X e t) : PT X e t := h _
def PA (X : Cx) (es : List Expr) (t : TA) : Prop :=
  ∀ (pos : Pos) (pins : List (Addr × Obj)) (s : Shared) (σ : St) (H : Hp) (Q : List V → Hp → Prop), Inv X pins σ H s → t σ H Q → wpAny (model X.prog X.w) X.A (spliced (backTo pos (starEach es X.env))) (AP X pins σ Q) X.xe s
def PS (X : Cx) (st : Stmt) (t : TS) : Prop :=
  ∀ (pins : List (Addr × Obj)) (s : Shared) (σ : St) (H : Hp) (D : Ends), Inv X pins σ H s → t D σ H → wpAny (model X.prog X.w) X.A (exec st X.env) (SP X pins D) X.xe s
def PSs (X : Cx) (st : List Stmt) (t : TS) : Prop :=
  ∀ (pins : List (Addr × Obj)) (s : Shared) (σ : St) (H : Hp) (D : Ends), Inv X pins σ H s → t D σ H → wpAny (model X.prog X.w) X.A (execs st X.env) (SP X pins D) X.xe s
theorem thn {α : Type} {t : Sem α} {Q Q' : α → Shared → Prop} {M : Model} {A : Around} {E : Value → Shared → Prop} {s : Shared} (h : wpAny M A t Q E s) (hQ : ∀ a s, Q a s → Q' a s) : wpAny M A t Q' E s := wpAny_mono h hQ fun _ _ x => x
end L2

namespace L2
open PySem PySem.Spec PyProof.Rows
section
variable {X : Cx}

def tVar (i : Nat) : TE := fun σ H Q => ∃ v, σ[i]? = some (some v) ∧ Q v H
def tC (v : V) : TE := fun _ H Q => Q v H
theorem pe_var {i : Nat} {x : Str} {pos : Pos} (hN : X.N[i]? = some x) (hv : Vis X.env.scope x) (hd : (x == ("__debug__" : Str)) = false := by decide) (hcd : (x == ("__classdict__" : Str)) = false := by decide) : PE X (.Name x pos) (tVar i) := by
  intro pins s σ H Q I h
  obtain ⟨v, e, h⟩ := h
  obtain ⟨m, hn, hl⟩ := I.loc
  obtain ⟨u, r, l⟩ := hl i x v hN e hv
  have fin : EP X pins σ Q u s := ⟨v, H, I, r, h⟩
  rcases l with ⟨hk, hm⟩ | ⟨hk, c, hc, hcell⟩
  · exact wpAny_Name (wpAny_loadName_local I.ok.kind hk hn hm fin) hd
  · rcases hk with hk | hk
    · exact wpAny_Name (wpAny_loadName_cell I.ok.kind hk hc hcell fin) hd
    · exact wpAny_Name (wpAny_loadName_free I.ok.kind hk hc hcell fin hcd) hd
theorem pe_int {i j pos} : PE X (.Constant (.int i) j pos) (tC (.int i)) := fun _ _ _ H _ I h => wpAny_Constant_int ⟨.int i, H, I.tok _, ⟨_, rfl⟩, h⟩
theorem pe_bl {b j pos} : PE X (.Constant (.bool b) j pos) (tC (.bl b)) := fun _ _ _ H _ I h => Constant_bool ⟨.bl b, H, I, rfl, h⟩
theorem pe_non {j pos} : PE X (.Constant .none j pos) (tC .non) := fun _ _ _ H _ I h => Constant_none ⟨.non, H, I, rfl, h⟩
theorem pe_str {x j pos} : PE X (.Constant (.str x) j pos) (tC (.str x)) := fun _ _ _ H _ I h => Calls.Constant_str ⟨.str x, H, I.tok _, ⟨_, rfl⟩, h⟩

def Gl (X : Cx) (x : Str) : Prop := X.env.kindOf x = some .globalImplicit
theorem ld_glob {E : Value → Shared → Prop} {pins : List (Addr × Obj)} {s : Shared} {σ : St} {H : Hp} {x : Str} {u : Value} {pos : Pos} {Q : Value → Shared → Prop} (I : Inv X pins σ H s) (hg : Gl X x) (hm : X.mg x = some u) (h : Q u s)
    (hd : (x == ("__debug__" : Str)) = false := by decide) : wpAny (model X.prog X.w) X.A (eval (.Name x pos) X.env) Q E s :=
  Calls.Name_function_global I.ok.kind hg (Calls.loadGlobal_global (by rw [I.ok.glob]; exact I.mod.glob.keeps I.bk) hm h) hd
theorem ld_blt {E : Value → Shared → Prop} {pins : List (Addr × Obj)} {s : Shared} {σ : St} {H : Hp} {x : Str} {u : Value} {pos : Pos} {Q : Value → Shared → Prop} (I : Inv X pins σ H s) (hg : Gl X x) (hm : X.mg x = none) (hv : bootBuiltins x = some u) (h : Q u s)
    (hn : x ≠ "__name__" := by decide) (hd : (x == ("__debug__" : Str)) = false := by decide) : wpAny (model X.prog X.w) X.A (eval (.Name x pos) X.env) Q E s := by
  obtain ⟨mb, h1, h2⟩ := I.mod.blt
  exact Calls.Name_function_global I.ok.kind hg (Calls.loadGlobal_builtin (by rw [I.ok.glob]; exact I.mod.glob.keeps I.bk) hm (by rw [I.ok.blt]; exact h1.keeps I.bk) ((h2 x hn).trans hv) h) hd
theorem pe_glob {x : Str} {v : V} {u : Value} {pos : Pos} (hg : Gl X x) (hm : X.mg x = some u) (r : RelV v u) (hd : (x == ("__debug__" : Str)) = false := by decide) : PE X (.Name x pos) (tC v) :=
  fun _ _ _ H _ I h => ld_glob I hg hm ⟨v, H, I, r, h⟩ hd
theorem pe_bltn {x : Str} {v : V} {u : Value} {pos : Pos} (hg : Gl X x) (hm : X.mg x = none) (hv : bootBuiltins x = some u) (r : RelV v u) (hn : x ≠ "__name__" := by decide) (hd : (x == ("__debug__" : Str)) = false := by decide) : PE X (.Name x pos) (tC v) :=
  fun _ _ _ H _ I h => ld_blt I hg hm hv ⟨v, H, I, r, h⟩ hn hd

variable {a b : Expr} {ta tb : TE} {pos : Pos}
def tB (t : TE) : TT := fun σ H Q => t σ H fun x H1 => ∃ c, x = .bl c ∧ Q c H1
variable {tA tB' : TT} {rest : List Expr}
def tAnd (t u : TT) : TT := fun σ H Q => t σ H fun c H1 => if c = true then u σ H1 Q else Q false H1
def tOr (t u : TT) : TT := fun σ H Q => t σ H fun c H1 => if c = true then Q true H1 else u σ H1 Q
def tNot (t : TT) : TT := fun σ H Q => t σ H fun c H1 => Q (!c) H1
theorem pw_and1 (ha : PT X a tA) : PW X (.BoolOp .And [a] pos) tA := by
  intro wh pins s σ H Q I h
  refine isTrue_and (thn (ha pins s σ H Q I h) fun c s1 e => ?_)
  cases c with
  | true => exact isTrue_and_nil e
  | false => exact e
theorem pw_and (ha : PT X a tA) (hb : PW X (.BoolOp .And (b :: rest) pos) tB') : PW X (.BoolOp .And (a :: b :: rest) pos) (tAnd tA tB') := by
  intro wh pins s σ H Q I h
  refine isTrue_and (thn (ha pins s σ H _ I h) fun c s1 ⟨H1, I1, q1⟩ => ?_)
  cases c with
  | true => exact hb wh pins s1 σ H1 Q I1 q1
  | false => exact ⟨H1, I1, q1⟩
theorem pt_not (ha : PT X a tA) : PT X (.UnaryOp .Not a pos) (tNot tA) := by
  intro pins s σ H Q I h
  exact isTrue_not (ha pins s σ H (fun c H1 => Q (!c) H1) I h)
def tAndV (ta tb : TE) : TE := fun σ H Q => ta σ H fun x H1 => ∃ c, x = .bl c ∧ if c = true then tb σ H1 Q else Q (.bl false) H1
def tOrV (ta tb : TE) : TE := fun σ H Q => ta σ H fun x H1 => ∃ c, x = .bl c ∧ if c = true then Q (.bl true) H1 else tb σ H1 Q
def tNotV (ta : TE) : TE := fun σ H Q => ta σ H fun x H1 => ∃ c, x = .bl c ∧ Q (.bl (!c)) H1
theorem pe_one {op} {t : TE} (h : PE X a t) : PE X (.BoolOp op [a] pos) t := fun pins s σ H Q I hw => BoolOp_one (h pins s σ H Q I hw)
theorem pe_and (ha : PE X a ta) (hb : PE X (.BoolOp .And (b :: rest) pos) tb) : PE X (.BoolOp .And (a :: b :: rest) pos) (tAndV ta tb) := by
  intro pins s σ H Q I h
  refine BoolOp_and (thn (ha pins s σ H _ I h) fun v s1 ⟨x, H1, I1, r1, q1⟩ => ?_)
  obtain ⟨c, rfl, q1⟩ := q1
  cases r1
  refine wpAny_truthy_bool ?_
  cases c with
  | true => exact hb pins s1 σ H1 Q I1 q1
  | false => exact ⟨.bl false, H1, I1, rfl, q1⟩
def tIf (t : TT) (ta tb : TE) : TE := fun σ H Q => t σ H fun c H1 => if c = true then ta σ H1 Q else tb σ H1 Q
theorem pe_ifExp {c : Expr} (hc : PT X c tA) (ha : PE X a ta) (hb : PE X b tb) : PE X (.IfExp c a b pos) (tIf tA ta tb) := by
  intro pins s σ H Q I h
  refine wpAny_IfExp (thn (hc pins s σ H _ I h) fun d s1 ⟨H1, I1, q1⟩ => ?_)
  cases d with
  | true => exact ha pins s1 σ H1 Q I1 q1
  | false => exact hb pins s1 σ H1 Q I1 q1
end
end L2

namespace L2
open PySem PySem.Spec PyProof.Rows

def SqL (K : PySem.W.Frag) (H : Hp) (a : Addr) (xs : List V) : Prop :=
  Rd H a (.lst xs) ∨
    ∃ (o : Obj) (its : Array Value) (n : Nat), K.lookup a = some o ∧ o.cls = .type "list" ∧ o.dict = none ∧ o.data = .seq its n ∧ its.size ≤ sizeLine ∧ Vals xs its.toList
def SqT (K : PySem.W.Frag) (H : Hp) (a : Addr) (xs : List V) : Prop :=
  Rd H a (.tup xs) ∨
    ∃ (o : Obj) (its : Array Value) (n : Nat), K.lookup a = some o ∧ o.cls = .type "tuple" ∧ o.data = .seq its n ∧ its.size ≤ sizeLine ∧ Vals xs its.toList
def absV : Value → Option V
  | .none => some .non
  | .bool b => some (.bl b)
  | .int i _ => some (.int i)
  | .str x _ => some (.str x)
  | .bytes b _ => some (.byt b)
  | .float b _ => some (.flt b)
  | .ref a => some (.ref a)
  | .type n => some (.ty n)
  | _ => none
theorem RelV.abs {x : V} {u : Value} (r : RelV x u) : absV u = some x := by
  cases x with
  | non => cases r; rfl
  | bl _ => cases r; rfl
  | int _ => obtain ⟨t, rfl⟩ := r; rfl
  | str _ => obtain ⟨t, rfl⟩ := r; rfl
  | byt _ => obtain ⟨t, rfl⟩ := r; rfl
  | flt _ => obtain ⟨t, rfl⟩ := r; rfl
  | ref _ => cases r; rfl
  | ty _ => cases r; rfl
theorem RelV.inj {x y : V} {u : Value} (r : RelV x u) (q : RelV y u) : x = y := Option.some.inj (r.abs.symm.trans q.abs)
theorem Vals.inj : ∀ {xs ys : List V} {us : List Value}, Vals xs us → Vals ys us → xs = ys
  | _, _, _, .nil, .nil => rfl
  | _, _, _, .cons r t, .cons r' t' => by rw [r.inj r', Vals.inj t t']
section
variable {X : Cx} {pins : List (Addr × Obj)} {σ : St} {H : Hp} {s : Shared} {a : Addr} {xs ys : List V}
theorem SqL.of {K : PySem.W.Frag} (h : H a = some (.lst xs)) : SqL K H a xs := .inl (.inl h)
theorem SqT.of {K : PySem.W.Frag} (h : H a = some (.tup xs)) : SqT K H a xs := .inl (.inl h)
theorem Inv.list (I : Inv X pins σ H s) (h : SqL X.K H a xs) : ∃ its : List Value, Vals xs its ∧ PlainL s.heap a its.toArray ∧ xs.length ≤ sizeLine := by
  rcases h with h | ⟨o, its, n, hk, hc, hd, hs, hz, r⟩
  · obtain ⟨z, its, n, r, e⟩ := h.ok I.hok
    exact ⟨its, r, ⟨_, n, e, rfl, rfl, rfl⟩, z⟩
  · refine ⟨its.toList, r, ⟨o, n, I.kIn a o hk, hc, hd, by simpa using hs⟩, ?_⟩
    have e := r.length
    simp only [Array.length_toList] at e
    omega
theorem Inv.tuple (I : Inv X pins σ H s) (h : SqT X.K H a xs) : ∃ its : List Value, Vals xs its ∧ IsTup s.heap a its.toArray ∧ xs.length ≤ sizeLine := by
  rcases h with h | ⟨o, its, n, hk, hc, hs, hz, r⟩
  · obtain ⟨z, its, r, p⟩ := h.ok I.hok
    exact ⟨its, r, p, z⟩
  · refine ⟨its.toList, r, ⟨o, I.kIn a o hk, hc, n, by simpa using hs⟩, ?_⟩
    have e := r.length
    simp only [Array.length_toList] at e
    omega
theorem Inv.list_inj (I : Inv X pins σ H s) (h : SqL X.K H a xs) (h' : SqL X.K H a ys) : xs = ys := by
  obtain ⟨its, r, ⟨o, n, e, _, _, d⟩, _⟩ := I.list h
  obtain ⟨its', r', ⟨o', n', e', _, _, d'⟩, _⟩ := I.list h'
  rw [e] at e'; cases e'
  rw [d] at d'
  injection d' with d1 _
  have : its = its' := by simpa using congrArg Array.toList d1
  subst this
  exact r.inj r'
theorem Inv.tuple_inj (I : Inv X pins σ H s) (h : SqT X.K H a xs) (h' : SqT X.K H a ys) : xs = ys := by
  obtain ⟨its, r, ⟨o, e, _, n, d⟩, _⟩ := I.tuple h
  obtain ⟨its', r', ⟨o', e', _, n', d'⟩, _⟩ := I.tuple h'
  rw [e] at e'; cases e'
  rw [d] at d'
  injection d' with d1 _
  have : its = its' := by simpa using congrArg Array.toList d1
  subst this
  exact r.inj r'
end

abbrev Cx.wish (X : Cx) (E : Value → Shared → Prop) : Cx := { X with xe := E }
abbrev Cx.nox (X : Cx) : Cx := X.wish fun _ _ => False
theorem Cx.Ok.wish {X : Cx} (ok : X.Ok) (E : Value → Shared → Prop) : (X.wish E).Ok :=
  ⟨ok.mod, ok.kind, ok.glob, ok.blt, ok.above, ok.inj, ok.has, ok.cab, ok.hd, ok.frames, ok.stk, ok.exf, ok.bs, ok.bsz, ok.noex, ok.exfs, ok.funs, ok.frf⟩
theorem Cx.Ok.unwish {X : Cx} {E : Value → Shared → Prop} (ok : (X.wish E).Ok) : X.Ok :=
  ⟨ok.mod, ok.kind, ok.glob, ok.blt, ok.above, ok.inj, ok.has, ok.cab, ok.hd, ok.frames, ok.stk, ok.exf, ok.bs, ok.bsz, ok.noex, ok.exfs, ok.funs, ok.frf⟩
section
variable {X : Cx} {pins : List (Addr × Obj)} {σ : St} {H : Hp} {s : Shared} {E : Value → Shared → Prop}
theorem Inv.wish (I : Inv X pins σ H s) (E : Value → Shared → Prop) : Inv (X.wish E) pins σ H s := ⟨I.ok.wish E, I.os, I.bare, I.base, I.loc, I.cell, I.free, I.freeC, I.pin, I.hok, I.len⟩
theorem Inv.unwish (I : Inv (X.wish E) pins σ H s) : Inv X pins σ H s := ⟨I.ok.unwish, I.os, I.bare, I.base, I.loc, I.cell, I.free, I.freeC, I.pin, I.hok, I.len⟩
theorem SP.unwish {D : Ends} {f : Flow} {s' : Shared} (h : SP (X.wish E) pins D f s') : SP X pins D f s' := by
  cases f with
  | next => obtain ⟨σ', H', I, q⟩ := h; exact ⟨σ', H', I.unwish, q⟩
  | brk => obtain ⟨σ', H', I, q⟩ := h; exact ⟨σ', H', I.unwish, q⟩
  | cont => obtain ⟨σ', H', I, q⟩ := h; exact ⟨σ', H', I.unwish, q⟩
  | ret u => obtain ⟨v, σ', H', I, r, q⟩ := h; exact ⟨v, σ', H', I.unwish, r, q⟩
theorem PE.nox {e : Expr} {t : TE} (h : PE X.nox e t) : PE X e t := fun pins s σ H Q I hw =>
  wpAny_mono (h pins s σ H Q (I.wish _) hw) (fun _ _ ⟨v, H', I', r, q⟩ => ⟨v, H', I'.unwish, r, q⟩) fun _ _ z => False.elim z
theorem PT.nox {e : Expr} {t : TT} (h : PT X.nox e t) : PT X e t := fun pins s σ H Q I hw =>
  wpAny_mono (h pins s σ H Q (I.wish _) hw) (fun _ _ ⟨H', I', q⟩ => ⟨H', I'.unwish, q⟩) fun _ _ z => False.elim z
theorem PSs.nox {st : List Stmt} {t : TS} (h : PSs X.nox st t) : PSs X st t := fun pins s σ H D I hw =>
  wpAny_mono (h pins s σ H D (I.wish _) hw) (fun _ _ q => q.unwish) fun _ _ z => False.elim z
end

section
variable {X : Cx} {st : Stmt} {rest : List Stmt} {t u : TS} {e : Expr} {te : TE} {pos : Pos}
def tNext : TS := fun D σ H => D.nx σ H
def tSeq (t u : TS) : TS := fun D σ H => t { D with nx := u D } σ H
theorem pss_nil : PSs X [] tNext := fun _ _ σ H _ I h => wpAny_execs_nil ⟨σ, H, I, h⟩
theorem pss_cons (h1 : PS X st t) (h2 : PSs X rest u) : PSs X (st :: rest) (tSeq t u) := by
  intro pins s σ H D I h
  refine wpAny_execs_cons (thn (h1 pins s σ H { D with nx := u D } I h) fun f s1 q => ?_)
  cases f with
  | next =>
    obtain ⟨σ', H', I', q⟩ := q
    exact h2 pins s1 σ' H' D I' q
  | ret v => exact q
  | brk => exact q
  | cont => exact q
theorem pss_one (h1 : PS X st t) : PSs X [st] t := by
  intro pins s σ H D I h
  refine wpAny_execs_cons (thn (h1 pins s σ H D I h) fun f s1 q => ?_)
  cases f with
  | next => exact wpAny_execs_nil q
  | ret v => exact q
  | brk => exact q
  | cont => exact q
theorem Inv.quiet {pins : List (Addr × Obj)} {σ : St} {H : Hp} {s : Shared} (I : Inv X pins σ H s) : interactive X.env = false := by simp [interactive, I.ok.kind]
def tDrop (te : TE) : TS := fun D σ H => te σ H fun _ H1 => D.nx σ H1
theorem ps_expr (he : PE X e te) (hs : swapsWith e none pos.line X.env = pure false := by rfl) : PS X (.Expr e pos) (tDrop te) := by
  intro pins s σ H D I h
  exact wpAny_Expr_any (thn (he pins s σ H _ I h) fun v s1 ⟨x, H1, I1, r1, q1⟩ => ⟨σ, H1, I1, q1⟩) I.quiet hs
def tRet (te : TE) : TS := fun D σ H => te σ H D.rt
theorem ps_ret (he : PE X e te) : PS X (.Return (some e) pos) (tRet te) := by
  intro pins s σ H D I h
  exact wpAny_Return_some (thn (he pins s σ H _ I h) fun v s1 ⟨x, H1, I1, r1, q1⟩ => ⟨x, σ, H1, I1, r1, q1⟩)
def tIfS (c : TT) (t u : TS) : TS := fun D σ H => c σ H fun b H1 => if b = true then t D σ H1 else u D σ H1
theorem ps_if {c : Expr} {a b : List Stmt} {tc : TT} (hc : PT X c tc) (ha : PSs X a t) (hb : PSs X b u) : PS X (.If c a b pos) (tIfS tc t u) := by
  intro pins s σ H D I h
  refine wpAny_If (thn (hc pins s σ H _ I h) fun d s1 ⟨H1, I1, q1⟩ => ?_)
  cases d with
  | true => exact ha pins s1 σ H1 D I1 q1
  | false => exact hb pins s1 σ H1 D I1 q1
def tNever : TS := fun _ _ _ => False
theorem ps_never : PS X st tNever := fun _ _ _ _ _ _ h => h.elim
end

abbrev TG := V → St → Hp → (St → Hp → Prop) → Prop
abbrev TGs := List V → St → Hp → (St → Hp → Prop) → Prop
def PG (X : Cx) (target : Expr) (t : TG) : Prop :=
  ∀ (pins : List (Addr × Obj)) (s : Shared) (σ : St) (H : Hp) (v : V) (u : Value) (Q : St → Hp → Prop), Inv X pins σ H s → RelV v u → t v σ H Q →
    wpAny (model X.prog X.w) X.A (assign target X.env u) (fun _ s' => ∃ σ' H', Inv X pins σ' H' s' ∧ Q σ' H') X.xe s
def PGs (X : Cx) (ts : List Expr) (t : TGs) : Prop :=
  ∀ (pins : List (Addr × Obj)) (s : Shared) (σ : St) (H : Hp) (vs : List V) (us : List Value) (Q : St → Hp → Prop), Inv X pins σ H s → Vals vs us → t vs σ H Q →
    wpAny (model X.prog X.w) X.A (assignInOrder ((assignEach ts X.env).map (·.2)) us) (fun _ s' => ∃ σ' H', Inv X pins σ' H' s' ∧ Q σ' H') X.xe s
abbrev TSet := V → V → V → Hp → (Hp → Prop) → Prop
abbrev TIp := V → V → Hp → VK → Prop
def PIp (X : Cx) (op : Operator) (t : TIp) : Prop :=
  ∀ (pins : List (Addr × Obj)) (s : Shared) (σ : St) (H : Hp) (x y : V) (v u : Value) (Q : VK), Inv X pins σ H s → RelV x v → RelV y u → t x y H Q →
    wpAny (model X.prog X.w) X.A (inplaceOp op v u) (EP X pins σ Q) X.xe s
section
variable {X : Cx} {pos : Pos}
def gName (i : Nat) : TG := fun v σ H Q => Q (σ.set i (some v)) H
theorem pg_name {i : Nat} {x : Str} (hN : X.N.Nodup) (hi : X.N[i]? = some x) (hx : Loc X.env.scope x) (hf : X.fn x = true ∨ X.env.scope.names.lookup x = some .local := by first | exact .inl rfl | exact .inr rfl | assumption) : PG X (.Name x pos) (gName i) := by
  intro pins s σ H v u Q I r h
  exact wpAny_assign_Name (store_ok I hN hi hx r (fun s' I' => ⟨_, H, I', h⟩) hf)
def gNil : TGs := fun vs σ H Q => vs = [] ∧ Q σ H
def gCons (t : TG) (u : TGs) : TGs := fun vs σ H Q => ∃ v r, vs = v :: r ∧ t v σ H fun σ' H' => u r σ' H' Q
theorem pgs_nil : PGs X [] gNil := by
  intro pins s σ H vs us Q I r h
  obtain ⟨e, h⟩ := h
  subst e
  cases r
  exact assignInOrder_nil ⟨σ, H, I, h⟩
theorem pgs_cons {e : Expr} {es : List Expr} {t : TG} {u : TGs} (h1 : PG X e t) (h2 : PGs X es u)
    (hs : (assignEach (e :: es) X.env).map (·.2) = assign e X.env :: (assignEach es X.env).map (·.2) := by rfl) : PGs X (e :: es) (gCons t u) := by
  intro pins s σ H vs us Q I r h
  obtain ⟨v, vr, e1, h⟩ := h
  subst e1
  cases r with
  | cons r rr =>
    rw [hs]
    refine assignInOrder_cons (thn (h1 pins s σ H _ _ _ I r h) fun _ s1 ⟨σ1, H1, I1, q1⟩ => ?_)
    exact h2 pins s1 σ1 H1 _ _ Q I1 rr q1
def gTup (K : PySem.W.Frag) (n : Nat) (t : TGs) : TG := fun v σ H Q => ∃ a xs, v = .ref a ∧ SqT K H a xs ∧ xs.length = n ∧ t xs σ H Q
theorem pg_tup {es : List Expr} {k : Nat} {t : TGs} {n : Nat} (hc : X.calm = true) (h : PGs X es t)
    (hn : (assignEach es X.env).length = n := by rfl) (hst : (assignEach es X.env).findIdx? (·.1) = none := by rfl) : PG X (.Tuple es k pos) (gTup X.K n t) := by
  intro pins s σ H v u Q I r hw
  obtain ⟨a, xs, e1, hq, hl, hw⟩ := hw
  subst e1
  cases r
  obtain ⟨its, rv, ht, hz⟩ := I.tuple hq
  refine assign_Tuple_tuple (I.ok.hd hc) ht (by simp [hn, ← hl, rv.length]) hst fun h' hx => ?_
  have I1 : Inv X pins σ H { s with heap := h' } := I.kept (t' := s.toks) fun b o e => hx b o (Nat.ne_of_lt (Heap.lt_size e)) e
  exact h pins _ σ H xs _ Q I1 (by simpa using rv) hw
def gSub (to ti : TE) (t : TSet) : TG := fun v σ H Q => to σ H fun o H1 => ti σ H1 fun i H2 => t o i v H2 fun H3 => Q σ H3
def tAsg (te : TE) (g : TG) : TS := fun D σ H => te σ H fun x H1 => g x σ H1 D.nx
theorem ps_set {i : Nat} {x : Str} {e : Expr} {te : TE} {pos' : Pos} (hN : X.N.Nodup) (hi : X.N[i]? = some x) (hx : Loc X.env.scope x) (he : PE X e te) (hs : swapsWith e (some (.Name x pos')) pos.line X.env = pure false := by rfl) (hf : X.fn x = true ∨ X.env.scope.names.lookup x = some .local := by first | exact .inl rfl | exact .inr rfl | assumption) :
    PS X (.Assign [.Name x pos'] e pos) (tAsg te (gName i)) := by
  intro pins s σ H D I h
  refine wpAny_Assign_Name (thn (he pins s σ H _ I h) fun v s1 ⟨y, H1, I1, r1, q1⟩ => ?_) hs
  exact store_ok I1 hN hi hx r1 (fun s2 I2 => ⟨_, H1, I2, q1⟩) hf
def tAug (i : Nat) (te : TE) (ti : TIp) : TS := fun D σ H => ∃ x, σ[i]? = some (some x) ∧ te σ H fun y H1 => ti x y H1 fun z H2 => D.nx (σ.set i (some z)) H2
theorem ps_aug {i : Nat} {x : Str} {e : Expr} {te : TE} {op : Operator} {ti : TIp} {pos' : Pos} (hN : X.N.Nodup) (hi : X.N[i]? = some x) (hx : Loc X.env.scope x) (he : PE X e te) (ho : PIp X op ti) (hf : X.fn x = true ∨ X.env.scope.names.lookup x = some .local := by first | exact .inl rfl | exact .inr rfl | assumption) :
    PS X (.AugAssign (.Name x pos') op e pos) (tAug i te ti) := by
  intro pins s σ H D I h
  obtain ⟨v, e1, h⟩ := h
  obtain ⟨m, hn, hl⟩ := I.loc
  have vis : Vis X.env.scope x := by rcases hx with k | k; exact .inl k; exact .inr (.inl k)
  obtain ⟨u, r, l⟩ := hl i x v hi e1 vis
  refine wpAny_AugAssign_Name ?_
  have go : wpAny (model X.prog X.w) X.A (eval e X.env) (fun w s₂ => wpAny (model X.prog X.w) X.A (inplaceOp op u w) (fun r s₃ => wpAny (model X.prog X.w) X.A (storeName X.env x r) (fun _ => SP X pins D .next) X.xe s₃) X.xe s₂) X.xe s := by
    refine thn (he pins s σ H _ I h) fun w s1 ⟨y, H1, I1, r1, q1⟩ => ?_
    refine thn (ho pins s1 σ H1 v y u w _ I1 r r1 q1) fun z s2 ⟨zv, H2, I2, r2, q2⟩ => ?_
    exact store_ok I2 hN hi hx r2 (fun s3 I3 => ⟨_, H2, I3, q2⟩) hf
  rcases l with ⟨hk, hm⟩ | ⟨hk, c, hc, hcell⟩
  · exact wpAny_loadName_local I.ok.kind hk hn hm go
  · rcases hk with hk | hk
    · exact wpAny_loadName_cell I.ok.kind hk hc hcell go
    · rcases hx with k | k
      · have : X.env.scope.names.lookup x = some .free := hk
        rw [k] at this; cases this
      · have : X.env.scope.names.lookup x = some .free := hk
        rw [k] at this; cases this
def ipI (f : Int → Int → Int) : TIp := fun x y H Q => ∃ i j, x = .int i ∧ y = .int j ∧ Q (.int (f i j)) H
theorem ip_add : PIp X .Add (ipI fun i j => i + j) := by
  intro pins s σ H x y v u Q I r1 r2 h
  obtain ⟨i, j, e1, e2, q⟩ := h
  subst e1; subst e2
  obtain ⟨t, rfl⟩ := r1
  obtain ⟨t', rfl⟩ := r2
  exact iadd_int ⟨.int _, H, I.tok _, ⟨_, rfl⟩, q⟩
theorem ip_sub : PIp X .Sub (ipI fun i j => i - j) := by
  intro pins s σ H x y v u Q I r1 r2 h
  obtain ⟨i, j, e1, e2, q⟩ := h
  subst e1; subst e2
  obtain ⟨t, rfl⟩ := r1
  obtain ⟨t', rfl⟩ := r2
  exact isub_int ⟨.int _, H, I.tok _, ⟨_, rfl⟩, q⟩
end

section
variable {X : Cx} {pos : Pos}
end

structure It where
  go : Nat → Hp → Prop
  yld : Nat → Hp → V → Hp → Prop
  stop : Nat → Hp → Prop
def FpOk (X : Cx) (pins : List (Addr × Obj)) (H : Hp) (b : Addr) : Prop :=
  H b = none ∧ b ≠ X.env.locals ∧ b ∉ X.fs ∧ (b ∈ X.ex ∨ X.s₀.heap.objs.size ≤ b) ∧ (∀ x c, X.env.cells.lookup x = some c → c ≠ b) ∧ ∀ p ∈ X.pn ++ pins, p.1 ≠ b
theorem Inv.fpOk {X : Cx} {pins : List (Addr × Obj)} {σ : St} {H H' : Hp} {s : Shared} {b : Addr} (I : Inv X pins σ H s) (hb : s.heap.objs.size ≤ b) (hn : H' b = none) : FpOk X pins H' b := by
  refine ⟨hn, Nat.ne_of_gt (Nat.lt_of_lt_of_le I.lt hb), I.nofs hb, .inr (Nat.le_trans I.sz hb), fun x c e z => ?_, fun p hp z => ?_⟩
  · obtain ⟨v, q⟩ := I.cell x c e
    exact absurd (Nat.lt_of_lt_of_le q.lt (by rw [z]; exact hb)) (Nat.lt_irrefl _)
  · exact absurd (Nat.lt_of_lt_of_le (Heap.lt_size (I.pin p hp).1) (by rw [z]; exact hb)) (Nat.lt_irrefl _)
structure Turn (P : Program) (w : World) (K : PySem.W.Frag) (tg : Expr) (J : It) (fp : List Addr) (it : Addr) (tn : Nat → Heap → Prop) : Prop where
  mem : it ∈ fp
  obj : ∀ i h, tn i h → ∀ b ∈ fp, ∃ o, h.get? b = some o ∧ ∀ v, o.data ≠ .cell v
  keep : ∀ i h h', tn i h → (∀ b ∈ fp, ∀ o, h.get? b = some o → h'.get? b = some o) → tn i h'
  item : ∀ (X : Cx), X.prog = P → X.w = w → X.K = K → X.calm = true → ∀ (i : Nat) (pins : List (Addr × Obj)) (s : Shared) (σ : St) (H : Hp) (E : Value → Shared → Prop), Inv X pins σ H s → (∀ b ∈ fp, FpOk X pins H b) → tn i s.heap → J.go i H →
    wpAny (model P w) X.A (pyNext (.ref it)) (fun r s1 => ∃ u, r = some u ∧
      wpAny (model P w) X.A (letOwnedTupleGo tg (.ref it) u) (fun _ s2 => ∃ x H', Inv X pins σ H' s2 ∧ RelV x u ∧ J.yld i H x H' ∧ tn (i + 1) s2.heap ∧ ∀ b ∈ fp, H' b = none) E s1) E s
  done : ∀ (X : Cx), X.prog = P → X.w = w → X.K = K → X.calm = true → ∀ (i : Nat) (pins : List (Addr × Obj)) (s : Shared) (σ : St) (H : Hp) (E : Value → Shared → Prop), Inv X pins σ H s → (∀ b ∈ fp, FpOk X pins H b) → tn i s.heap → J.stop i H →
    wpAny (model P w) X.A (pyNext (.ref it)) (fun r s1 => r = none ∧ Inv X pins σ H s1) E s
  self : ∀ (A : Around) (i : Nat) (s : Shared) (Q : Value → Shared → Prop) (E : Value → Shared → Prop), tn i s.heap → Q (.ref it) s → wpAny (model P w) A (pyIter (.ref it)) Q E s
abbrev TI := St → Hp → (It → Hp → Prop) → Prop
def PIE (X : Cx) (pins : List (Addr × Obj)) (σ : St) (tg : Expr) (R : It → Hp → Prop) (itv : Value) (s2 : Shared) : Prop :=
  ∃ (it : Addr) (fp : List Addr) (tn : Nat → Heap → Prop) (J : It) (H' : Hp), itv = .ref it ∧ Inv X pins σ H' s2 ∧ Turn X.prog X.w X.K tg J fp it tn ∧ tn 0 s2.heap ∧ (∀ b ∈ fp, FpOk X pins H' b) ∧ R J H'
def PI (X : Cx) (tg iter : Expr) (wi : TI) : Prop :=
  ∀ (pins : List (Addr × Obj)) (s : Shared) (σ : St) (H : Hp) (R : It → Hp → Prop), Inv X pins σ H s → wi σ H R →
    wpAny (model X.prog X.w) X.A (eval iter X.env) (fun v s1 => wpAny (model X.prog X.w) X.A (pyIter v) (PIE X pins σ tg R) X.xe s1) X.xe s

theorem go_of {M : Model} {A : Around} {E : Value → Shared → Prop} {s : Shared} {tg : Expr} {it : Addr} {u : Value} {o : Obj} {n : String} {vs : Array Value} {Q : Unit → Shared → Prop} (ho : s.heap.get? it = some o) (hc : o.cls = .type n) (hd : o.data = .fields vs)
    (hn : ["enumerate", "zip", "dict_itemiterator", "dict_reverseitemiterator", "odict_iterator", "itertools.zip_longest", "itertools.pairwise"].contains n = false) (hQ : Q () s) : wpAny M A (letOwnedTupleGo tg (.ref it) u) Q E s := by
  unfold letOwnedTupleGo
  cases tg <;> first
    | exact wpAny_pure hQ
    | (cases u <;> first
        | exact wpAny_pure hQ
        | (refine wpAny_bind (wpAny_load ho ?_)
           rw [hc, hd]
           show wpAny M A (if (["enumerate", "zip", "dict_itemiterator", "dict_reverseitemiterator", "odict_iterator", "itertools.zip_longest", "itertools.pairwise"].contains n && vs[0]? == some (rawInt _)) = true then _ else _) Q E s
           rw [if_neg (by intro h; rw [hn, Bool.false_and] at h; cases h)]
           exact wpAny_pure hQ))

def Itl (K : PySem.W.Frag) (a : Addr) : It :=
  ⟨fun i H => ∃ xs x, SqL K H a xs ∧ xs[i]? = some x, fun i H x H' => H' = H ∧ ∀ xs, SqL K H a xs → xs[i]? = some x, fun i H => ∃ xs, SqL K H a xs ∧ xs.length ≤ i⟩
def Itt (K : PySem.W.Frag) (a : Addr) : It :=
  ⟨fun i H => ∃ xs x, SqT K H a xs ∧ xs[i]? = some x, fun i H x H' => H' = H ∧ ∀ xs, SqT K H a xs → xs[i]? = some x, fun i H => ∃ xs, SqT K H a xs ∧ xs.length ≤ i⟩
def Itr (lo : Int) (n : Nat) : It := ⟨fun i _ => i < n, fun i H x H' => H' = H ∧ x = .int (lo + i), fun i _ => n ≤ i⟩
theorem turn_list {P : Program} {w : World} {K : PySem.W.Frag} {tg : Expr} (a it : Addr) : Turn P w K tg (Itl K a) [it] it (fun i h => h.IsListIter it a i) where
  mem := by simp
  obj := fun i h st b hb => by
    have e : b = it := by simpa using hb
    subst e
    obtain ⟨o, e, c, d⟩ := st
    exact ⟨o, e, fun v z => by rw [d] at z; cases z⟩
  keep := fun i h h' st k => st.at fun o e => k it (by simp) o e
  item := by
    intro X hP hw hK hc i pins s σ H E I hf st hg
    subst hP hw hK
    obtain ⟨xs, x, hq, hx⟩ := hg
    obtain ⟨its, rv, p, hz⟩ := I.list hq
    obtain ⟨u, hu, ru⟩ := rv.get hx
    obtain ⟨f0, f1, f2, f3, f4, f5⟩ := hf it (by simp)
    refine wpAny_pyNext_list_item st p.isList (x := u) (by simpa using hu) fun h' st' sb => ?_
    have I1 : Inv X pins σ H { s with heap := h' } := I.turned (t' := s.toks) (fun b o hb e => (sb.2 b hb).trans e) f0 f1 f3 f4 f5
    obtain ⟨o, e, c, d⟩ := id st'
    exact ⟨u, rfl, go_of (s := { s with heap := h' }) e c d (by decide) ⟨x, H, I1, ru, ⟨rfl, fun ys hy => by rw [I.list_inj hy hq]; exact hx⟩, st', fun b hb => (hf b hb).1⟩⟩
  done := by
    intro X hP hw hK hc i pins s σ H E I hf st hg
    subst hP hw hK
    obtain ⟨xs, hq, hx⟩ := hg
    obtain ⟨its, rv, p, hz⟩ := I.list hq
    obtain ⟨f0, f1, f2, f3, f4, f5⟩ := hf it (by simp)
    have hl := rv.length
    exact wpAny_pyNext_list_end (I.ok.hd hc) st p.isList (by simp; omega) fun h' eb => ⟨rfl, I.turned (t' := s.toks) (fun b o hb e => eb b o hb e) f0 f1 f3 f4 f5⟩
  self := fun _ _ _ _ _ st h => wpAny_pyIter_listiter st h
theorem turn_tuple {P : Program} {w : World} {K : PySem.W.Frag} {tg : Expr} (a it : Addr) : Turn P w K tg (Itt K a) [it] it (fun i h => h.IsTupleIter it a i) where
  mem := by simp
  obj := fun i h st b hb => by
    have e : b = it := by simpa using hb
    subst e
    obtain ⟨o, e, c, d⟩ := st
    exact ⟨o, e, fun v z => by rw [d] at z; cases z⟩
  keep := fun i h h' st k => st.at fun o e => k it (by simp) o e
  item := by
    intro X hP hw hK hc i pins s σ H E I hf st hg
    subst hP hw hK
    obtain ⟨xs, x, hq, hx⟩ := hg
    obtain ⟨its, rv, p, hz⟩ := I.tuple hq
    obtain ⟨u, hu, ru⟩ := rv.get hx
    obtain ⟨f0, f1, f2, f3, f4, f5⟩ := hf it (by simp)
    refine wpAny_pyNext_tuple_item st (show s.heap.IsTuple a its.toArray from p) (x := u) (by simpa using hu) fun h' st' sb => ?_
    have I1 : Inv X pins σ H { s with heap := h' } := I.turned (t' := s.toks) (fun b o hb e => (sb.2 b hb).trans e) f0 f1 f3 f4 f5
    obtain ⟨o, e, c, d⟩ := id st'
    exact ⟨u, rfl, go_of (s := { s with heap := h' }) e c d (by decide) ⟨x, H, I1, ru, ⟨rfl, fun ys hy => by rw [I.tuple_inj hy hq]; exact hx⟩, st', fun b hb => (hf b hb).1⟩⟩
  done := by
    intro X hP hw hK hc i pins s σ H E I hf st hg
    subst hP hw hK
    obtain ⟨xs, hq, hx⟩ := hg
    obtain ⟨its, rv, p, hz⟩ := I.tuple hq
    obtain ⟨f0, f1, f2, f3, f4, f5⟩ := hf it (by simp)
    have hl := rv.length
    exact wpAny_pyNext_tuple_end (I.ok.hd hc) st (show s.heap.IsTuple a its.toArray from p) (by simp; omega) fun h' eb => ⟨rfl, I.turned (t' := s.toks) (fun b o hb e => eb b o hb e) f0 f1 f3 f4 f5⟩
  self := fun _ _ _ _ _ st h => wpAny_pyIter_tupleiter st h
theorem turn_range {P : Program} {w : World} {K : PySem.W.Frag} {tg : Expr} (it : Addr) (lo : Int) (n : Nat) : Turn P w K tg (Itr lo n) [it] it (fun i h => IsRangeIter h it (lo + (i : Nat) * 1) ((n : Int) - (i : Nat)) 1) where
  mem := by simp
  obj := fun i h st b hb => by
    have e : b = it := by simpa using hb
    subst e
    exact ⟨_, st, fun v z => by
      have z' : Data.fields _ = Data.cell v := z
      cases z'⟩
  keep := fun i h h' st k => k it (by simp) _ st
  item := by
    intro X hP hw hK hc i pins s σ H E I hf st hg
    subst hP hw hK
    obtain ⟨f0, f1, f2, f3, f4, f5⟩ := hf it (by simp)
    have W := Walks.range (prog := X.prog) (w := X.w) (I.ok.hd hc) it lo 1 n
    refine W.item i s _ _ hg st fun v h' tk hv st' kk => ?_
    obtain ⟨t, rfl⟩ := hv
    have I1 : Inv X pins σ H { s with heap := h', toks := tk } := I.turned (fun b o hb e => kk b o (by simpa using hb) e) f0 f1 f3 f4 f5
    refine ⟨_, rfl, go_of (s := { s with heap := h', toks := tk }) (n := "range_iterator") st' rfl rfl (by decide) ⟨.int (lo + i), H, I1, ⟨t, ?_⟩, ⟨rfl, rfl⟩, st', fun b hb => (hf b hb).1⟩⟩
    rw [Int.mul_one]
  done := by
    intro X hP hw hK hc i pins s σ H E I hf st hg
    subst hP hw hK
    obtain ⟨f0, f1, f2, f3, f4, f5⟩ := hf it (by simp)
    exact wpAny_pyNext_range_end (I.ok.hd hc) st (by have : n ≤ i := hg; omega) fun h' eb => ⟨rfl, I.turned (t' := s.toks) (fun b o hb e => eb b o hb e) f0 f1 f3 f4 f5⟩
  self := fun _ _ _ _ _ st h => wpAny_pyIter_rangeiter st h
end L2

namespace L2
open PySem PySem.Spec PyProof.Rows
section
variable {X : Cx} {tg : Expr}
def iList (K : PySem.W.Frag) (tl : TE) : TI := fun σ H R => tl σ H fun x H1 => ∃ a, x = .ref a ∧ (∃ xs, SqL K H1 a xs) ∧ R (Itl K a) H1
def iTup (K : PySem.W.Frag) (tl : TE) : TI := fun σ H R => tl σ H fun x H1 => ∃ a, x = .ref a ∧ (∃ xs, SqT K H1 a xs) ∧ R (Itt K a) H1
theorem pi_list {l : Expr} {tl : TE} (hl : PE X l tl) : PI X tg l (iList X.K tl) := by
  intro pins s σ H R I h
  refine thn (hl pins s σ H _ I h) fun v s1 ⟨x, H1, I1, r1, q1⟩ => ?_
  obtain ⟨a, e, ⟨xs, hq⟩, q⟩ := q1
  subst e
  cases r1
  obtain ⟨its, rv, p, hz⟩ := I1.list hq
  refine wpAny_pyIter_list p.isList ?_
  refine ⟨s1.heap.objs.size, [s1.heap.objs.size], _, _, H1, rfl, I1.kept (t' := s1.toks) fun b o e => Heap.get?_push_of_some _ e, turn_list a _, ⟨_, Heap.get?_push_size _ rfl, rfl, rfl⟩, fun b hb => ?_, q⟩
  have e : b = s1.heap.objs.size := by simpa using hb
  subst e
  exact I1.fpOk (Nat.le_refl _) (I1.hok.fresh (Nat.le_refl _))
theorem pi_tup {l : Expr} {tl : TE} (hl : PE X l tl) : PI X tg l (iTup X.K tl) := by
  intro pins s σ H R I h
  refine thn (hl pins s σ H _ I h) fun v s1 ⟨x, H1, I1, r1, q1⟩ => ?_
  obtain ⟨a, e, ⟨xs, hq⟩, q⟩ := q1
  subst e
  cases r1
  obtain ⟨its, rv, p, hz⟩ := I1.tuple hq
  refine wpAny_pyIter_tuple (show s1.heap.IsTuple a its.toArray from p) ?_
  refine ⟨s1.heap.objs.size, [s1.heap.objs.size], _, _, H1, rfl, I1.kept (t' := s1.toks) fun b o e => Heap.get?_push_of_some _ e, turn_tuple a _, ⟨_, Heap.get?_push_size _ rfl, rfl, rfl⟩, fun b hb => ?_, q⟩
  have e : b = s1.heap.objs.size := by simpa using hb
  subst e
  exact I1.fpOk (Nat.le_refl _) (I1.hok.fresh (Nat.le_refl _))
theorem range_it {pins : List (Addr × Obj)} {σ : St} {H : Hp} {s : Shared} {R : It → Hp → Prop} {E : Value → Shared → Prop} {lo hi : Int} {t u v : Tok} {tk : Nat} (I : Inv X pins σ H s) (h1 : -(2 ^ 62) ≤ lo) (h2 : lo < 2 ^ 62) (h3 : -(2 ^ 62) ≤ hi) (h4 : hi < 2 ^ 62)
    (q : R (Itr lo (hi - lo).toNat) H) : wpAny (model X.prog X.w) X.A (pyIter (.ref s.heap.objs.size)) (PIE X pins σ tg R) E { s with heap := s.heap.push { cls := .type "range", data := .fields #[.int lo t, .int hi u, .int 1 v] }, toks := tk } := by
  refine wpAny_pyIter_range (IsRange.new ..) (small_one h1 h2 h3 h4) ?_
  have I1 : Inv X pins σ H { s with heap := s.heap.push { cls := .type "range", data := .fields #[.int lo t, .int hi u, .int 1 v] }, toks := tk } := I.kept fun b o e => Heap.get?_push_of_some _ e
  refine ⟨(s.heap.push { cls := .type "range", data := .fields #[.int lo t, .int hi u, .int 1 v] }).objs.size, [(s.heap.push { cls := .type "range", data := .fields #[.int lo t, .int hi u, .int 1 v] }).objs.size], _, _, H, rfl,
    I1.kept (t' := tk) fun b o e => Heap.get?_push_of_some _ e, turn_range _ lo (hi - lo).toNat, ?_, fun b hb => ?_, q⟩
  · have e1 : lo + ((0 : Nat) : Int) * 1 = lo := by simp
    have e2 : (((hi - lo).toNat : Nat) : Int) - ((0 : Nat) : Int) = Builtin.Range.rangeSize lo hi 1 := by rw [rangeSize_one]; split <;> omega
    show IsRangeIter _ _ (lo + ((0 : Nat) : Int) * 1) ((((hi - lo).toNat : Nat) : Int) - ((0 : Nat) : Int)) 1
    rw [e1, e2]
    exact Heap.get?_push_size _ rfl
  · have e : b = (s.heap.push { cls := .type "range", data := .fields #[.int lo t, .int hi u, .int 1 v] }).objs.size := by simpa using hb
    subst e
    exact I1.fpOk (Nat.le_refl _) (I1.hok.fresh (Nat.le_refl _))
def iRng1 (ta : TA) : TI := fun σ H R => ta σ H fun vs H1 => ∃ j : Int, vs = [.int j] ∧ -(2 ^ 62) ≤ j ∧ j < 2 ^ 62 ∧ R (Itr 0 j.toNat) H1
theorem pi_range1 {a : Expr} {ta : TA} {p pos : Pos} (hg : Gl X "range") (hm : X.mg "range" = none) (ha : PA X [a] ta) (hs : starEach [a] X.env = [(false, eval a X.env)] := by rfl) : PI X tg (.Call (.Name "range" p) [a] [] pos) (iRng1 ta) := by
  intro pins s σ H R I h
  refine Call_ (ld_blt I hg hm boot_range (PyProof.Rows.callWith_type1 (thn (ha pos pins s σ H _ I h) fun us s1 ⟨vs, H1, I1, r1, q1⟩ => ?_) hs rfl))
  obtain ⟨j, e, q1, q2, q⟩ := q1
  subst e
  cases r1 with
  | cons r rr =>
    cases rr
    obtain ⟨t, rfl⟩ := r
    exact call_range_1 (range_it I1 (by omega) (by omega) q1 q2 (by simpa using q))
def tFor (wi : TI) (g : TG) (tb : TS) : TS := fun D σ H => wi σ H fun J H1 => ∃ W : Nat → Nat → St → Hp → Prop, (∃ m, W 0 m σ H1) ∧ ∀ i m σ H, W i m σ H →
  (J.stop i H ∧ D.nx σ H) ∨ (J.go i H ∧ ∃ N : St → Hp → Prop, (∀ σ' H', N σ' H' → ∃ m', m' < m ∧ W (i + 1) m' σ' H') ∧ ∀ x H', J.yld i H x H' → g x σ H' fun σ2 H2 => tb { D with nx := N, ct := N, bk := D.nx } σ2 H2)
def pinsAt (fp : List Addr) (h : Heap) : List (Addr × Obj) := fp.filterMap fun b => (h.get? b).map fun o => (b, o)
theorem mem_pinsAt {fp : List Addr} {h : Heap} {b : Addr} {o : Obj} (hb : b ∈ fp) (e : h.get? b = some o) : (b, o) ∈ pinsAt fp h := List.mem_filterMap.mpr ⟨b, hb, by rw [e]; rfl⟩
theorem of_pinsAt {fp : List Addr} {h : Heap} {p : Addr × Obj} (hp : p ∈ pinsAt fp h) : p.1 ∈ fp ∧ h.get? p.1 = some p.2 := by
  obtain ⟨b, hb, e⟩ := List.mem_filterMap.mp hp
  cases q : h.get? b with
  | none => rw [q] at e; cases e
  | some o =>
    rw [q] at e
    have e' : (b, o) = p := Option.some.inj e
    subst e'
    exact ⟨hb, q⟩
theorem Inv.pinned {pins : List (Addr × Obj)} {σ : St} {H : Hp} {s : Shared} {fp : List Addr} (I : Inv X pins σ H s) (hf : ∀ b ∈ fp, FpOk X pins H b) (ho : ∀ b ∈ fp, ∃ o, s.heap.get? b = some o ∧ ∀ v, o.data ≠ .cell v) : Inv X (pins ++ pinsAt fp s.heap) σ H s :=
  I.pins_of fun p hp => (List.mem_append.mp hp).elim (fun z => I.pin p (List.mem_append_right _ z)) fun z => by
    obtain ⟨hb, e⟩ := of_pinsAt z
    obtain ⟨f0, f1, f2, _⟩ := hf p.1 hb
    obtain ⟨o, e', d⟩ := ho p.1 hb
    rw [e] at e'; cases e'
    exact ⟨e, f0, f1, f2, d⟩
theorem Inv.unpinned {pins pl : List (Addr × Obj)} {σ : St} {H : Hp} {s : Shared} (I : Inv X (pins ++ pl) σ H s) : Inv X pins σ H s := I.pins_of fun p hp => I.pin p (List.mem_append_right _ (List.mem_append_left _ hp))
theorem ps_for {iter : Expr} {body : List Stmt} {wi : TI} {g : TG} {tb : TS} {pos : Pos} (hp : PassesOwn (model X.prog X.w) X.A X.env X.xe) (hc : X.calm = true) (hi : PI X tg iter wi) (hg : PG X tg g) (hb : PSs X body tb)
    (hs : ∀ x, foldedSetIterable iter X.env x = pure x := by intro _; rfl) : PS X (.For tg iter body [] pos) (tFor wi g tb) := by
  intro pins s σ H D I h
  refine wpAny_For (thn (hi pins s σ H _ I h) fun v s1 h1 => thn h1 fun itv s2 h2 => ?_) hs
  obtain ⟨it, fp, tn, J, H2, e, I2, T, st2, f2, W, ⟨m0, w0⟩, turn⟩ := h2
  subst e
  -- what stays true of the iterator's objects through the loop
  have stat : ∀ {H' : Hp}, (∀ b ∈ fp, H' b = none) → ∀ b ∈ fp, FpOk X pins H' b := fun hn b hb => ⟨hn b hb, (f2 b hb).2⟩
  refine codeAny_forLoop_any (fun n s' => ∃ i σ' H', Inv X pins σ' H' s' ∧ tn i s'.heap ∧ (∀ b ∈ fp, H' b = none) ∧ W i n σ' H') ?_ m0 ⟨0, σ, H2, I2, st2, fun b hb => (f2 b hb).1, w0⟩
  rintro n s3 ⟨i, σ3, H3, I3, st3, fr3, w3⟩
  rcases turn i n σ3 H3 w3 with ⟨stop, qn⟩ | ⟨go, N, hN, step⟩
  · refine wpAny_passesOwn hp (thn (T.done X rfl rfl rfl hc i pins s3 σ3 H3 X.xe I3 (stat fr3) st3 stop) fun r s4 ⟨hr, I4⟩ => ?_)
    subst hr
    exact wpAny_execs_nil ⟨σ3, H3, I4, qn⟩
  · refine wpAny_passesOwn hp (thn (T.item X rfl rfl rfl hc i pins s3 σ3 H3 X.xe I3 (stat fr3) st3 go) fun r s4 ⟨u, hr, h4⟩ => ?_)
    subst hr
    refine wpAny_passesOwn hp (thn h4 fun _ s5 ⟨x, H5, I5, r5, y5, st5, fr5⟩ => ?_)
    have I5' := I5.pinned (stat fr5) (T.obj _ _ st5)
    refine wpAny_passesOwn hp (thn (hg _ s5 σ3 H5 x u _ I5' r5 (step x H5 y5)) fun _ s6 ⟨σ6, H6, I6, q6⟩ => ?_)
    refine wpAny_passesOwn hp (thn (hb _ s6 σ6 H6 _ I6 q6) fun f s7 q7 => ?_)
    have again : ∀ {σ7 : St} {H7 : Hp}, Inv X (pins ++ pinsAt fp s5.heap) σ7 H7 s7 → N σ7 H7 → ∃ m, m < n ∧ ∃ i σ' H', Inv X pins σ' H' s7 ∧ tn i s7.heap ∧ (∀ b ∈ fp, H' b = none) ∧ W i m σ' H' := fun {σ7 H7} I7 n7 => by
      obtain ⟨m', hm, w7⟩ := hN σ7 H7 n7
      refine ⟨m', hm, i + 1, σ7, H7, I7.unpinned, T.keep _ _ _ st5 fun b hb o e => (I7.pin (b, o) (List.mem_append_right _ (List.mem_append_right _ (mem_pinsAt hb e)))).1, fun b hb => ?_, w7⟩
      obtain ⟨o, e, d⟩ := T.obj _ _ st5 b hb
      exact (I7.pin (b, o) (List.mem_append_right _ (List.mem_append_right _ (mem_pinsAt hb e)))).2.1
    cases f with
    | next => obtain ⟨σ7, H7, I7, n7⟩ := q7; exact again I7 n7
    | cont => obtain ⟨σ7, H7, I7, n7⟩ := q7; exact again I7 n7
    | brk => obtain ⟨σ7, H7, I7, q7⟩ := q7; exact ⟨σ7, H7, I7.unpinned, q7⟩
    | ret v => obtain ⟨x7, σ7, H7, I7, r7, q7⟩ := q7; exact ⟨x7, σ7, H7, I7.unpinned, r7, q7⟩
end

theorem for_list {K : PySem.W.Frag} {a : Addr} {xs : List V} {g : TG} {tb : TS} {D : Ends} {σ : St} {H : Hp} (Pv : Nat → St → Hp → Prop) (h0 : Pv 0 σ H) (hl : ∀ i σ H, i ≤ xs.length → Pv i σ H → SqL K H a xs)
    (hs : ∀ i x σ H, xs[i]? = some x → Pv i σ H → g x σ H fun σ2 H2 => tb { D with nx := Pv (i + 1), ct := Pv (i + 1), bk := D.nx } σ2 H2) (hd : ∀ σ H, Pv xs.length σ H → D.nx σ H) :
    ∃ W : Nat → Nat → St → Hp → Prop, (∃ m, W 0 m σ H) ∧ ∀ i m σ H, W i m σ H →
      ((Itl K a).stop i H ∧ D.nx σ H) ∨ ((Itl K a).go i H ∧ ∃ N : St → Hp → Prop, (∀ σ' H', N σ' H' → ∃ m', m' < m ∧ W (i + 1) m' σ' H') ∧ ∀ x H', (Itl K a).yld i H x H' → g x σ H' fun σ2 H2 => tb { D with nx := N, ct := N, bk := D.nx } σ2 H2) := by
  refine ⟨fun i m σ H => m = xs.length - i ∧ i ≤ xs.length ∧ Pv i σ H, ⟨xs.length, by simp, Nat.zero_le _, h0⟩, ?_⟩
  rintro i m σ H ⟨rfl, hi, p⟩
  have q := hl i σ H hi p
  by_cases hlt : i < xs.length
  · refine .inr ⟨⟨xs, xs[i], q, by simp [hlt]⟩, Pv (i + 1), fun σ' H' p' => ⟨xs.length - (i + 1), by omega, rfl, hlt, p'⟩, fun x H' y => ?_⟩
    obtain ⟨e, y⟩ := y
    subst e
    exact hs i x σ _ (y xs q) p
  · have e : i = xs.length := by omega
    subst e
    exact .inl ⟨⟨xs, q, Nat.le_refl _⟩, hd σ H p⟩
theorem for_tup {K : PySem.W.Frag} {a : Addr} {xs : List V} {g : TG} {tb : TS} {D : Ends} {σ : St} {H : Hp} (Pv : Nat → St → Hp → Prop) (h0 : Pv 0 σ H) (hl : ∀ i σ H, i ≤ xs.length → Pv i σ H → SqT K H a xs)
    (hs : ∀ i x σ H, xs[i]? = some x → Pv i σ H → g x σ H fun σ2 H2 => tb { D with nx := Pv (i + 1), ct := Pv (i + 1), bk := D.nx } σ2 H2) (hd : ∀ σ H, Pv xs.length σ H → D.nx σ H) :
    ∃ W : Nat → Nat → St → Hp → Prop, (∃ m, W 0 m σ H) ∧ ∀ i m σ H, W i m σ H →
      ((Itt K a).stop i H ∧ D.nx σ H) ∨ ((Itt K a).go i H ∧ ∃ N : St → Hp → Prop, (∀ σ' H', N σ' H' → ∃ m', m' < m ∧ W (i + 1) m' σ' H') ∧ ∀ x H', (Itt K a).yld i H x H' → g x σ H' fun σ2 H2 => tb { D with nx := N, ct := N, bk := D.nx } σ2 H2) := by
  refine ⟨fun i m σ H => m = xs.length - i ∧ i ≤ xs.length ∧ Pv i σ H, ⟨xs.length, by simp, Nat.zero_le _, h0⟩, ?_⟩
  rintro i m σ H ⟨rfl, hi, p⟩
  have q := hl i σ H hi p
  by_cases hlt : i < xs.length
  · refine .inr ⟨⟨xs, xs[i], q, by simp [hlt]⟩, Pv (i + 1), fun σ' H' p' => ⟨xs.length - (i + 1), by omega, rfl, hlt, p'⟩, fun x H' y => ?_⟩
    obtain ⟨e, y⟩ := y
    subst e
    exact hs i x σ _ (y xs q) p
  · have e : i = xs.length := by omega
    subst e
    exact .inl ⟨⟨xs, q, Nat.le_refl _⟩, hd σ H p⟩
end L2

namespace L2
open PySem PySem.Spec PyProof.Rows

abbrev R2 := V → V → Hp → VK → Prop
def OpR (X : Cx) (f : Value → Value → Sem Value) (r : R2) : Prop :=
  ∀ (pins : List (Addr × Obj)) (s : Shared) (σ : St) (H : Hp) (x y : V) (v u : Value) (Q : VK), Inv X pins σ H s → RelV x v → RelV y u → r x y H Q →
    wpAny (model X.prog X.w) X.A (f v u) (EP X pins σ Q) X.xe s
def UnR (X : Cx) (f : Value → Sem Value) (r : V → Hp → VK → Prop) : Prop :=
  ∀ (pins : List (Addr × Obj)) (s : Shared) (σ : St) (H : Hp) (x : V) (v : Value) (Q : VK), Inv X pins σ H s → RelV x v → r x H Q →
    wpAny (model X.prog X.w) X.A (f v) (EP X pins σ Q) X.xe s
def CallR (X : Cx) (f : Value) (r : List V → Hp → VK → Prop) : Prop :=
  ∀ (pins : List (Addr × Obj)) (s : Shared) (σ : St) (H : Hp) (xs : List V) (us : List Value) (Q : VK), Inv X pins σ H s → Vals xs us → r xs H Q →
    wpAny (model X.prog X.w) X.A (call f us) (EP X pins σ Q) X.xe s
def TruR (X : Cx) (r : V → Hp → (Bool → Hp → Prop) → Prop) : Prop :=
  ∀ (pins : List (Addr × Obj)) (s : Shared) (σ : St) (H : Hp) (x : V) (v : Value) (Q : Bool → Hp → Prop), Inv X pins σ H s → RelV x v → r x H Q →
    wpAny (model X.prog X.w) X.A (truthy v) (TP X pins σ Q) X.xe s

def tOp (r : R2) (ta tb : TE) : TE := fun σ H Q => ta σ H fun x H1 => tb σ H1 fun y H2 => r x y H2 Q
def tUn (r : V → Hp → VK → Prop) (ta : TE) : TE := fun σ H Q => ta σ H fun x H1 => r x H1 Q
def rI (C : Int → Int → Prop) (g : Int → Int → V) : R2 := fun x y H Q => ∃ i j, x = .int i ∧ y = .int j ∧ C i j ∧ Q (g i j) H
def rI0 (g : Int → Int → V) : R2 := fun x y H Q => ∃ i j, x = .int i ∧ y = .int j ∧ Q (g i j) H
def rU (g : Int → V) : V → Hp → VK → Prop := fun x H Q => ∃ i, x = .int i ∧ Q (g i) H

section
variable {X : Cx} {a b c : Expr} {ta tb tc : TE} {pos : Pos}

theorem binT (ha : PE X a ta) (hb : PE X b tb) {pins : List (Addr × Obj)} {s : Shared} {σ : St} {H : Hp} {R : V → V → Hp → Prop} (I : Inv X pins σ H s)
    (h : ta σ H fun x H1 => tb σ H1 fun y H2 => R x y H2) {Q : Value → Shared → Prop} {f : Value → Value → Sem Value}
    (hf : ∀ v u s2 x y H2, Inv X pins σ H2 s2 → RelV x v → RelV y u → R x y H2 → wpAny (model X.prog X.w) X.A (f v u) Q X.xe s2) :
    wpAny (model X.prog X.w) X.A (eval a X.env) (fun v s₁ => wpAny (model X.prog X.w) X.A (eval b X.env) (fun u s₂ => wpAny (model X.prog X.w) X.A (f v u) Q X.xe s₂) X.xe s₁) X.xe s := by
  refine thn (ha pins s σ H _ I h) fun v s1 ⟨x, H1, I1, r1, q1⟩ => ?_
  refine thn (hb pins s1 σ H1 _ I1 q1) fun u s2 ⟨y, H2, I2, r2, q2⟩ => ?_
  exact hf v u s2 x y H2 I2 r1 r2 q2

theorem pe_op {op : Operator} {r : R2} (ho : OpR X (binaryOp op) r) (ha : PE X a ta) (hb : PE X b tb) : PE X (.BinOp a op b pos) (tOp r ta tb) := by
  intro pins s σ H Q I h
  exact wpAny_BinOp (binT ha hb I h fun v u s2 x y H2 I2 rx ry q => ho pins s2 σ H2 x y v u Q I2 rx ry q)
theorem pe_un {op : UnaryOp} {r : V → Hp → VK → Prop} (ho : UnR X (unaryOp op) r) (ha : PE X a ta) : PE X (.UnaryOp op a pos) (tUn r ta) := by
  intro pins s σ H Q I h
  exact UnaryOp_ (thn (ha pins s σ H _ I h) fun v s1 ⟨x, H1, I1, r1, q1⟩ => ho pins s1 σ H1 x v Q I1 r1 q1)
theorem opI {f : Value → Value → Sem Value} {C : Int → Int → Prop} {g : Int → Int → Int}
    (rule : ∀ (i j : Int) (t u : Tok) (s : Shared) (Q : Value → Shared → Prop) (E : Value → Shared → Prop), C i j → Q (.int (g i j) s.toks) { s with toks := s.toks + 1 } → wpAny (model X.prog X.w) X.A (f (.int i t) (.int j u)) Q E s) :
    OpR X f (rI C fun i j => .int (g i j)) := by
  intro pins s σ H x y v u Q I rx ry h
  obtain ⟨i, j, rfl, rfl, hc, q⟩ := h
  obtain ⟨t, rfl⟩ := rx
  obtain ⟨t', rfl⟩ := ry
  exact rule i j t t' s _ _ hc ⟨.int (g i j), H, I.tok _, ⟨_, rfl⟩, q⟩
theorem opI0 {f : Value → Value → Sem Value} {g : Int → Int → Int}
    (rule : ∀ (i j : Int) (t u : Tok) (s : Shared) (Q : Value → Shared → Prop) (E : Value → Shared → Prop), Q (.int (g i j) s.toks) { s with toks := s.toks + 1 } → wpAny (model X.prog X.w) X.A (f (.int i t) (.int j u)) Q E s) :
    OpR X f (rI0 fun i j => .int (g i j)) := by
  intro pins s σ H x y v u Q I rx ry h
  obtain ⟨i, j, rfl, rfl, q⟩ := h
  obtain ⟨t, rfl⟩ := rx
  obtain ⟨t', rfl⟩ := ry
  exact rule i j t t' s _ _ ⟨.int (g i j), H, I.tok _, ⟨_, rfl⟩, q⟩
theorem opB0 {f : Value → Value → Sem Value} {g : Int → Int → Bool}
    (rule : ∀ (i j : Int) (t u : Tok) (s : Shared) (Q : Value → Shared → Prop) (E : Value → Shared → Prop), Q (.bool (g i j)) s → wpAny (model X.prog X.w) X.A (f (.int i t) (.int j u)) Q E s) :
    OpR X f (rI0 fun i j => .bl (g i j)) := by
  intro pins s σ H x y v u Q I rx ry h
  obtain ⟨i, j, rfl, rfl, q⟩ := h
  obtain ⟨t, rfl⟩ := rx
  obtain ⟨t', rfl⟩ := ry
  exact rule i j t t' s _ _ ⟨.bl (g i j), H, I, rfl, q⟩

def CPow (i j : Int) : Prop := 0 ≤ j ∧ j ≤ 1000000 ∧ i.natAbs < 2 ^ 64
def CMul (i j : Int) : Prop := (-(2 ^ 64) < i ∧ i < 2 ^ 64) ∨ (-(2 ^ 64) < j ∧ j < 2 ^ 64)
theorem CMul.ok {i j : Int} (h : CMul i j) : IntMulOk i j := by
  rcases h with ⟨h1, h2⟩ | ⟨h1, h2⟩
  · exact .of_left (intBits_le_64 h1 h2)
  · exact .of_right (intBits_le_64 h1 h2)
theorem op_add : OpR X (binaryOp .Add) (rI0 fun i j => .int (i + j)) := opI0 fun _ _ _ _ _ _ _ q => add_int q
theorem op_sub : OpR X (binaryOp .Sub) (rI0 fun i j => .int (i - j)) := opI0 fun _ _ _ _ _ _ _ q => sub_int q
theorem op_mul : OpR X (binaryOp .Mult) (rI CMul fun i j => .int (i * j)) := opI fun _ _ _ _ _ _ _ hc q => mul_int q hc.ok
theorem op_mod : OpR X (binaryOp .Mod) (rI (fun _ j => 0 < j) fun i j => .int (i % j)) := opI fun i j _ _ _ _ _ hc q => by
  have h1 : (0 : Int) < j := hc
  exact mod_int' (by omega) (by rw [Int.fmod_eq_emod_of_nonneg i (by omega)]; exact q)
theorem op_pow : OpR X (binaryOp .Pow) (rI CPow fun i j => .int (i ^ j.toNat)) := opI fun _ _ _ _ _ _ _ hc q => pow_int_small hc.1 hc.2.1 hc.2.2 q
theorem unI {f : Value → Sem Value} {g : Int → Int}
    (rule : ∀ (i : Int) (t : Tok) (s : Shared) (Q : Value → Shared → Prop) (E : Value → Shared → Prop), Q (.int (g i) s.toks) { s with toks := s.toks + 1 } → wpAny (model X.prog X.w) X.A (f (.int i t)) Q E s) :
    UnR X f (rU fun i => .int (g i)) := by
  intro pins s σ H x v Q I rx h
  obtain ⟨i, rfl, q⟩ := h
  obtain ⟨t, rfl⟩ := rx
  exact rule i t s _ _ ⟨.int (g i), H, I.tok _, ⟨_, rfl⟩, q⟩
theorem un_neg : UnR X (unaryOp .USub) (rU fun i => .int (-i)) := unI fun _ _ _ _ _ q => neg_int q
end

def scal : V → V → Bool
  | .non, .non => true | .non, .int _ => true | .int _, .non => true | .non, .bl _ => true | .bl _, .non => true | .non, .str _ => true | .str _, .non => true
  | .int _, .int _ => true | .bl _, .bl _ => true | .str _, .str _ => true | .byt _, .byt _ => true
  | .int _, .str _ => true | .str _, .int _ => true | .bl _, .str _ => true | .str _, .bl _ => true
  | _, _ => false
def rEq : R2 := fun x y H Q => scal x y = true ∧ Q (.bl (decide (x = y))) H
def rNe : R2 := fun x y H Q => scal x y = true ∧ Q (.bl (!decide (x = y))) H

theorem dec_int {i j : Int} : decide (V.int i = V.int j) = (i == j) := by
  rw [Bool.eq_iff_iff]
  simp
theorem dec_bl {i j : Bool} : decide (V.bl i = V.bl j) = (i == j) := by
  rw [Bool.eq_iff_iff]
  simp
theorem dec_str {i j : Str} : decide (V.str i = V.str j) = (i == j) := by
  rw [Bool.eq_iff_iff]
  simp
theorem dec_byt {i j : Array UInt8} : decide (V.byt i = V.byt j) = (i.toList == j.toList) := by
  rw [Bool.eq_iff_iff]
  cases i
  cases j
  simp

section
variable {X : Cx} {a b c : Expr} {ta tb tc : TE} {pos : Pos}
theorem fin_bl {pins : List (Addr × Obj)} {σ : St} {H : Hp} {s : Shared} {Q : VK} {k k' : Bool} (I : Inv X pins σ H s) (q : Q (.bl k) H) (e : k = k') : EP X pins σ Q (.bool k') s := by
  subst e
  exact ⟨.bl k, H, I, rfl, q⟩
theorem op_eq : OpR X (compareOp .Eq) rEq := by
  intro pins s σ H x y v u Q I rx ry h
  obtain ⟨hs, q⟩ := h
  cases x with
  | non =>
    cases rx
    cases y with
    | non => cases ry; exact PySem.EqNone.eq_none_none (fin_bl I q (by simp))
    | bl j => cases ry; exact PySem.EqNone.eq_none_bool (fin_bl I q (by simp))
    | int j => obtain ⟨t', rfl⟩ := ry; exact PySem.EqNone.eq_none_int (fin_bl I q (by simp))
    | str j => obtain ⟨t', rfl⟩ := ry; exact PySem.EqNone.eq_none_str (fin_bl I q (by simp))
    | _ => exact absurd (show false = true from hs) Bool.false_ne_true
  | bl i =>
    cases rx
    cases y with
    | non => cases ry; exact PySem.EqNone.eq_bool_none (fin_bl I q (by simp))
    | bl j => cases ry; exact eq_bool (fin_bl I q dec_bl)
    | str j => obtain ⟨t', rfl⟩ := ry; exact PySem.EqMixed.eq_bool_str (fin_bl I q (by simp))
    | _ => exact absurd (show false = true from hs) Bool.false_ne_true
  | int i =>
    obtain ⟨t, rfl⟩ := rx
    cases y with
    | non => cases ry; exact PySem.EqNone.eq_int_none (fin_bl I q (by simp))
    | int j => obtain ⟨t', rfl⟩ := ry; exact eq_int (fin_bl I q dec_int)
    | str j => obtain ⟨t', rfl⟩ := ry; exact PySem.EqMixed.eq_int_str (fin_bl I q (by simp))
    | _ => exact absurd (show false = true from hs) Bool.false_ne_true
  | str i =>
    obtain ⟨t, rfl⟩ := rx
    cases y with
    | non => cases ry; exact PySem.EqNone.eq_str_none (fin_bl I q (by simp))
    | bl j => cases ry; exact PySem.EqMixed.eq_str_bool (fin_bl I q (by simp))
    | int j => obtain ⟨t', rfl⟩ := ry; exact PySem.EqMixed.eq_str_int (fin_bl I q (by simp))
    | str j => obtain ⟨t', rfl⟩ := ry; exact eq_str (fin_bl I q dec_str)
    | _ => exact absurd (show false = true from hs) Bool.false_ne_true
  | byt i =>
    obtain ⟨t, rfl⟩ := rx
    cases y with
    | byt j => obtain ⟨t', rfl⟩ := ry; exact PySem.W.eq_bytes (fin_bl I q dec_byt)
    | _ => exact absurd (show false = true from hs) Bool.false_ne_true
  | _ => cases y <;> exact absurd (show false = true from hs) Bool.false_ne_true
theorem op_lt : OpR X (compareOp .Lt) (rI0 fun i j => .bl (decide (i < j))) := opB0 fun _ _ _ _ _ _ _ q => lt_int q
theorem op_le : OpR X (compareOp .LtE) (rI0 fun i j => .bl (decide (i ≤ j))) := opB0 fun _ _ _ _ _ _ _ q => le_int q
theorem op_gt : OpR X (compareOp .Gt) (rI0 fun i j => .bl (decide (j < i))) := opB0 fun _ _ _ _ _ _ _ q => gt_int q
theorem op_isN : OpR X (compareOp .Is) (fun x y H Q => y = .non ∧ Q (.bl (decide (x = .non))) H) := by
  intro pins s σ H x y v u Q I rx ry h
  obtain ⟨rfl, q⟩ := h
  cases ry
  refine is_none_gen (fin_bl I q ?_)
  cases x <;> first
    | (cases rx; rfl)
    | (obtain ⟨t, rfl⟩ := rx; rfl)
theorem op_notN : OpR X (compareOp .IsNot) (fun x y H Q => y = .non ∧ Q (.bl (!decide (x = .non))) H) := by
  intro pins s σ H x y v u Q I rx ry h
  obtain ⟨rfl, q⟩ := h
  cases ry
  refine isnot_none_gen (fin_bl I q ?_)
  cases x <;> first
    | (cases rx; rfl)
    | (obtain ⟨t, rfl⟩ := rx; rfl)

theorem OpR.or {f : Value → Value → Sem Value} {r r' : R2} (h : OpR X f r) (h' : OpR X f r') : OpR X f (fun x y H Q => r x y H Q ∨ r' x y H Q) := by
  intro pins s σ H x y v u Q I rx ry q
  rcases q with q | q
  · exact h pins s σ H x y v u Q I rx ry q
  · exact h' pins s σ H x y v u Q I rx ry q

theorem nomark (b : Expr) {op : CmpOp} (h : op ≠ .In := by decide) (h2 : op ≠ .NotIn := by decide) : behindInMarks op b = false := by
  have e1 : (op == CmpOp.In) = false := by cases op <;> first | rfl | exact absurd rfl h
  have e2 : (op == CmpOp.NotIn) = false := by cases op <;> first | rfl | exact absurd rfl h2
  cases b <;> simp [behindInMarks, e1, e2]
def tTest (t : TE) : TT := fun σ H Q => t σ H fun x H' => ∃ k, x = .bl k ∧ Q k H'
theorem pt_cmpR {op : CmpOp} {r : R2} (ho : OpR X (compareOp op) r) (ha : PE X a ta) (hb : PE X b tb) (hm : behindInMarks op b = false) : PT X (.Compare a [op] [b] pos) (tTest (tOp r ta tb)) := by
  intro pins s σ H Q I h
  refine wpAny_isTrue_Compare1 (thn (ha pins s σ H _ I h) fun v s1 ⟨x, H1, I1, r1, q1⟩ => thn (hb pins s1 σ H1 _ I1 q1) fun u s2 ⟨y, H2, I2, r2, q2⟩ =>
    thn (ho pins s2 σ H2 x y v u _ I2 r1 r2 q2) fun c s3 ⟨z, H3, I3, r3, k, e, q3⟩ => ?_) hm
  subst e
  cases r3
  exact wpAny_truthy_bool ⟨H3, I3, q3⟩
def tChain (r r' : R2) (ta tb tc : TE) : TE := fun σ H Q => ta σ H fun x H1 => tb σ H1 fun y H2 => r x y H2 fun z H3 => ∃ k, z = .bl k ∧
  (if k = true then tc σ H3 fun w' H4 => r' y w' H4 Q else Q (.bl false) H3)
def TruV (K : PySem.W.Frag) (x : V) (H : Hp) (k : Bool) : Prop :=
  match x with
  | .non => k = false
  | .bl b => k = b
  | .int i => k = (i != 0)
  | .str y => y.length ≤ sizeLine ∧ k = ((y.length : Int) != 0)
  | .byt y => y.size ≤ sizeLine ∧ k = ((y.size : Int) != 0)
  | .ref p => (∃ xs, SqL K H p xs ∧ k = !xs.isEmpty) ∨ (∃ xs, SqT K H p xs ∧ k = !xs.isEmpty) ∨ ∃ kvs, H p = some (.dK kvs) ∧ k = !kvs.isEmpty
  | _ => False
theorem isEmpty_kv {κ : Type} {kvs : List (κ × V)} {vs : List (κ × Value)} (r : KV kvs vs) : (!vs.isEmpty) = !kvs.isEmpty := by
  cases r <;> rfl
theorem isEmpty_of {xs : List V} {its : List Value} (r : Vals xs its) : (!its.toArray.isEmpty) = !xs.isEmpty := by
  cases r <;> simp
theorem line63 : (sizeLine : Nat) < 2 ^ 63 := by rw [sizeLine_eq]; decide
theorem tru_ok : TruR X (fun x H Q => ∃ k, TruV X.K x H k ∧ Q k H) := by
  intro pins s σ H x v Q I rx h
  obtain ⟨k, e, q⟩ := h
  have hl := line63
  have hs : sizeLine = 16777216 := sizeLine_eq
  cases x with
  | non =>
    cases rx
    have e' : k = false := e
    subst e'
    exact truthy_none ⟨H, I, q⟩
  | bl b =>
    cases rx
    have e' : k = b := e
    subst e'
    exact wpAny_truthy_bool ⟨H, I, q⟩
  | int i =>
    obtain ⟨t, rfl⟩ := rx
    have e' : k = (i != 0) := e
    subst e'
    exact PySem.P.truthy_int ⟨H, I, q⟩
  | str y =>
    obtain ⟨t, rfl⟩ := rx
    obtain ⟨hy, e'⟩ : y.length ≤ sizeLine ∧ k = ((y.length : Int) != 0) := e
    subst e'
    exact PySem.P.truthy_str (by omega) ⟨H, I.tok _, q⟩
  | byt y =>
    obtain ⟨t, rfl⟩ := rx
    obtain ⟨hy, e'⟩ : y.size ≤ sizeLine ∧ k = ((y.size : Int) != 0) := e
    subst e'
    exact PySem.W.truthy_bytes (by omega) ⟨H, I.tok _, q⟩
  | ref p =>
    cases rx
    have e' : (∃ xs, SqL X.K H p xs ∧ k = !xs.isEmpty) ∨ (∃ xs, SqT X.K H p xs ∧ k = !xs.isEmpty) ∨ ∃ kvs, H p = some (.dK kvs) ∧ k = !kvs.isEmpty := e
    rcases e' with ⟨xs, hx, e'⟩ | ⟨xs, hx, e'⟩ | ⟨kvs, hx, e'⟩
    · subst e'
      obtain ⟨its, r, pl, hz⟩ := I.list hx
      have hlen := r.length
      exact wpAny_truthy_list pl.isList (by simp only [List.size_toArray]; omega) ⟨H, I.tok _, by rw [isEmpty_of r]; exact q⟩
    · subst e'
      obtain ⟨its, r, pl, hz⟩ := I.tuple hx
      have hlen := r.length
      exact truthy_tuple pl (by simp only [List.size_toArray]; omega) ⟨H, I.tok _, by rw [isEmpty_of r]; exact q⟩
    · subst e'
      obtain ⟨hz, hS, vs, r, m⟩ : kvs.length ≤ sizeLine ∧ (p == sysModules) = false ∧ ∃ vs, KV kvs vs ∧ s.heap.DictOf (mixKind X.prog X.w) p vs := I.hok p _ hx
      have hlen : kvs.length = vs.length := Paired.length r
      exact wpAny_truthy_dict hS m (by omega) ⟨H, I.tok _, by rw [isEmpty_kv r]; exact q⟩
  | _ => exact (show False from e).elim
theorem pt_truth (ha : PE X a ta) (he : ∀ whole, isTrue a X.env whole = (do let v ← whole; standAt a.pos; holding [v] (truthy v))) :
    PT X a (fun σ H Q => ta σ H fun x H' => ∃ k, TruV X.K x H' k ∧ Q k H') := by
  intro pins s σ H Q I h
  exact isTrue_plain (thn (ha pins s σ H _ I h) fun v s1 ⟨x, H1, I1, r1, q1⟩ => tru_ok pins s1 σ H1 x v Q I1 r1 q1) (he _)

theorem op_add_str : OpR X (binaryOp .Add) (fun x y H Q => ∃ i j, x = .str i ∧ y = .str j ∧ i.length + j.length ≤ sizeLine ∧ Q (.str (i ++ j)) H) := by
  intro pins s σ H x y v u Q I rx ry h
  obtain ⟨i, j, rfl, rfl, hz, q⟩ := h
  obtain ⟨t, rfl⟩ := rx
  obtain ⟨t', rfl⟩ := ry
  exact add_str (fun t' tk => ⟨.str (i ++ j), H, I.tok _, ⟨_, rfl⟩, q⟩) hz
theorem vals1 {x : V} {us : List Value} (r : Vals [x] us) : ∃ u, us = [u] ∧ RelV x u := by
  cases r with
  | cons r1 r2 => cases r2; exact ⟨_, rfl, r1⟩
theorem vals2 {x y : V} {us : List Value} (r : Vals [x, y] us) : ∃ u w', us = [u, w'] ∧ RelV x u ∧ RelV y w' := by
  cases r with
  | cons r1 r2 =>
    cases r2 with
    | cons r3 r4 => cases r4; exact ⟨_, _, rfl, r1, r3⟩
theorem call_max2 (hc : X.calm = true) : CallR X (.builtin "max") (fun xs H Q => ∃ i j, xs = [.int i, .int j] ∧ Q (.int (if j > i then j else i)) H) := by
  intro pins s σ H xs us Q I r h
  obtain ⟨i, j, rfl, q⟩ := h
  obtain ⟨u, w', rfl, ⟨t, rfl⟩, ⟨t', rfl⟩⟩ := vals2 r
  refine max_two_ints (I.ok.hd hc) fun h' tk k => ⟨_, H, I.kept k, ?_, q⟩
  by_cases hj : j > i
  · rw [if_pos hj, if_pos hj]; exact ⟨_, rfl⟩
  · rw [if_neg hj, if_neg hj]; exact ⟨_, rfl⟩
theorem call_min2 (hc : X.calm = true) : CallR X (.builtin "min") (fun xs H Q => ∃ i j, xs = [.int i, .int j] ∧ Q (.int (if j < i then j else i)) H) := by
  intro pins s σ H xs us Q I r h
  obtain ⟨i, j, rfl, q⟩ := h
  obtain ⟨u, w', rfl, ⟨t, rfl⟩, ⟨t', rfl⟩⟩ := vals2 r
  refine min_two_ints (I.ok.hd hc) fun h' tk k => ⟨_, H, I.kept k, ?_, q⟩
  by_cases hj : j < i
  · rw [if_pos hj, if_pos hj]; exact ⟨_, rfl⟩
  · rw [if_neg hj, if_neg hj]; exact ⟨_, rfl⟩
def LenV (K : PySem.W.Frag) (x : V) (H : Hp) (n : Nat) : Prop :=
  match x with
  | .str y => y.length ≤ sizeLine ∧ n = y.length
  | .byt y => y.size ≤ sizeLine ∧ n = y.size
  | .ref p => (∃ xs, SqL K H p xs ∧ n = xs.length) ∨ ∃ xs, SqT K H p xs ∧ n = xs.length
  | _ => False
theorem call_len : CallR X (.builtin "len") (fun xs H Q => ∃ x n, xs = [x] ∧ LenV X.K x H n ∧ Q (.int n) H) := by
  intro pins s σ H xs us Q I r h
  obtain ⟨x, n, rfl, e, q⟩ := h
  obtain ⟨u, rfl, rx⟩ := vals1 r
  have hl := line63
  have hs : sizeLine = 16777216 := sizeLine_eq
  cases x with
  | str y =>
    obtain ⟨t, rfl⟩ := rx
    obtain ⟨hy, e'⟩ : y.length ≤ sizeLine ∧ n = y.length := e
    subst e'
    exact len_str (by omega) ⟨.int _, H, I.tok _, ⟨_, rfl⟩, q⟩
  | byt y =>
    obtain ⟨t, rfl⟩ := rx
    obtain ⟨hy, e'⟩ : y.size ≤ sizeLine ∧ n = y.size := e
    subst e'
    exact PySem.W.len_bytes (by omega) ⟨.int _, H, I.tok _, ⟨_, rfl⟩, q⟩
  | ref p =>
    cases rx
    have e' : (∃ xs, SqL X.K H p xs ∧ n = xs.length) ∨ ∃ xs, SqT X.K H p xs ∧ n = xs.length := e
    rcases e' with ⟨xs, hx, e'⟩ | ⟨xs, hx, e'⟩
    · subst e'
      obtain ⟨its, r', pl, hz⟩ := I.list hx
      have hlen := r'.length
      exact Calls.call_len_list pl.isList (by simp only [List.size_toArray]; omega) ⟨.int xs.length, H, I.tok _, ⟨_, by simp only [List.size_toArray]; rw [hlen]⟩, q⟩
    · subst e'
      obtain ⟨its, r', pl, hz⟩ := I.tuple hx
      have hlen := r'.length
      exact len_tuple pl (by simp only [List.size_toArray]; omega) ⟨.int xs.length, H, I.tok _, ⟨_, by simp only [List.size_toArray]; rw [hlen]⟩, q⟩
  | _ => exact (show False from e).elim
end
end L2

namespace L2
open PySem PySem.Spec PyProof.Rows

structure ObjM (h : Heap) (x dx C : Addr) (mA : Str → Option Value) : Prop where
  obj : h.get? x = some (PySem.W.instObj C dx)
  ns : h.Ns1 dx mA
  ne : dx ≠ x

theorem lookIn_ns {h : Heap} {dx : Addr} {mA : Str → Option Value} (n : h.Ns1 dx mA) : ∃ od, h.get? dx = some od ∧ ∀ name, PySem.W.lookIn name od = some (mA name) := by
  obtain ⟨o, es, ep, ho, hd, hk, _, hm⟩ := n
  refine ⟨o, ho, fun name => ?_⟩
  have e := hm name
  unfold nsFind findBy at e
  rw [← Array.find?_toList] at e
  unfold PySem.W.lookIn
  rw [hd]
  dsimp only
  split
  · rename_i y q
    rw [q] at e
    exact congrArg some e
  · rename_i q
    rw [q] at e
    have a : es.toList.any (·.refKey) = false := by
      rw [List.any_eq_false]
      intro y hy
      obtain ⟨z, t, hkey⟩ := hk y (Array.mem_toList_iff.mp hy)
      simp [DictEntry.refKey, hkey]
    have a' : ¬ es.toList.any (·.refKey) = true := by rw [a]; exact Bool.false_ne_true
    rw [if_neg a']
    exact congrArg some e

theorem ObjM.look {h : Heap} {x dx C : Addr} {mA : Str → Option Value} (I : ObjM h x dx C mA) : ∃ od, PySem.W.InstAt h x (PySem.W.instObj C dx) C (some od) ∧ ∀ name, PySem.W.lookIn name od = some (mA name) :=
  let ⟨od, ho, hl⟩ := lookIn_ns I.ns
  ⟨od, ⟨I.obj, rfl, rfl, ho⟩, hl⟩

section
variable {prog : Program} {w : World} {A : Around} {E : Value → Shared → Prop} {s : Shared} {K : PySem.W.Frag} {x dx C f : Addr} {mA : Str → Option Value} {name : Str} {v : Value}

theorem get_map {expr : Bool} {Q : Value → Shared → Prop} (X : K.In s.heap) (I : ObjM s.heap x dx C mA) (hg : PySem.W.plainGet K C name = true) (hh : PySem.W.hasDictIn K C = true)
    (ha : PySem.W.findIn K (.ref C) name = some none) (hv : mA name = some v) (hv' : PySem.W.handedIn v = true) (h : Q v { s with toks := s.toks + 1 }) :
    wpAny (model prog w) A (getAttr (.ref x) name expr) Q E s := by
  obtain ⟨od, J, hl⟩ := I.look
  exact PySem.W.get_value X J (PySem.W.plainGet_of hg).1 (PySem.W.findObj_own hh ha rfl (by rw [hl, hv])) hv' h

theorem set_map {ns : List Str} {Q : Unit → Shared → Prop} (X : K.In s.heap) (I : ObjM s.heap x dx C mA)
    (hs : PySem.W.findIn K (.ref C) "__setattr__" = some (some (.builtin "object.__setattr__"))) (hp : PySem.W.plainOver K C = true) (ht : PySem.W.takerIn K C name = some none) (hh : PySem.W.hasDictIn K C = true)
    (hw : PySem.Within mA ns) (hsz : ns.length ≤ sizeLine)
    (h : ∀ h', ObjM h' x dx C (fun y => if y = name then some v else mA y) → Heap.SameBut dx s.heap h' → Q () { s with heap := h', toks := s.toks + 2 }) :
    wpAny (model prog w) A (setAttr (.ref x) name v) Q E s := by
  obtain ⟨od, J, hl⟩ := I.look
  refine PySem.W.set_plain X J hs (PySem.W.osa_open (s := { s with toks := s.toks + 1 }) (r := none) X J hp ht fun b => ?_)
  obtain ⟨cd, hc, hd'⟩ := PySem.W.any_some hh
  have hx : s.heap.get? x = some ⟨.ref C, some dx, .plain, #[]⟩ := I.obj
  refine wpAny_bind (wpAny_pure (wpAny_bind (wpAny_bind (wpAny_loadPart hx (wpAny_bind (PySem.W.Looks.here (s := { s with toks := s.toks + 1 }) (PySem.W.looks_clsIn X hc) ?_))))))
  rw [hd']
  refine wpAny_pure (a := some dx) (wpAny_bind (wpAny_pure (wpAny_bind ?_)))
  refine wpAny_nsSet1 (s := { s with toks := s.toks + 1 }) I.ns fun h' hn2 hs2 => ?_
  obtain ⟨oD, esD, epD, hoD, hdD, hcD⟩ := hn2.count (PySem.Within.cons name v hw)
  refine wpAny_bind (wpAny_lookBehind hoD (by rw [hdD]; exact pastItsLine_dict (Nat.le_trans hcD (by rw [List.length_cons]; omega))) ?_)
  exact wpAny_pure (h _ ⟨(hs2.2 _ (Ne.symm I.ne)).trans I.obj, hn2, I.ne⟩ hs2)

theorem make_map {R : Result → Shared → Prop} {vs : List Value} {kw : List (Str × Value)} (X : K.In s.heap) (hm : PySem.W.makesIn K C = true)
    (hi : PySem.W.findIn K (.ref C) "__init__" = some (some (.ref f))) (hf : PySem.W.typeIn K (.ref f) = some (.type "function"))
    (h : codeAny (model prog w) (A.under (.builtin "type.__call__" ⟨.ref C :: vs, kw⟩)) (.call (.ref f) ⟨.ref (s.heap.objs.size + 1) :: vs, kw⟩) (PySem.W.InitBack (s.heap.objs.size + 1) R)
      { s with heap := (s.heap.push PySem.W.emptyDict).push (PySem.W.instObj C s.heap.objs.size) }) :
    codeAny (model prog w) A (.call (.ref C) ⟨vs, kw⟩) R s := by
  obtain ⟨hh, g, d, t, os⟩ := s
  exact PySem.W.make_core (PySem.W.makes_of X hm) (PySem.W.looks_findIn X hi) (fun self => PySem.W.bind_fn X self hf) (.inl rfl) h
end

def putF (f : Str) (v : V) : List (Str × V) → List (Str × V)
  | [] => [(f, v)]
  | (g, x) :: r => if g = f then (g, v) :: r else (g, x) :: putF f v r
theorem lookup_putF (f g : Str) (v : V) : ∀ fs : List (Str × V), (putF f v fs).lookup g = if g = f then some v else fs.lookup g
  | [] => by
    show List.lookup g [(f, v)] = _
    by_cases h : g = f
    · have hb : (g == f) = true := beq_iff_eq.mpr h
      simp only [List.lookup, hb, if_pos h]
    · have hb : (g == f) = false := beq_eq_false_iff_ne.mpr h
      simp only [List.lookup, hb, if_neg h]
  | (k, x) :: r => by
    have ih := lookup_putF f g v r
    rw [show putF f v ((k, x) :: r) = (if k = f then (k, v) :: r else (k, x) :: putF f v r) from rfl]
    by_cases hk : k = f
    · rw [if_pos hk]
      by_cases h : g = k
      · have hb : (g == k) = true := beq_iff_eq.mpr h
        simp only [List.lookup, hb, if_pos (h.trans hk)]
      · have hb : (g == k) = false := beq_eq_false_iff_ne.mpr h
        simp only [List.lookup, hb, if_neg (fun e : g = f => h (e.trans hk.symm))]
    · rw [if_neg hk]
      by_cases h : g = k
      · have hb : (g == k) = true := beq_iff_eq.mpr h
        simp only [List.lookup, hb, if_neg (fun e : g = f => hk (h.symm.trans e))]
      · have hb : (g == k) = false := beq_eq_false_iff_ne.mpr h
        simp only [List.lookup, hb]
        exact ih
theorem keys_putF (f : Str) (v : V) : ∀ fs : List (Str × V), f ∈ (putF f v fs).map (·.1) ∧ ∀ g, g ∈ fs.map (·.1) → g ∈ (putF f v fs).map (·.1)
  | [] => ⟨by simp [putF], fun g h => by simp at h⟩
  | (k, x) :: r => by
    obtain ⟨i1, i2⟩ := keys_putF f v r
    rw [show putF f v ((k, x) :: r) = (if k = f then (k, v) :: r else (k, x) :: putF f v r) from rfl]
    by_cases hk : k = f
    · rw [if_pos hk]
      subst hk
      exact ⟨by simp, fun g h => by simpa using h⟩
    · rw [if_neg hk]
      refine ⟨?_, fun g h => ?_⟩
      · rw [List.map_cons]
        exact List.mem_cons_of_mem _ i1
      · rw [List.map_cons] at h ⊢
        rcases List.mem_cons.mp h with e | e
        · exact List.mem_cons.mpr (.inl e)
        · exact List.mem_cons_of_mem _ (i2 g e)
theorem length_putF (f : Str) (v : V) : ∀ fs : List (Str × V), (putF f v fs).length ≤ fs.length + 1
  | [] => by simp [putF]
  | (k, x) :: r => by
    have ih := length_putF f v r
    rw [show putF f v ((k, x) :: r) = (if k = f then (k, v) :: r else (k, x) :: putF f v r) from rfl]
    by_cases hk : k = f
    · rw [if_pos hk, List.length_cons, List.length_cons]; omega
    · rw [if_neg hk, List.length_cons, List.length_cons]; omega

theorem RelO.some_of {v : V} {o : Option Value} (r : RelO (some v) o) : ∃ u, o = some u ∧ RelV v u := by
  cases o with
  | none => exact (show False from r).elim
  | some u => exact ⟨u, rfl, r⟩
theorem handed_of {v : V} {u : Value} (r : RelV v u) : PySem.W.handedIn u = true := by
  cases v with
  | non => cases (show u = Value.none from r); rfl
  | bl b => cases (show u = Value.bool b from r); rfl
  | int i => obtain ⟨t, e⟩ := (show ∃ t, u = Value.int i t from r); cases e; rfl
  | str x => obtain ⟨t, e⟩ := (show ∃ t, u = Value.str x t from r); cases e; rfl
  | byt b => obtain ⟨t, e⟩ := (show ∃ t, u = Value.bytes b t from r); cases e; rfl
  | flt b => obtain ⟨t, e⟩ := (show ∃ t, u = Value.float b t from r); cases e; rfl
  | ref a => cases (show u = Value.ref a from r); rfl
  | ty n => cases (show u = Value.type n from r); rfl

section
variable {P : Program} {w : World} {H H' : Hp} {h h' : Heap} {a C dx : Addr} {fs fs' : List (Str × V)}
theorem ins_get (hok : HOk P w H h) (e : H a = some (.ins C dx fs)) : ∃ mA, ObjM h a dx C mA ∧ (∀ f, RelO (fs.lookup f) (mA f)) ∧ PySem.Within mA (fs.map (·.1)) ∧ fs.length ≤ 1000 ∧ H dx = some (.own a) := by
  obtain ⟨d, z, ne, ob, mA, n, r, q⟩ := (show ObjOk P w H h a (.ins C dx fs) from hok a _ e)
  exact ⟨mA, ⟨ob, n, ne⟩, r, q, z, d⟩
end

structure Cls (K : PySem.W.Frag) (C : Addr) : Prop where
  pg : PySem.W.plainGet K C Str.empty = true
  hd : PySem.W.hasDictIn K C = true
  po : PySem.W.plainOver K C = true
  sa : PySem.W.findIn K (.ref C) "__setattr__" = some (some (.builtin "object.__setattr__"))
theorem Cls.get {K : PySem.W.Frag} {C : Addr} (c : Cls K C) (f : Str) : PySem.W.plainGet K C f = true := c.pg
def NoAttr (K : PySem.W.Frag) (C : Addr) (f : Str) : Prop := PySem.W.findIn K (.ref C) f = some none
theorem NoAttr.taker {K : PySem.W.Frag} {C : Addr} {f : Str} (n : NoAttr K C f) : PySem.W.takerIn K C f = some none := by
  unfold PySem.W.takerIn
  rw [show PySem.W.findIn K (.ref C) f = some none from n]
  rfl
structure Con (K : PySem.W.Frag) (C : Addr) (f : Str) (v : V) (u : Value) : Prop where
  at_ : PySem.W.findIn K (.ref C) f = some (some u)
  rel : RelV v u
  get : PySem.W.specialIn K u "__get__" = some none
  cp : PySem.W.copiedNames.contains f = false
structure Meth (K : PySem.W.Frag) (C : Addr) (m : Str) (f : Addr) : Prop where
  at_ : PySem.W.findIn K (.ref C) m = some (some (.ref f))
  fn : PySem.W.isFn K (.ref f) = true
  kp : PySem.W.keepIn K (.ref f) = true

section
variable {X : Cx} {pins : List (Addr × Obj)} {σ : St} {H : Hp} {s : Shared} {a C dx : Addr} {fs : List (Str × V)} {f : Str} {v : V} {A : Around} {E : Value → Shared → Prop}

theorem getattr_ok {b : Bool} {Q : Value → Shared → Prop} (I : Inv X pins σ H s) (e : H a = some (.ins C dx fs)) (c : Cls X.K C) (n : NoAttr X.K C f) (l : fs.lookup f = some v)
    (h : ∀ u s', Inv X pins σ H s' → RelV v u → Q u s') : wpAny (model X.prog X.w) A (getAttr (.ref a) f b) Q E s := by
  obtain ⟨mA, O, r, _, _, _⟩ := ins_get I.hok e
  obtain ⟨u, hu, ru⟩ := RelO.some_of (v := v) (o := mA f) (by rw [← l]; exact r f)
  exact get_map I.kIn O (c.get f) c.hd n hu (handed_of ru) (h u _ (I.tok _) ru)

theorem setattr_ok {y : V} {u : Value} {Q : Unit → Shared → Prop} (I : Inv X pins σ H s) (e : H a = some (.ins C dx fs)) (c : Cls X.K C) (n : NoAttr X.K C f) (hl : fs.length < 1000) (ry : RelV y u)
    (h : ∀ s', Inv X pins σ (upd H a (.ins C dx (putF f y fs))) s' → Q () s') : wpAny (model X.prog X.w) A (setAttr (.ref a) f u) Q E s := by
  obtain ⟨mA, O, r, wi, _, ho⟩ := ins_get I.hok e
  have hz : (fs.map (·.1)).length ≤ sizeLine := by rw [List.length_map, sizeLine_eq]; omega
  refine set_map I.kIn O c.sa c.po n.taker c.hd wi hz fun h' O' sb => h _ ?_
  have hd : ∃ o, h'.get? dx = some o := let ⟨o, _, _, e', _⟩ := O'.ns; ⟨o, e'⟩
  refine I.write (x := a) (e := dx) (by rw [e]; exact True.intro) (.inr ho) (fun b q hb z => (sb.2 b hb).trans z) hd ?_
  refine ⟨by rw [upd_ne O.ne]; exact ho, ?_, O.ne, O'.obj, _, O'.ns, fun g => ?_, fun g hg => ?_⟩
  · have := length_putF f y fs; omega
  · show RelO ((putF f y fs).lookup g) (if g = f then some u else mA g)
    rw [lookup_putF]
    by_cases q : g = f
    · rw [if_pos q, if_pos q]; exact ry
    · rw [if_neg q, if_neg q]; exact r g
  · by_cases q : g = f
    · rw [q]; exact (keys_putF f y fs).1
    · refine (keys_putF f y fs).2 g (wi g fun z => hg ?_)
      show (if g = f then some u else mA g) = none
      rw [if_neg q]; exact z

theorem Inv.made (I : Inv X pins σ H s) : Inv X pins σ (upd (upd H s.heap.objs.size (.own (s.heap.objs.size + 1))) (s.heap.objs.size + 1) (.ins C s.heap.objs.size []))
    { s with heap := (s.heap.push PySem.W.emptyDict).push (PySem.W.instObj C s.heap.objs.size) } := by
  have e1 : (s.heap.push PySem.W.emptyDict).get? s.heap.objs.size = some PySem.W.emptyDict := Heap.get?_push_size s.heap rfl
  have e2 : ((s.heap.push PySem.W.emptyDict).push (PySem.W.instObj C s.heap.objs.size)).get? (s.heap.objs.size + 1) = some (PySem.W.instObj C s.heap.objs.size) := by
    have := Heap.get?_push_size (s.heap.push PySem.W.emptyDict) (o := PySem.W.instObj C s.heap.objs.size) rfl
    rwa [Heap.size_push] at this
  have e3 : (s.heap.push PySem.W.emptyDict).Ns s.heap.objs.size (fun _ => none) := ⟨PySem.W.emptyDict, #[], _, e1, rfl, (fun e he => absurd he (by simp)), fun _ => rfl⟩
  have I1 := I.laid (a := s.heap.objs.size) (o := .own (s.heap.objs.size + 1)) (h' := s.heap.push PySem.W.emptyDict) (t' := s.toks) (fun b u q => Heap.get?_push_of_some _ q) (Nat.le_refl _) ⟨_, e1⟩
  refine I1.laid (a := s.heap.objs.size + 1) (o := .ins C s.heap.objs.size []) (t' := s.toks) (fun b u q => Heap.get?_push_of_some _ q) (Nat.le_of_eq (Heap.size_push _ _)) ?_
  have ne : s.heap.objs.size ≠ s.heap.objs.size + 1 := Nat.ne_of_lt (Nat.lt_succ_self _)
  refine ⟨by rw [upd_ne ne, upd_same], Nat.zero_le _, ne, e2, fun _ => none, (Heap.Ns1.of_empty e3).at fun o q => Heap.get?_push_of_some _ q, fun _ => True.intro, fun y hy => absurd rfl hy⟩

theorem attr_of {prog : Program} {w : World} {env : Env} {e : Expr} {f : Str} {pos : Pos} {s : Shared} {Q : Value → Shared → Prop} (hb : attributeBase e f env (eval e env) = eval e env)
    (h : wpAny (model prog w) A (eval e env) (fun o s₁ => wpAny (model prog w) A (getAttr o f true) Q E s₁) E s) : wpAny (model prog w) A (eval (.Attribute e f pos) env) Q E s :=
  Attribute_any_ h (by rw [arm_eval_Attribute, hb])
end

def tFld (K : PySem.W.Frag) (ta : TE) (f : Str) : TE := fun σ H Q => ta σ H fun x H1 => ∃ a C dx fs v, x = .ref a ∧ H1 a = some (.ins C dx fs) ∧ Cls K C ∧ NoAttr K C f ∧ fs.lookup f = some v ∧ Q v H1
def sFld (K : PySem.W.Frag) (ta tv : TE) (f : Str) : TS := fun D σ H => tv σ H fun y H1 => ta σ H1 fun x H2 => ∃ a C dx fs, x = .ref a ∧ H2 a = some (.ins C dx fs) ∧ Cls K C ∧ NoAttr K C f ∧ fs.length < 1000 ∧
  D.nx σ (upd H2 a (.ins C dx (putF f y fs)))
section
variable {X : Cx} {o e value : Expr} {f : Str} {pos pos' tpos : Pos} {ta tv : TE}
theorem pe_fld (he : PE X e ta) (hb : attributeBase e f X.env (eval e X.env) = eval e X.env) : PE X (.Attribute e f pos) (tFld X.K ta f) := by
  intro pins s σ H Q I h
  refine attr_of hb (thn (he pins s σ H _ I h) fun u s1 ⟨x, H1, I1, rx, a, C, dx, fs, v, ex, ea, c, n, l, q⟩ => ?_)
  subst ex
  obtain rfl : u = Value.ref a := rx
  exact getattr_ok I1 ea c n l fun u' s2 I2 ru => ⟨v, H1, I2, ru, q⟩
theorem ps_fld (ha : PE X o ta) (hv : PE X value tv) (hs : swapsWith value (some (.Attribute o f pos')) pos.line X.env = pure false) : PS X (.Assign [.Attribute o f pos'] value pos) (sFld X.K ta tv f) := by
  intro pins s σ H D I h
  refine plainObj_wpAny_Assign_Attribute (thn (hv pins s σ H _ I h) fun u s1 ⟨y, H1, I1, ry, q⟩ => thn (ha pins s1 σ H1 _ I1 q) fun ov s2 ⟨x, H2, I2, rx, a, C, dx, fs, ex, ea, c, n, l, q2⟩ => ?_) hs
  subst ex
  obtain rfl : ov = Value.ref a := rx
  exact setattr_ok I2 ea c n l ry fun s3 I3 => ⟨σ, _, I3, q2⟩
end

section
variable {X : Cx} {pins : List (Addr × Obj)} {σ : St} {H : Hp} {s : Shared} {A : Around} {E : Value → Shared → Prop} {Q : Value → Shared → Prop} {c : Value} {b : Bool}
inductive TyOf (K : PySem.W.Frag) (H : Hp) : V → Value → Prop where
  | non : TyOf K H .non (.type "NoneType")
  | bl (x : Bool) : TyOf K H (.bl x) (.type "bool")
  | int (i : Int) : TyOf K H (.int i) (.type "int")
  | str (x : Str) : TyOf K H (.str x) (.type "str")
  | flt (x : UInt64) : TyOf K H (.flt x) (.type "float")
  | lst {a : Addr} {xs : List V} (e : H a = some (.lst xs)) : TyOf K H (.ref a) (.type "list")
  | frz {a : Addr} {o : Obj} {xs : List V} (e : H a = some (.frz o (.lst xs))) : TyOf K H (.ref a) (.type "list")
  | tup {a : Addr} {xs : List V} (e : H a = some (.tup xs)) : TyOf K H (.ref a) (.type "tuple")
  | dK {a : Addr} {kvs : List (Key × V)} (e : H a = some (.dK kvs)) : TyOf K H (.ref a) (.type "dict")
  | dT {a : Addr} {kvs : List (List Key × V)} (e : H a = some (.dT kvs)) : TyOf K H (.ref a) (.type "dict")
  | ins {a C dx : Addr} {fs : List (Str × V)} (e : H a = some (.ins C dx fs)) (cl : Cls K C) (ha : PySem.W.findIn K (.ref C) "__class__" = some (some (.builtin "object.__class__")))
      (hn : PySem.W.specialIn K (.builtin "object.__class__") "__get__" = some (some (.builtin "getset_descriptor.__get__"))) (htk : PySem.W.takesIn K (.builtin "object.__class__") = some true)
      (hm : PySem.W.mroIn K C (.type "object") = some true) : TyOf K H (.ref a) (.ref C)
theorem isinst_ok {x : V} {u t : Value} (I : Inv X pins σ H s) (rx : RelV x u) (ty : TyOf X.K H x t) (e : PySem.W.kitOne X.K t c = some b) (h : ∀ tk, Q (.bool b) { s with toks := tk }) :
    wpAny (model X.prog X.w) A (call (.builtin "isinstance") [u, c]) Q E s := by
  cases ty with
  | non => cases (show u = Value.none from rx); exact PySem.W.kia_one PySem.W.kitx_none I.kIn True.intro e (fun z => nomatch z) h
  | bl y => cases (show u = Value.bool y from rx); exact PySem.W.kia_one PySem.W.kitx_bool I.kIn True.intro e (fun z => nomatch z) h
  | int i => obtain ⟨t, q⟩ := (show ∃ t, u = Value.int i t from rx); cases q; exact PySem.W.kia_one PySem.W.kitx_int I.kIn True.intro e (fun z => nomatch z) h
  | str y => obtain ⟨t, q⟩ := (show ∃ t, u = Value.str y t from rx); cases q; exact PySem.W.kia_one PySem.W.kitx_str I.kIn True.intro e (fun z => nomatch z) h
  | flt y => obtain ⟨t, q⟩ := (show ∃ t, u = Value.float y t from rx); cases q; exact PySem.W.kia_one PySem.W.kitx_float I.kIn True.intro e (fun z => nomatch z) h
  | @lst a xs ea =>
    cases (show u = Value.ref a from rx)
    obtain ⟨_, _, n, _, h1⟩ := (show ObjOk X.prog X.w H s.heap a (.lst xs) from I.hok a _ ea)
    exact PySem.W.kia_one PySem.W.kitx_list I.kIn ⟨_, h1, rfl⟩ e (fun z => nomatch z) h
  | @frz a ob xs ea =>
    cases (show u = Value.ref a from rx)
    obtain ⟨_, _, _, n, _, h1⟩ := (show ObjOk X.prog X.w H s.heap a (.frz ob (.lst xs)) from I.hok a _ ea)
    exact PySem.W.kia_one PySem.W.kitx_list I.kIn ⟨_, h1, rfl⟩ e (fun z => nomatch z) h
  | @tup a xs ea =>
    cases (show u = Value.ref a from rx)
    obtain ⟨_, _, _, p⟩ := (show ObjOk X.prog X.w H s.heap a (.tup xs) from I.hok a _ ea)
    obtain ⟨o, h1, h2, _⟩ := p
    exact PySem.W.kia_one PySem.W.kitx_tuple I.kIn ⟨o, h1, h2⟩ e (fun z => nomatch z) h
  | @dK a kvs ea =>
    cases (show u = Value.ref a from rx)
    obtain ⟨_, _, vs, _, p⟩ := (show ObjOk X.prog X.w H s.heap a (.dK kvs) from I.hok a _ ea)
    obtain ⟨o, es, ep, h1, h2, _⟩ := p
    exact PySem.W.kia_one PySem.W.kitx_dict I.kIn ⟨o, h1, h2.1⟩ e (fun z => nomatch z) h
  | @dT a kvs ea =>
    cases (show u = Value.ref a from rx)
    obtain ⟨_, _, xs, _, o, es, ep, h1, h2, _⟩ := (show ObjOk X.prog X.w H s.heap a (.dT kvs) from I.hok a _ ea)
    exact PySem.W.kia_one PySem.W.kitx_dict I.kIn ⟨o, h1, h2.1⟩ e (fun z => nomatch z) h
  | @ins a C dx fs ea cl ha hn htk hm =>
    cases (show u = Value.ref a from rx)
    obtain ⟨mA, O, _⟩ := ins_get I.hok ea
    obtain ⟨od, J, _⟩ := O.look
    exact PySem.W.kia_one (PySem.W.kitx_own (cl.get _) cl.hd ha hn htk hm) I.kIn J e (fun z => nomatch z) h
end
end L2

namespace L2
open PySem PySem.Spec PyProof.Rows

structure Room (k : Nat) (A : Around) : Prop where
  hd : A.handled = none
  dp : A.depth + 3 * k + 5 < recursionLimit
  un : A.units + 16 * k + 200 < cLine
theorem Room.mono {j k : Nat} {A : Around} (r : Room k A) (h : j ≤ k) : Room j A := ⟨r.hd, by have := r.dp; omega, by have := r.un; omega⟩
theorem Room.deeper {k : Nat} {A : Around} (r : Room (k + 1) A) (env : Env) : Room k (A.deeper env) :=
  ⟨r.hd, by have := r.dp; show A.depth + 1 + 3 * k + 5 < _; omega, by have := r.un; show A.units + 3 + 16 * k + 200 < _; omega⟩
theorem Room.in1 {k : Nat} {A : Around} (r : Room (k + 1) A) : Room k A.in1 :=
  ⟨r.hd, by have := r.dp; show A.depth + 3 * k + 5 < _; omega, by have := r.un; show A.units + 1 + 16 * k + 200 < _; omega⟩
theorem make_depth {A : Around} {C : Addr} {us : List Value} {kw : List (Str × Value)} : (A.under (.builtin "type.__call__" ⟨.ref C :: us, kw⟩)).depth = A.depth + 1 := by
  first | rfl | simp [Around.under, Code.weight, Code.isCreation, Code.isGuard, Code.isCaller, Code.frames, Code.isFrame, guardIds]
theorem make_units {A : Around} {C : Addr} {us : List Value} {kw : List (Str × Value)} : (A.under (.builtin "type.__call__" ⟨.ref C :: us, kw⟩)).units = A.units + 1 := by
  first | rfl | simp [Around.under, Code.cUnits, Code.frames, Code.isFrame]
theorem Room.make {k : Nat} {A : Around} (r : Room (k + 1) A) (C : Addr) (us : List Value) (kw : List (Str × Value)) : Room k (A.under (.builtin "type.__call__" ⟨.ref C :: us, kw⟩)) :=
  ⟨r.hd, by have := r.dp; rw [make_depth]; omega, by have := r.un; rw [make_units]; omega⟩
theorem Room.depth {k : Nat} {A : Around} (r : Room k A) : A.depth < recursionLimit := by have := r.dp; omega
theorem Room.units {k : Nat} {A : Around} (r : Room k A) : A.units + 64 < cLine := by have := r.un; omega
def tNil : TA := fun _ H Q => Q [] H
def tCons (ta : TE) (tr : TA) : TA := fun σ H Q => ta σ H fun x H1 => tr σ H1 fun xs H2 => Q (x :: xs) H2
section
variable {X : Cx} {e : Expr} {es : List Expr} {te : TE} {t : TA} {pos : Pos}
theorem pa_nil : PA X [] tNil := fun _ _ _ _ H Q I h => Calls.spliced_nil ⟨[], H, I, .nil, h⟩
theorem pa_cons (ha : PE X e te) (hr : PA X es t) (hs : starEach (e :: es) X.env = (false, eval e X.env) :: starEach es X.env := by rfl) : PA X (e :: es) (tCons te t) := by
  intro pos pins s σ H Q I h
  rw [hs]
  show wpAny _ _ (spliced ((false, eval e X.env) :: backTo pos (starEach es X.env))) _ _ s
  refine Calls.spliced_cons (thn (ha pins s σ H _ I h) fun u s1 ⟨x, H1, I1, r1, q1⟩ => ?_)
  exact thn (hr pos pins s1 σ H1 _ I1 q1) fun us s2 ⟨xs, H2, I2, r2, q2⟩ => ⟨x :: xs, H2, I2, .cons r1 r2, q2⟩

def tTup (t : TA) : TE := fun σ H Q => t σ H fun xs H1 => xs.length ≤ sizeLine ∧ ∀ p, H1 p = none → Q (.ref p) (upd H1 p (.tup xs))
def tLst (t : TA) : TE := fun σ H Q => t σ H fun xs H1 => xs.length ≤ sizeLine ∧ ∀ p, H1 p = none → Q (.ref p) (upd H1 p (.lst xs))
theorem pe_tup {x1} (h : PA X es t) : PE X (.Tuple es x1 pos) (tTup t) := by
  intro pins s σ H Q I hq
  refine wpAny_Tuple_spliced (thn (h pos pins s σ H _ I hq) fun us s1 ⟨xs, H1, I1, r, z, q⟩ => ⟨by rw [← r.length]; exact z, ?_⟩)
  have hf : H1 s1.heap.objs.size = none := I1.hok.fresh (Nat.le_refl _)
  refine ⟨.ref s1.heap.objs.size, upd H1 s1.heap.objs.size (.tup xs), I1.laid (t' := s1.toks) (fun b u e => Heap.get?_push_of_some _ e) (Nat.le_refl _) ?_, rfl, q _ hf⟩
  exact ⟨z, us, r, ⟨_, Heap.get?_push_size _ rfl, rfl, _, rfl⟩⟩
theorem pe_lst (h : PA X es t) : PE X (.List es pos) (tLst t) := by
  intro pins s σ H Q I hq
  refine wpAny_List_spliced (thn (h pos pins s σ H _ I hq) fun us s1 ⟨xs, H1, I1, r, z, q⟩ => ⟨by rw [← r.length]; exact z, ?_⟩)
  have hf : H1 s1.heap.objs.size = none := I1.hok.fresh (Nat.le_refl _)
  refine ⟨.ref s1.heap.objs.size, upd H1 s1.heap.objs.size (.lst xs), I1.laid (t' := s1.toks) (fun b u e => Heap.get?_push_of_some _ e) (Nat.le_refl _) ?_, rfl, q _ hf⟩
  exact ⟨z, us, 0, r, Heap.get?_push_size _ rfl⟩
end

abbrev Sp := List V → Hp → VK → XK → Prop
abbrev CXT := List Env → Hp → Shared → XK → Value → Shared → Prop

structure Env0 (P : Program) (w : World) (K : PySem.W.Frag) (mg : Str → Option Value) (base : Heap) (A : Around) (outer : List Env) (s : Shared) (H : Hp) : Prop where
  frames : A.frames = some outer
  mod : Mod K mg base
  bs : ∀ b o, base.get? b = some o → s.heap.get? b = some o ∧ H b = none
  bsz : base.objs.size ≤ s.heap.objs.size
  funs : s.heap.FunFrames base outer
  frf : ∀ b ∈ frs outer, H b = none
  hok : HOk P w H s.heap
  bare : AllBare s.gens
def CE (outer : List Env) (P : Program) (w : World) (H : Hp) (s : Shared) (Q : VK) (u : Value) (s' : Shared) : Prop :=
  ∃ v H', s'.os = s.os ∧ AllBare s'.gens ∧ Un (frs outer) [] H H' s.heap s'.heap ∧ HOk P w H' s'.heap ∧ RelV v u ∧ Q v H'
def CR (CX : CXT) (outer : List Env) (P : Program) (w : World) (H : Hp) (s : Shared) (Q : VK) (E : XK) (r : Result) (s' : Shared) : Prop :=
  match r with
  | .ok (.ret u) => CE outer P w H s Q u s'
  | .ok _ => False
  | .error e => CX outer H s E e s'
structure FnOk (P : Program) (w : World) (K : PySem.W.Frag) (mg : Str → Option Value) (base : Heap) (CX : CXT) (k : Nat) (f : Addr) (fd : FuncData) (ps : List Str) (sp : Sp) : Prop where
  len : ∀ vs H Q E, sp vs H Q E → vs.length = ps.length
  run : ∀ (A : Around) (outer : List Env) (s : Shared) (H : Hp) (args : Args) (us : List Value) (vs : List V) (Q : VK) (E : XK), Room k A → Env0 P w K mg base A outer s H → BindsTo s fd args (ps.zip us) → Vals vs us → sp vs H Q E →
    codeAny (model P w) A (.call (.ref f) args) (CR CX outer P w H s Q E) s
theorem FnOk.mono {P : Program} {w : World} {K : PySem.W.Frag} {mg : Str → Option Value} {base : Heap} {CX : CXT} {j k : Nat} {f : Addr} {fd : FuncData} {ps : List Str} {sp : Sp} (F : FnOk P w K mg base CX j f fd ps sp) (h : j ≤ k) :
    FnOk P w K mg base CX k f fd ps sp := ⟨F.len, fun A outer s H args us vs Q E hr => F.run A outer s H args us vs Q E (hr.mono h)⟩
theorem FnOk.imp {P : Program} {w : World} {K : PySem.W.Frag} {mg : Str → Option Value} {base : Heap} {CX : CXT} {k : Nat} {f : Addr} {fd : FuncData} {ps : List Str} {sp sp' : Sp} (F : FnOk P w K mg base CX k f fd ps sp)
    (h : ∀ vs H Q E, sp' vs H Q E → sp vs H Q E) : FnOk P w K mg base CX k f fd ps sp' :=
  ⟨fun vs H Q E q => F.len vs H Q E (h _ _ _ _ q), fun A outer s H args us vs Q E hr he hb hv hs => F.run A outer s H args us vs Q E hr he hb hv (h _ _ _ _ hs)⟩

theorem Env0.make {P : Program} {w : World} {K : PySem.W.Frag} {mg : Str → Option Value} {base : Heap} {A : Around} {outer : List Env} {s : Shared} {H : Hp} (e : Env0 P w K mg base A outer s H) (C : Addr) (us : List Value) (kw : List (Str × Value)) :
    Env0 P w K mg base (A.under (.builtin "type.__call__" ⟨.ref C :: us, kw⟩)) outer s H := ⟨by first | exact e.frames | (simpa [Around.under, Code.envs, Code.isFrame, pushEnvs] using e.frames), e.mod, e.bs, e.bsz, e.funs, e.frf, e.hok, e.bare⟩
theorem Env0.in1 {P : Program} {w : World} {K : PySem.W.Frag} {mg : Str → Option Value} {base : Heap} {A : Around} {outer : List Env} {s : Shared} {H : Hp} (e : Env0 P w K mg base A outer s H) :
    Env0 P w K mg base A.in1 outer s H := ⟨e.frames, e.mod, e.bs, e.bsz, e.funs, e.frf, e.hok, e.bare⟩

section
variable {X : Cx} {pins : List (Addr × Obj)} {σ : St} {H : Hp} {s s' : Shared}
theorem Inv.env0 (I : Inv X pins σ H s) : Env0 X.prog X.w X.K X.mg X.base X.A X.stack s H :=
  ⟨I.ok.frames, I.ok.mod, I.bs, Nat.le_trans I.ok.bsz I.sz, I.stack, I.stkFree, I.hok, I.bare⟩
theorem Inv.after {Q : VK} {u : Value} (I : Inv X pins σ H s) (h : CE X.stack X.prog X.w H s Q u s') : EP X pins σ Q u s' := by
  obtain ⟨v, H', os, bare, un, hok, r, q⟩ := h
  obtain ⟨hh, g, d, t, os'⟩ := s'
  obtain rfl : os' = s.os := os
  exact ⟨v, H', I.call (h' := hh) (g' := g) (d' := d) (t' := t) (ch := []) un hok bare (fun b z => absurd z (by simp)), r, q⟩
end

def tCall (sp : Sp) (dvs : List V) (E : XK) (t : TA) : TE := fun σ H Q => t σ H fun vs H1 => sp (vs ++ dvs) H1 Q E
def tMake (C : Addr) (sp : Sp) (dvs : List V) (E : XK) (t : TA) : TE := fun σ H Q => t σ H fun vs H1 => ∀ x dx, H1 x = none → H1 dx = none → dx ≠ x →
  sp (.ref x :: (vs ++ dvs)) (upd (upd H1 dx (.own x)) x (.ins C dx [])) (fun v H2 => v = .non ∧ Q (.ref x) H2) E

def Binds (K : PySem.W.Frag) (fd : FuncData) (ps : List Str) (ds : List Value) : Prop :=
  ∀ (s : Shared) (us : List Value), K.In s.heap → (us ++ ds).length = ps.length → BindsTo s fd ⟨us, []⟩ (ps.zip (us ++ ds))
theorem Binds.all {K : PySem.W.Frag} {fd : FuncData} {ps : List Str} (h : ∀ us : List Value, us.length = ps.length → bindArgs fd ⟨us, []⟩ = pure (ps.zip us)) : Binds K fd ps [] := fun s us _ hl => by
  rw [List.append_nil] at hl ⊢
  exact .of_eq (h us hl)

def Passes (CX : CXT) (X : Cx) (E : XK) : Prop := ∀ (pins : List (Addr × Obj)) (σ : St) (H : Hp) (s : Shared) (e : Value) (s' : Shared), Inv X pins σ H s → CX X.stack H s E e s' → X.xe e s'

section
variable {X : Cx} {CX : CXT} {k : Nat} {f C : Addr} {fd : FuncData} {ps : List Str} {sp : Sp} {dvs : List V} {ds : List Value} {E : XK} {x m : Str} {p pos apos : Pos} {e o : Expr} {es : List Expr} {ta : TE} {t : TA}

theorem run_fn {pins : List (Addr × Obj)} {σ : St} {H : Hp} {s : Shared} {Q : VK} {us : List Value} {vs : List V} (F : FnOk X.prog X.w X.K X.mg X.base CX k f fd ps sp) (hr : Room k X.A) (hb : Binds X.K fd ps ds) (hd : Vals dvs ds) (hx : Passes CX X E)
    (I : Inv X pins σ H s) (r : Vals vs us) (h : sp (vs ++ dvs) H Q E) : wpAny (model X.prog X.w) X.A (call (.ref f) us) (EP X pins σ Q) X.xe s := by
  have r2 : Vals (vs ++ dvs) (us ++ ds) := r.append hd
  have hl : (us ++ ds).length = ps.length := by rw [← r2.length]; exact F.len _ _ _ _ h
  refine wpAny_call (codeAny_mono (F.run X.A X.stack s H ⟨us, []⟩ (us ++ ds) (vs ++ dvs) Q E hr I.env0 (hb s us I.kIn hl) r2 h) fun r s' hq => ?_)
  cases r with
  | error e => exact hx pins σ H s e s' I hq
  | ok fl =>
    cases fl with
    | ret u => exact I.after hq
    | next => exact False.elim hq
    | brk => exact False.elim hq
    | cont => exact False.elim hq

theorem pe_call (F : FnOk X.prog X.w X.K X.mg X.base CX k f fd ps sp) (hr : Room k X.A) (hg : Gl X x) (hm : X.mg x = some (.ref f)) (hk : PySem.W.keepIn X.K (.ref f) = true) (hb : Binds X.K fd ps ds) (hd : Vals dvs ds) (hx : Passes CX X E)
    (ha : PA X (e :: es) t) (hdb : (x == ("__debug__" : Str)) = false := by decide) (he : starEach (e :: es) X.env = (false, eval e X.env) :: starEach es X.env := by rfl) (hpl : (backTo pos (starEach es X.env)).any (·.1) = false := by rfl) :
    PE X (.Call (.Name x p) (e :: es) [] pos) (tCall sp dvs E t) := by
  intro pins s σ H Q I h
  refine wpAny_Call_Name_kw (ld_glob I hg hm ?_ hdb)
  refine PySem.W.callWith_K (h₀ := X.base) I.ok.mod.kin hk (thn (ha pos pins s σ H _ I h) fun us s1 ⟨vs, H1, I1, r, q⟩ => ⟨I1.kIn, ?_⟩) he hpl
  exact run_fn F hr hb hd hx I1 r q
structure Mk (K : PySem.W.Frag) (C f : Addr) : Prop where
  makes : PySem.W.makesIn K C = true
  init : PySem.W.findIn K (.ref C) "__init__" = some (some (.ref f))
  fn : PySem.W.isFn K (.ref f) = true
  kp : PySem.W.keepIn K (.ref C) = true

theorem run_make {pins : List (Addr × Obj)} {σ : St} {H : Hp} {s : Shared} {Q : VK} {us : List Value} {vs : List V} (M : Mk X.K C f) (F : FnOk X.prog X.w X.K X.mg X.base CX k f fd ps sp) (hr : Room (k + 1) X.A) (hb : Binds X.K fd ps ds) (hd : Vals dvs ds)
    (hx : Passes CX X E) (I : Inv X pins σ H s) (r : Vals vs us)
    (h : ∀ x dx, H x = none → H dx = none → dx ≠ x → sp (.ref x :: (vs ++ dvs)) (upd (upd H dx (.own x)) x (.ins C dx [])) (fun v H2 => v = .non ∧ Q (.ref x) H2) E) :
    wpAny (model X.prog X.w) X.A (call (.ref C) us) (EP X pins σ Q) X.xe s := by
  have hq := h (s.heap.objs.size + 1) s.heap.objs.size (I.hok.fresh (Nat.le_succ _)) (I.hok.fresh (Nat.le_refl _)) (Nat.ne_of_lt (Nat.lt_succ_self _))
  have I2 := Inv.made (C := C) I
  have r2 : Vals (V.ref (s.heap.objs.size + 1) :: (vs ++ dvs)) (Value.ref (s.heap.objs.size + 1) :: (us ++ ds)) := .cons rfl (r.append hd)
  have hl : (Value.ref (s.heap.objs.size + 1) :: us ++ ds).length = ps.length := by
    have e := r2.length
    rw [F.len _ _ _ _ hq] at e
    exact e.symm
  refine wpAny_call (make_map (f := f) I.kIn M.makes M.init (beq_iff_eq.mp M.fn) (codeAny_mono (F.run _ X.stack _ _ ⟨Value.ref (s.heap.objs.size + 1) :: us, []⟩ (Value.ref (s.heap.objs.size + 1) :: (us ++ ds)) _ _ E (hr.make C us [])
    (I2.env0.make C us []) (hb _ (Value.ref (s.heap.objs.size + 1) :: us) I2.kIn hl) r2 hq) fun r s' hq' => ?_))
  cases r with
  | error e => exact hx pins σ _ _ e s' I2 hq'
  | ok fl =>
    cases fl with
    | ret u =>
      obtain ⟨v, H', I3, rv, ev, q3⟩ := I2.after hq'
      subst ev
      exact ⟨rv, ⟨V.ref (s.heap.objs.size + 1), H', I3, rfl, q3⟩⟩
    | next => exact False.elim hq'
    | brk => exact False.elim hq'
    | cont => exact False.elim hq'
theorem pe_make (M : Mk X.K C f) (F : FnOk X.prog X.w X.K X.mg X.base CX k f fd ps sp) (hr : Room (k + 1) X.A) (hg : Gl X x) (hm : X.mg x = some (.ref C)) (hb : Binds X.K fd ps ds) (hd : Vals dvs ds) (hx : Passes CX X E)
    (ha : PA X (e :: es) t) (hdb : (x == ("__debug__" : Str)) = false := by decide) (he : starEach (e :: es) X.env = (false, eval e X.env) :: starEach es X.env := by rfl) (hpl : (backTo pos (starEach es X.env)).any (·.1) = false := by rfl) :
    PE X (.Call (.Name x p) (e :: es) [] pos) (tMake C sp dvs E t) := by
  intro pins s σ H Q I h
  refine wpAny_Call_Name_kw (ld_glob I hg hm ?_ hdb)
  refine PySem.W.callWith_K (h₀ := X.base) I.ok.mod.kin M.kp (thn (ha pos pins s σ H _ I h) fun us s1 ⟨vs, H1, I1, r, q⟩ => ⟨I1.kIn, ?_⟩) he hpl
  exact run_make M F hr hb hd hx I1 r q
end

section
variable {X : Cx} {CX : CXT} {k : Nat} {f C : Addr} {fd : FuncData} {ps ks : List Str} {sp : Sp} {E : XK} {x m : Str} {p pos apos kpos : Pos} {e o : Expr} {es : List Expr} {kws : List Keyword} {te ta : TE} {t tk : TA} {nm : Option Str}
structure KBinds (K : PySem.W.Frag) (fd : FuncData) (ps ks : List Str) (g : List Value → List Value → List Value) (gV : List V → List V → List V) : Prop where
  to : ∀ (s : Shared) (us ws : List Value), K.In s.heap → (g us ws).length = ps.length → BindsTo s fd ⟨us, ks.zip ws⟩ (ps.zip (g us ws))
  rel : ∀ {vs : List V} {us : List Value} {zs : List V} {ws : List Value}, Vals vs us → Vals zs ws → Vals (gV vs zs) (g us ws)
variable {g : List Value → List Value → List Value} {gV : List V → List V → List V}
end

structure FnScope (N P : List Str) (sc : Scope) : Prop where
  kind : sc.kind = .function
  co : sc.isCoroutine = false
  gen : sc.isGenerator = false
  nd : N.Nodup
  pre : N.take P.length = P
  par : ∀ x ∈ P, sc.names.lookup x = some .local ∨ sc.names.lookup x = some .cell
  nofree : ∀ y ∈ sc.names, y.2 ≠ .free

theorem bindL_out {kindOf : Str → Option NameKind} {x : Str} : ∀ {binds : List (Str × Value)} {m : Str → Option Value}, (∀ v, (x, v) ∉ binds) → bindL kindOf binds m x = m x
  | [], _, _ => rfl
  | (n, v) :: r, m, h => by
    unfold bindL
    rw [bindL_out fun w hw => h w (List.mem_cons_of_mem _ hw)]
    split
    · have : x ≠ n := by rintro rfl; exact h v List.mem_cons_self
      simp [this]
    · rfl
theorem bindC_out {kindOf : Str → Option NameKind} {x : Str} : ∀ {binds : List (Str × Value)} {m : Str → Option Value}, (∀ v, (x, v) ∉ binds) → bindC kindOf binds m x = m x
  | [], _, _ => rfl
  | (n, v) :: r, m, h => by
    unfold bindC
    rw [bindC_out fun w hw => h w (List.mem_cons_of_mem _ hw)]
    split
    · rfl
    · have : x ≠ n := by rintro rfl; exact h v List.mem_cons_self
      simp [this]
theorem bindL_get {kindOf : Str → Option NameKind} {x : Str} {v : Value} : ∀ {P : List Str} {vs : List Value} {i : Nat} {m : Str → Option Value}, P.Nodup → P[i]? = some x → vs[i]? = some v → kindOf x = some .local →
    bindL kindOf (P.zip vs) m x = some v
  | [], _, _, _, _, h, _, _ => by simp at h
  | _ :: _, [], _, _, _, _, h, _ => by simp at h
  | p :: P, w :: vs, 0, m, nd, h1, h2, hk => by
    simp at h1 h2; subst h1; subst h2
    show bindL kindOf ((p, w) :: P.zip vs) m p = _
    unfold bindL
    rw [bindL_out fun v hv => (List.nodup_cons.mp nd).1 (List.of_mem_zip hv).1, if_pos hk]
    simp
  | p :: P, w :: vs, i + 1, m, nd, h1, h2, hk => by
    show bindL kindOf ((p, w) :: P.zip vs) m x = _
    unfold bindL
    exact bindL_get (i := i) (List.nodup_cons.mp nd).2 (by simpa using h1) (by simpa using h2) hk
theorem bindC_get {kindOf : Str → Option NameKind} {x : Str} {v : Value} : ∀ {P : List Str} {vs : List Value} {i : Nat} {m : Str → Option Value}, P.Nodup → P[i]? = some x → vs[i]? = some v → kindOf x ≠ some .local →
    bindC kindOf (P.zip vs) m x = some v
  | [], _, _, _, _, h, _, _ => by simp at h
  | _ :: _, [], _, _, _, _, h, _ => by simp at h
  | p :: P, w :: vs, 0, m, nd, h1, h2, hk => by
    simp at h1 h2; subst h1; subst h2
    show bindC kindOf ((p, w) :: P.zip vs) m p = _
    unfold bindC
    rw [bindC_out fun v hv => (List.nodup_cons.mp nd).1 (List.of_mem_zip hv).1, if_neg hk]
    simp
  | p :: P, w :: vs, i + 1, m, nd, h1, h2, hk => by
    show bindC kindOf ((p, w) :: P.zip vs) m x = _
    unfold bindC
    exact bindC_get (i := i) (List.nodup_cons.mp nd).2 (by simpa using h1) (by simpa using h2) hk

def start (N : List Str) (vs : List V) : St := vs.map some ++ List.replicate (N.length - vs.length) none

def cxOf (CX : CXT) (P : Program) (w : World) (K : PySem.W.Frag) (mg : Str → Option Value) (base : Heap) (N : List Str) (qual : Str) (scope : Scope) (f : Addr) (cd : Value) (A : Around) (outer : List Env) (s : Shared) (H : Hp) (E : XK) : Cx where
  prog := P
  w := w
  K := K
  mg := mg
  base := base
  A := A.deeper (envOfC qual scope s.heap.objs.size f cd)
  N := N
  s₀ := s
  H₀ := H
  env := envOfC qual scope s.heap.objs.size f cd
  outer := outer
  stack := envOfC qual scope s.heap.objs.size f cd :: outer
  ex := []
  calm := true
  fn := fun _ => true
  pn := []
  xe := fun e s' => wpAny (model P w) (A.deeper (envOfC qual scope s.heap.objs.size f cd)) (leaving (envOfC qual scope s.heap.objs.size f cd) e) (fun _ s'' => CX outer H s E e s'') (fun e' s'' => CX outer H s E e' s'') s'

theorem cell_has {sc : Scope} {n : Nat} {x : Str} (h : sc.names.lookup x = some .cell) : ∃ c, (cellsFrom n sc.names []).lookup x = some c := by
  have q := PySem.W.cellsFrom_some sc.names n [] (.inl h)
  exact Option.isSome_iff_exists.mp q

theorem inv_start {CX : CXT} {P : Program} {w : World} {K : PySem.W.Frag} {mg : Str → Option Value} {base : Heap} {N ps : List Str} {qual : Str} {scope : Scope} {f : Addr} {cd : Value} {A : Around} {outer : List Env} {s s1 : Shared} {H : Hp} {E : XK} {us : List Value} {vs : List V}
    (S : FnScope N ps scope) (hd : A.handled = none) (e0 : Env0 P w K mg base A outer s H) (hl : vs.length = ps.length) (r : Vals vs us)
    (x : InCallC s s.heap.objs.size (bindL (envOfC qual scope s.heap.objs.size f cd).kindOf (ps.zip us) fun _ => none) (cellsFrom (s.heap.objs.size + 1) scope.names []) (bindC (envOfC qual scope s.heap.objs.size f cd).kindOf (ps.zip us) fun _ => none) s1) :
    Inv (cxOf CX P w K mg base N qual scope f cd A outer s H E) [] (start N vs) H s1 := by
  have hpl : ps.length ≤ N.length := by have := congrArg List.length S.pre; rw [List.length_take] at this; omega
  obtain ⟨h1, tk, rfl, hk⟩ := x.done
  have noA : ∀ b : Addr, b ∉ (cxOf CX P w K mg base N qual scope f cd A outer s H E).ex := fun b z => absurd (show b ∈ ([] : List Addr) from z) (by simp)
  refine ⟨⟨e0.mod, S.kind, rfl, rfl, Nat.le_refl _, fun y z c h1 h2 => ?_, fun y hy => ?_, fun y c _ h => ?_, fun _ => hd, Around.frames_deeper e0.frames, .inr ⟨rfl, rfl⟩, fun b z => absurd z (noA b), e0.bs, e0.bsz, fun b _ _ => noA b, fun b z => absurd z (noA b), e0.funs, e0.frf⟩,
    rfl, e0.bare, Un.kept hk, ⟨_, x.toInCall.ns, fun i y v h1 h2 h3 => ?_⟩, fun y c h => ⟨_, x.cell y c h⟩, e0.hok.fresh (Nat.le_refl _), fun y c h => ?_, fun p hp => absurd (show p ∈ ([] : List (Addr × Obj)) from hp) (by simp), e0.hok.kept hk, ?_⟩
  · exact name_of_addr x.apart (PySem.mem_of_lookup h1) (PySem.mem_of_lookup h2)
  · have hy : scope.names.lookup y = some .cell ∨ scope.names.lookup y = some .free := hy
    rcases hy with hy | hy
    · exact cell_has hy
    · exact absurd rfl (S.nofree _ (PySem.mem_of_lookup hy))
  · exact Nat.le_of_lt (x.above y c (PySem.mem_of_lookup h))
  · have hi : i < vs.length := by
      unfold start at h2
      by_cases hi : i < vs.length
      · exact hi
      · rw [List.getElem?_append_right (by simpa using hi)] at h2
        rw [List.getElem?_replicate] at h2
        split at h2 <;> cases h2
    have ha : vs[i]? = some v := by
      unfold start at h2
      rw [List.getElem?_append_left (by simpa using hi), List.getElem?_map] at h2
      cases e : vs[i]? with
      | none => rw [e] at h2; cases h2
      | some a => rw [e] at h2; cases h2; rfl
    obtain ⟨u, hu, rv⟩ := r.get ha
    have hp : ps[i]? = some y := by
      rw [← S.pre, List.getElem?_take_of_lt (by omega)]; exact h1
    have ndP : ps.Nodup := by rw [← S.pre]; exact S.nd.sublist (List.take_sublist _ _)
    refine ⟨u, rv, ?_⟩
    rcases S.par y (List.mem_of_getElem? hp) with k | k
    · exact .inl ⟨k, bindL_get ndP hp hu k⟩
    · obtain ⟨c, e⟩ := cell_has (n := s.heap.objs.size + 1) k
      refine .inr ⟨.inl k, c, e, ?_⟩
      have q := x.cell y c e
      rw [bindC_get ndP hp hu (by show scope.names.lookup y ≠ _; rw [k]; decide)] at q
      exact q
  · exact e0.hok.fresh (Nat.le_of_lt (x.above y c (PySem.mem_of_lookup h)))
  · unfold start
    show _ = N.length
    rw [List.length_append, List.length_map, List.length_replicate]
    omega

theorem fn_of {CX : CXT} {P : Program} {w : World} {K : PySem.W.Frag} {mg : Str → Option Value} {base : Heap} {k : Nat} {f : Addr} {name qual : Str} {params : Arguments} {body : List Stmt} {scope : Scope} {dV kV doc pm cdv ct oc : Value} {an od : Option Addr}
    {osl : Array (Option Value)} {N ps : List Str} {sp : Sp} (lk : K.lookup f = some ⟨oc, od, .func (PySem.W.fnOf name qual params body scope dV kV doc pm an cdv ct), osl⟩) (hcd : PySem.W.codeIn K cdv qual = true) (S : FnScope N ps scope)
    (len : ∀ vs H Q E, sp vs H Q E → vs.length = ps.length)
    (hbody : ∀ (A : Around) (outer : List Env) (s : Shared) (H : Hp) (vs : List V) (Q : VK) (E : XK), Room k (A.deeper (envOfC qual scope s.heap.objs.size f cdv)) → sp vs H Q E →
      ∃ t, PSs (cxOf CX P w K mg base N qual scope f cdv A outer s H E) body t ∧ t { nx := fun _ H' => Q .non H', rt := Q } (start N vs) H) :
    FnOk P w K mg base CX (k + 1) f (PySem.W.fnOf name qual params body scope dV kV doc pm an cdv ct) ps sp := by
  refine ⟨len, fun A outer s H args us vs Q E hr e0 hb r hsp => ?_⟩
  have hl := len _ _ _ _ hsp
  have KX : K.In s.heap := e0.mod.kin.keeps fun b o e => (e0.bs b o e).1
  have lim : s.heap.NoLimit := e0.mod.nolimit.keeps fun b o e => (e0.bs b o e).1
  have hkind : ∀ y ∈ ps.zip us, scope.names.lookup y.1 = some .local ∨ (scope.names.lookup y.1 = some .cell ∧ ((cellsFrom (s.heap.objs.size + 1) scope.names []).lookup y.1).isSome = true) := fun ⟨n, v⟩ hy => by
    rcases S.par n (List.of_mem_zip hy).1 with q | q
    · exact .inl q
    · exact .inr ⟨q, PySem.W.cellsFrom_some _ _ _ (.inl q)⟩
  refine codeAny_call_function hr.depth (KX _ _ lk) rfl S.co S.gen rfl (PySem.W.codeRec_of KX hcd) (hb _ _ _ _ ?_)
  refine wpAny_newFunctionEnv_cells S.kind hkind fun env he s1 x => ?_
  subst he
  refine ⟨lim.keeps x.toInCall.keep, codeAny_func ?_⟩
  obtain ⟨t, ht, hq⟩ := hbody A outer s H vs Q E (hr.deeper _) hsp
  have I : Inv (cxOf CX P w K mg base N qual scope f cdv A outer s H E) [] (start N vs) H s1 := inv_start S hr.hd e0 hl r x
  refine wpAny_mono (ht [] s1 (start N vs) H _ I hq) (fun fl s' hs => ?_) fun e s' hs => hs
  have fin : ∀ {σ' : St} {H' : Hp} {v : V} {u : Value}, Inv (cxOf CX P w K mg base N qual scope f cdv A outer s H E) [] σ' H' s' → RelV v u → Q v H' → CE outer P w H s Q u s' :=
    fun {σ' H' v u} J rv q => ⟨v, H', J.os, J.bare, J.base, J.hok, rv, q⟩
  cases fl with
  | ret u =>
    obtain ⟨v, σ', H', J, rv, q⟩ := hs
    exact fin J rv q
  | next =>
    obtain ⟨σ', H', J, q⟩ := hs
    exact fin (v := V.non) (u := Value.none) J rfl q
  | brk =>
    obtain ⟨_, _, _, q⟩ := hs
    exact False.elim q
  | cont =>
    obtain ⟨_, _, _, q⟩ := hs
    exact False.elim q
end L2

namespace L2
open PySem PySem.Spec PyProof.Rows
section
variable {X : Cx} {x : Str} {p pos : Pos} {e : Expr} {es : List Expr} {t : TA} {id T : String} {r : List V → Hp → VK → Prop}

def tCB (r : List V → Hp → VK → Prop) (t : TA) : TE := fun σ H Q => t σ H fun vs H1 => r vs H1 Q
theorem pe_callB (hc : CallR X (.builtin id) r) (hg : Gl X x) (hm : X.mg x = none) (hv : bootBuiltins x = some (.builtin id)) (ha : PA X (e :: es) t) (hn : x ≠ "__name__" := by decide) (hdb : (x == ("__debug__" : Str)) = false := by decide)
    (he : starEach (e :: es) X.env = (false, eval e X.env) :: starEach es X.env := by rfl) (hpl : (backTo pos (starEach es X.env)).any (·.1) = false := by rfl) : PE X (.Call (.Name x p) (e :: es) [] pos) (tCB r t) := by
  intro pins s σ H Q I h
  refine wpAny_Call_Name_kw (ld_blt I hg hm hv ?_ hn hdb)
  exact PyProof.Rows.callWith_builtin1 (thn (ha pos pins s σ H _ I h) fun us s1 ⟨vs, H1, I1, r1, q1⟩ => hc pins s1 σ H1 vs us Q I1 r1 q1) he hpl
theorem pe_callTy (hc : CallR X (.type T) r) (hg : Gl X x) (hm : X.mg x = none) (hv : bootBuiltins x = some (.type T)) (ha : PA X (e :: es) t) (hn : x ≠ "__name__" := by decide) (hdb : (x == ("__debug__" : Str)) = false := by decide)
    (he : starEach (e :: es) X.env = (false, eval e X.env) :: starEach es X.env := by rfl) (hpl : (backTo pos (starEach es X.env)).any (·.1) = false := by rfl) : PE X (.Call (.Name x p) (e :: es) [] pos) (tCB r t) := by
  intro pins s σ H Q I h
  refine wpAny_Call_Name_kw (ld_blt I hg hm hv ?_ hn hdb)
  exact PyProof.Rows.callWith_type1 (thn (ha pos pins s σ H _ I h) fun us s1 ⟨vs, H1, I1, r1, q1⟩ => hc pins s1 σ H1 vs us Q I1 r1 q1) he hpl
end
end L2

namespace HT
open PySem PyProof.Rows

section
open PySem.SeqAt
open PySem.AutoSeq1 (wpAny_loadPart')
open PySem.MeetsSeq PySem.MeetsSeq2 PySem.MeetsSeq3

end

section
variable {prog : Program} {w : World} {A : Around} {E : Value → Shared → Prop} {s : Shared}

theorem cat_tup {t b : Addr} {vs ws : List Value} {Q : Value → Shared → Prop} (ht : IsTup s.heap t vs.toArray) (hb : IsTup s.heap b ws.toArray) (hv : vs ≠ [])
    (h1 : ws = [] → Q (.ref t) s) (h2 : ws ≠ [] → Q (.ref s.heap.objs.size) { s with heap := s.heap.push { cls := .type "tuple", data := .seq (vs ++ ws).toArray } })
    (hsz : vs.length + ws.length ≤ sizeLine) : wpAny (model prog w) A (binaryOp .Add (.ref t) (.ref b)) Q E s := by
  obtain ⟨⟨cls, dd, data, sl⟩, ho, hc, n, hd⟩ := id ht
  obtain ⟨⟨cls2, dd2, data2, sl2⟩, ho2, hc2, n2, hd2⟩ := id hb
  simp only at hc hd hc2 hd2
  subst hc hd hc2 hd2
  have e : vs.toArray ++ ws.toArray = (vs ++ ws).toArray := by simp
  by_cases hw : ws = []
  · exact concat_meets ⟨_, ho, rfl⟩ ⟨_, ho2, rfl⟩ noFill_tuple_add seq_tuple_add PySem.F.slot_tuple_add PySem.F.entry_tuple_add (PySem.F.args_tuple_add_2 _ _)
      (tuple_addW1 t b vs.toArray ws.toArray n n2 dd dd2 sl sl2 (by simpa using hv) (by simp [hw])) ⟨ho, ho2, h1 hw⟩
  · refine concat_meets ⟨_, ho, rfl⟩ ⟨_, ho2, rfl⟩ noFill_tuple_add seq_tuple_add PySem.F.slot_tuple_add PySem.F.entry_tuple_add (PySem.F.args_tuple_add_2 _ _)
      (tuple_addW2 t b vs.toArray ws.toArray n n2 dd dd2 sl sl2 (by simpa using hv) (by simpa using hw) (by rw [List.size_toArray, List.size_toArray]; exact hsz)) ⟨ho, ho2, ?_⟩
    rw [e]
    exact h2 hw

def sIx (n d : Nat) : Option Int → Nat
  | none => d
  | some v => if v < 0 then (v + (n : Int)).toNat else min v.toNat n
theorem sIx_le (n d : Nat) (hd : d ≤ n) (o : Option Int) : sIx n d o ≤ n := by
  cases o with
  | none => exact hd
  | some v =>
    show (if v < 0 then (v + (n : Int)).toNat else min v.toNat n) ≤ n
    by_cases hv : v < 0
    · rw [if_pos hv]; omega
    · rw [if_neg hv]; exact Nat.min_le_right _ _
theorem clip_eq (v : Int) (n d : Nat) : (if v < 0 then max (v + (n : Int)) 0 else min v (n : Int)) = ((sIx n d (some v) : Nat) : Int) := by
  show (if v < 0 then max (v + (n : Int)) 0 else min v (n : Int)) = (((if v < 0 then (v + (n : Int)).toNat else min v.toNat n) : Nat) : Int)
  by_cases hv : v < 0
  · simp only [if_pos hv]; omega
  · simp only [if_neg hv]; omega
theorem adjust_gen (lo hi : Option Int) (n : Nat) : Builtin.Slice.sliceAdjust lo hi 1 (n : Int) = (((sIx n 0 lo : Nat) : Int), ((sIx n n hi : Nat) : Int)) := by
  have h1 : ¬ ((1 : Int) < 0) := by omega
  unfold Builtin.Slice.sliceAdjust
  simp only [h1, if_false]
  refine Prod.ext ?_ ?_
  · cases lo with
    | none => rfl
    | some v => exact clip_eq v n 0
  · cases hi with
    | none => rfl
    | some v => exact clip_eq v n n
theorem places_gen (i j : Nat) : Builtin.Slice.slicePlaces (i : Int) (j : Int) 1 = j - i := by
  unfold Builtin.Slice.slicePlaces
  have h1 : (1 : Int) > 0 := by omega
  simp only [h1, if_true, Int.ediv_one]
  split <;> omega
theorem slicePart_ {v : Value} {o : Option Int} {Q : Option Int → Shared → Prop} (p : IsPart v o) (h : Q o s) : wpAny (model prog w) A (Builtin.Slice.slicePartIndex v) Q E s := by
  cases p with
  | none => exact slicePart_none h
  | int i t => exact slicePart_int h
theorem sliceApplied_gen {sl : Addr} {vl vu : Value} {lo hi : Option Int} {n : Nat} {Q : Int × Int × Nat → Shared → Prop} (hs : s.heap.IsSliceOf sl vl vu .none) (pl : IsPart vl lo) (pu : IsPart vu hi)
    (h : Q (((sIx n 0 lo : Nat) : Int), 1, sIx n n hi - sIx n 0 lo) s) : wpAny (model prog w) A (Builtin.Slice.sliceApplied (.ref sl) (pure (n : Int))) Q E s := by
  obtain ⟨os, hos, hcs, hds⟩ := id hs
  unfold Builtin.Slice.sliceApplied Builtin.Slice.sliceFields
  refine wpAny_bind (wpAny_bind (wpAny_field hos hds (x := vl) rfl (wpAny_bind (wpAny_field hos hds (x := vu) rfl (wpAny_bind (wpAny_field hos hds (x := .none) rfl (wpAny_pure ?_)))))))
  refine wpAny_bind (slicePart_none ?_)
  show wpAny _ _ (if ((1 : Int) == 0) = true then _ else _) _ _ s
  rw [if_neg (by decide)]
  refine wpAny_bind (slicePart_ pl (wpAny_bind (slicePart_ pu (wpAny_bind (wpAny_pure ?_)))))
  show wpAny _ _ (match Builtin.Slice.sliceAdjust lo hi 1 (n : Int) with | (lo, hi) => pure (lo, (1 : Int), Builtin.Slice.slicePlaces lo hi 1)) _ _ s
  rw [adjust_gen lo hi n]
  show wpAny _ _ (pure (((sIx n 0 lo : Nat) : Int), (1 : Int), Builtin.Slice.slicePlaces ((sIx n 0 lo : Nat) : Int) ((sIx n n hi : Nat) : Int) 1)) _ _ s
  rw [places_gen]
  exact wpAny_pure h
theorem pick_gen (xs : Array Value) (i k : Nat) : ((List.range k).filterMap fun (m : Nat) => xs[((i : Int) + (m : Int) * 1).toNat]?).toArray = ((xs.toList.drop i).take k).toArray := by
  have e : (fun (m : Nat) => xs[((i : Int) + (m : Int) * 1).toNat]?) = fun m => xs[i + m]? := by
    funext m
    have : ((i : Int) + (m : Int) * 1).toNat = i + m := by omega
    rw [this]
  rw [e]
  have := pick_run xs i k
  rw [List.filterMap_map] at this
  have e2 : ((fun x => xs[x]?) ∘ fun x => i + x) = fun m => xs[i + m]? := rfl
  rw [e2] at this
  rw [this]

theorem getItem_tuple_cut {t sl : Addr} {items : Array Value} {vl vu : Value} {lo hi : Option Int} {Q : Value → Shared → Prop} (ht : IsTup s.heap t items) (hs : s.heap.IsSliceOf sl vl vu .none) (pl : IsPart vl lo) (pu : IsPart vu hi)
    (hw : ¬ (sIx items.size 0 lo = 0 ∧ sIx items.size items.size hi = items.size))
    (h : Q (.ref s.heap.objs.size) { s with heap := s.heap.push { cls := .type "tuple", data := .seq ((items.toList.drop (sIx items.size 0 lo)).take (sIx items.size items.size hi - sIx items.size 0 lo)).toArray } })
    (hsz : items.size ≤ sizeLine) : wpAny (model prog w) A (getItem (.ref t) (.ref sl)) Q E s := by
  have htake : sizeOk (.seq ((items.toList.drop (sIx items.size 0 lo)).take (sIx items.size items.size hi - sIx items.size 0 lo)).toArray) := by
    show ((items.toList.drop (sIx items.size 0 lo)).take (sIx items.size items.size hi - sIx items.size 0 lo)).toArray.size ≤ sizeLine
    rw [List.size_toArray, List.length_take, List.length_drop, Array.length_toList]
    omega
  have hj : sIx items.size items.size hi ≤ items.size := sIx_le _ _ (Nat.le_refl _) hi
  obtain ⟨os, hos, hcs, hds⟩ := id hs
  have hTs : s.TypeIs (.ref sl) "slice" := ⟨os, hos, hcs⟩
  unfold getItem
  try with_reducible refine wpAny_holding ?_
  first | refine wpAny_bind (wpAny_pure ?_) | skip
  refine wpAny_bind (wpAny_sequenceKey ht.typeIs (by decide) ?_)
  refine wpAny_bind (wpAny_callSpecial?_slot (name := Str.ofString "__getitem__") ht.typeIs PyProof.Rows.slot_tuple_getitem
    (wpAny_call_entry PyProof.Rows.slot_tuple_getitem ht.typeIs entry_tuple_getitem ?_ (args_tuple_getitem _ _)))
  show wpAny _ _ (Builtin.Tuple.tupleItemsOf (.ref t) >>= _) _ _ s
  refine wpAny_bind (tupleItemsOf_ ht ?_)
  refine wpAny_bind (wpAny_typeOf hTs ?_)
  rw [if_pos (by decide)]
  refine wpAny_bind (sliceApplied_gen hs pl pu ?_)
  have hno : ¬ ((((sIx items.size 0 lo : Nat) : Int) == 0 && (1 : Int) == 1 && (sIx items.size items.size hi - sIx items.size 0 lo) == items.size) = true) := by
    intro q
    rw [Bool.and_eq_true, Bool.and_eq_true] at q
    have q1 : ((sIx items.size 0 lo : Nat) : Int) = 0 := eq_of_beq q.1.1
    have q2 : sIx items.size items.size hi - sIx items.size 0 lo = items.size := eq_of_beq q.2
    exact hw ⟨by omega, by omega⟩
  show wpAny _ _ (if (((sIx items.size 0 lo : Nat) : Int) == 0 && (1 : Int) == 1 && (sIx items.size items.size hi - sIx items.size 0 lo) == items.size) = true then _ else _) _ _ s
  rw [if_neg hno, pick_gen]
  first
    | exact wpAny_bind (m := Builtin.Tuple.tupleExact _) (wpAny_newObj_type (wpAny_pure ⟨_, rfl, wpAny_pure h⟩) htake)
    | exact wpAny_bind (m := Builtin.Tuple.tupleExact _) (wpAny_newObj_type (wpAny_bind (wpAny_pure (wpAny_pure ⟨_, rfl, wpAny_pure h⟩))) htake)
    | exact wpAny_bind (wpAny_bind (m := Builtin.Tuple.tupleExact _) (wpAny_newObj_type (wpAny_pure (wpAny_pure ⟨_, rfl, wpAny_pure h⟩)) htake))
    | exact wpAny_bind (wpAny_bind (m := Builtin.Tuple.tupleExact _) (wpAny_newObj_type (wpAny_pure ⟨_, rfl, wpAny_pure h⟩) htake))
end
end HT

namespace L2
open PySem PySem.Spec PyProof.Rows

abbrev TO := St → Hp → (Option Int → Hp → Prop) → Prop
def PO (X : Cx) (e : Option Expr) (t : TO) : Prop :=
  ∀ (pins : List (Addr × Obj)) (s : Shared) (σ : St) (H : Hp) (Q : Option Int → Hp → Prop), Inv X pins σ H s → t σ H Q →
    wpAny (model X.prog X.w) X.A (evalPart e X.env) (fun u s' => ∃ o H', Inv X pins σ H' s' ∧ IsPart u o ∧ Q o H') X.xe s
def tNoPart : TO := fun _ H Q => Q none H
def tPart (t : TE) : TO := fun σ H Q => t σ H fun x H1 => ∃ i, x = .int i ∧ Q (some i) H1

theorem intsAre_of {ns : List Int} : ∀ {us : List Value}, Vals (ns.map V.int) us → IntsAre us ns := by
  induction ns with
  | nil => intro us r; rw [List.map_nil] at r; cases r; exact .nil
  | cons n ns ih =>
    intro us r
    rw [List.map_cons] at r
    cases r with
    | cons r1 r2 =>
      obtain ⟨t, e⟩ := r1
      subst e
      exact .cons n t (ih r2)

section
variable {X : Cx} {e : Expr} {te : TE} {lo hi : Option Expr} {tl th : TO} {pos p2 : Pos}

theorem po_none : PO X none tNoPart := by
  intro pins s σ H Q I h
  rw [evalPart_none]
  exact wpAny_pure ⟨none, H, I, .none, h⟩
theorem po_some (h : PE X e te) : PO X (some e) (tPart te) := by
  intro pins s σ H Q I hw
  rw [evalPart_some]
  refine thn (h pins s σ H _ I hw) fun u s1 ⟨x, H1, I1, r1, q1⟩ => ?_
  obtain ⟨i, rfl, q⟩ := q1
  obtain ⟨t, rfl⟩ := r1
  exact ⟨some i, H1, I1, .int i t, q⟩

def SlR (X : Cx) (r : V → Option Int → Option Int → Hp → VK → Prop) : Prop :=
  ∀ (pins : List (Addr × Obj)) (s : Shared) (σ : St) (H : Hp) (x : V) (v vl vu : Value) (lo hi : Option Int) (sl : Addr) (Q : VK), Inv X pins σ H s → RelV x v → s.heap.IsSliceOf sl vl vu .none → IsPart vl lo → IsPart vu hi → r x lo hi H Q →
    ∃ T id, typeLookup (.type T) "__getitem__" = pure (some (.builtin id)) ∧ s.TypeIs v T ∧ wpAny (model X.prog X.w) X.A (getItem v (.ref sl)) (EP X pins σ Q) X.xe s
theorem SlR.or {r r' : V → Option Int → Option Int → Hp → VK → Prop} (h : SlR X r) (h' : SlR X r') : SlR X (fun x lo hi H Q => r x lo hi H Q ∨ r' x lo hi H Q) := by
  intro pins s σ H x v vl vu lo hi sl Q I rx hs pl pu q
  rcases q with q | q
  · exact h pins s σ H x v vl vu lo hi sl Q I rx hs pl pu q
  · exact h' pins s σ H x v vl vu lo hi sl Q I rx hs pl pu q
def tSl (r : V → Option Int → Option Int → Hp → VK → Prop) (te : TE) (tl th : TO) : TE := fun σ H Q => te σ H fun x H1 => tl σ H1 fun l H2 => th σ H2 fun u H3 => r x l u H3 Q
theorem pe_slice {r : V → Option Int → Option Int → Hp → VK → Prop} (hr : SlR X r) (he : PE X e te) (hl : PO X lo tl) (hu : PO X hi th) : PE X (.Subscript e (.Slice lo hi none p2) pos) (tSl r te tl th) := by
  intro pins s σ H Q I h
  refine Subscript_ (thn (he pins s σ H _ I h) fun v s1 ⟨x, H1, I1, r1, q1⟩ => ?_)
  refine wpAny_Slice (thn (hl pins s1 σ H1 _ I1 q1) fun vl s2 ⟨l, H2, I2, pl, q2⟩ => thn (hu pins s2 σ H2 _ I2 q2) fun vu s3 ⟨u, H3, I3, pu, q3⟩ => ?_)
  rw [evalPart_none]
  refine wpAny_pure ?_
  have I4 : Inv X pins σ H3 { s3 with heap := s3.heap.push { cls := .type "slice", data := .fields #[vl, vu, .none] } } := I3.kept (t' := s3.toks) fun b ob q => Heap.get?_push_of_some _ q
  obtain ⟨T, id, hT, ht, hg⟩ := hr pins { s3 with heap := s3.heap.push { cls := .type "slice", data := .fields #[vl, vu, .none] } } σ H3 x v vl vu l u s3.heap.objs.size Q I4 r1 (Heap.IsSliceOf.new ..) pl pu q3
  show wpAny (model X.prog X.w) X.A (subscriptTail e (.Slice lo hi none p2) v (.ref s3.heap.objs.size)) (EP X pins σ Q) X.xe { s3 with heap := s3.heap.push { cls := .type "slice", data := .fields #[vl, vu, .none] } }
  exact tail_any (ops := [.ref s3.heap.objs.size, v]) ht hT hg (by with_unfolding_all rfl)

def cutV (xs : List V) (lo hi : Option Int) : List V := (xs.drop (HT.sIx xs.length 0 lo)).take (HT.sIx xs.length xs.length hi - HT.sIx xs.length 0 lo)
theorem cutV_length (xs : List V) (lo hi : Option Int) : (cutV xs lo hi).length ≤ xs.length := by
  unfold cutV
  rw [List.length_take, List.length_drop]
  omega
def rSlT (K : PySem.W.Frag) : V → Option Int → Option Int → Hp → VK → Prop := fun x lo hi H Q => ∃ a xs, x = .ref a ∧ SqT K H a xs ∧
  ¬ (HT.sIx xs.length 0 lo = 0 ∧ HT.sIx xs.length xs.length hi = xs.length) ∧ ∀ p, H p = none → Q (.ref p) (upd H p (.tup (cutV xs lo hi)))
theorem sl_tup : SlR X (rSlT X.K) := by
  intro pins s σ H x v vl vu lo hi sl Q I rx hs pl pu h
  obtain ⟨a, xs, rfl, hx, hw, q⟩ := h
  cases rx
  obtain ⟨its, r, ht, hz⟩ := I.tuple hx
  have hlen : its.toArray.size = xs.length := by rw [List.size_toArray]; exact r.length.symm
  refine ⟨"tuple", _, PyProof.Rows.slot_tuple_getitem.lookup, ht.typeIs, ?_⟩
  refine HT.getItem_tuple_cut ht hs pl pu (by rw [hlen]; exact hw) ?_ (by rw [hlen]; exact hz)
  rw [hlen]
  refine ⟨.ref s.heap.objs.size, _, I.laid (t' := s.toks) (o := .tup (cutV xs lo hi)) (fun b ob q => Heap.get?_push_of_some _ q) (Nat.le_refl _) ?_, rfl, q _ (I.hok.fresh (Nat.le_refl _))⟩
  exact ⟨Nat.le_trans (cutV_length xs lo hi) hz, _, (r.drop (HT.sIx xs.length 0 lo)).take (HT.sIx xs.length xs.length hi - HT.sIx xs.length 0 lo), IsTup.new _ _⟩

def rCatT (K : PySem.W.Frag) : R2 := fun x y H Q => ∃ a b xs ys, x = .ref a ∧ y = .ref b ∧ SqT K H a xs ∧ SqT K H b ys ∧ xs ≠ [] ∧ xs.length + ys.length ≤ sizeLine ∧
  (ys = [] → Q (.ref a) H) ∧ (ys ≠ [] → ∀ p, H p = none → Q (.ref p) (upd H p (.tup (xs ++ ys))))
theorem Vals.nil_iff {xs : List V} {us : List Value} (r : Vals xs us) : us = [] ↔ xs = [] := by
  cases r with
  | nil => simp
  | cons _ _ => simp
theorem op_catT : OpR X (binaryOp .Add) (rCatT X.K) := by
  intro pins s σ H x y v u Q I rx ry h
  obtain ⟨a, b, xs, ys, rfl, rfl, ha, hb, hx, hz, q1, q2⟩ := h
  cases rx
  cases ry
  obtain ⟨its, r1, p1, _⟩ := I.tuple ha
  obtain ⟨its2, r2, p2, _⟩ := I.tuple hb
  refine HT.cat_tup p1 p2 (fun z => hx (r1.nil_iff.mp z)) (fun z => ⟨.ref a, H, I, rfl, q1 (r2.nil_iff.mp z)⟩) (fun z => ?_) (by rw [← r1.length, ← r2.length]; exact hz)
  refine ⟨.ref s.heap.objs.size, _, I.laid (t' := s.toks) (o := .tup (xs ++ ys)) (fun b ob q => Heap.get?_push_of_some _ q) (Nat.le_refl _) ?_, rfl, q2 (fun w => z (r2.nil_iff.mpr w)) _ (I.hok.fresh (Nat.le_refl _))⟩
  exact ⟨by rw [List.length_append]; exact hz, _, r1.append r2, IsTup.new _ _⟩
end
end L2

namespace L2
open PySem PySem.Spec PyProof.Rows

def ixN (n : Nat) (i : Int) : Option Nat := if 0 ≤ i then (if i < n then some i.toNat else none) else if -(n : Int) ≤ i then some (i + n).toNat else none
def atI {α : Type} (xs : List α) (i : Int) : Option α := (ixN xs.length i).bind fun j => xs[j]?
theorem ixN_seq {n : Nat} {i : Int} {j : Nat} (h : ixN n i = some j) : seqIndex? i n = some j ∧ j < n ∧ -(n : Int) ≤ i ∧ i < n := by
  unfold ixN at h
  by_cases h0 : 0 ≤ i
  · rw [if_pos h0] at h
    by_cases h1 : i < n
    · rw [if_pos h1] at h
      have e : i.toNat = j := Option.some.inj h
      exact ⟨by rw [seqIndex_of h0 h1, e], by omega, by omega, h1⟩
    · rw [if_neg h1] at h; cases h
  · rw [if_neg h0] at h
    by_cases h1 : -(n : Int) ≤ i
    · rw [if_pos h1] at h
      have e : (i + n).toNat = j := Option.some.inj h
      exact ⟨by rw [seqIndex_neg (by omega) h1, e], by omega, h1, by omega⟩
    · rw [if_neg h1] at h; cases h
theorem atI_get {α : Type} {xs : List α} {i : Int} {v : α} (h : atI xs i = some v) : ∃ j, seqIndex? i xs.length = some j ∧ xs[j]? = some v ∧ j < xs.length ∧ -(xs.length : Int) ≤ i ∧ i < xs.length := by
  unfold atI at h
  cases e : ixN xs.length i with
  | none => rw [e] at h; cases h
  | some j =>
    rw [e] at h
    obtain ⟨h1, h2, h3, h4⟩ := ixN_seq e
    exact ⟨j, h1, h, h2, h3, h4⟩
def PlainIx (b : Expr) : Prop := ∀ o i, subscripted b false o i = operate [o, i] (getItem o i)
def IxR (X : Cx) (r : R2) : Prop :=
  ∀ (value slice : Expr) (pins : List (Addr × Obj)) (s : Shared) (σ : St) (H : Hp) (x y : V) (v u : Value) (Q : VK), Inv X pins σ H s → RelV x v → RelV y u → r x y H Q →
    subscripted slice false v u = operate [v, u] (getItem v u) → wpAny (model X.prog X.w) X.A (subscriptTail value slice v u) (EP X pins σ Q) X.xe s
def MtR (X : Cx) (id : String) (r : V → List V → Hp → VK → Prop) : Prop :=
  ∀ (pins : List (Addr × Obj)) (s : Shared) (σ : St) (H : Hp) (x : V) (xs : List V) (v : Value) (us : List Value) (Q : VK), Inv X pins σ H s → RelV x v → Vals xs us → r x xs H Q →
    wpAny (model X.prog X.w) X.A (call (.builtin id) (v :: us)) (EP X pins σ Q) X.xe s
section
variable {X : Cx} {a b : Expr} {ta tb : TE} {pos : Pos}
theorem IxR.or {r r' : R2} (h : IxR X r) (h' : IxR X r') : IxR X (fun x y H Q => r x y H Q ∨ r' x y H Q) := by
  intro value slice pins s σ H x y v u Q I rx ry q hs
  rcases q with q | q
  · exact h value slice pins s σ H x y v u Q I rx ry q hs
  · exact h' value slice pins s σ H x y v u Q I rx ry q hs
theorem MtR.or {id : String} {r r' : V → List V → Hp → VK → Prop} (h : MtR X id r) (h' : MtR X id r') : MtR X id (fun x xs H Q => r x xs H Q ∨ r' x xs H Q) := by
  intro pins s σ H x xs v us Q I rx rs q
  rcases q with q | q
  · exact h pins s σ H x xs v us Q I rx rs q
  · exact h' pins s σ H x xs v us Q I rx rs q
theorem pe_ix {r : R2} (hr : IxR X r) (ha : PE X a ta) (hb : PE X b tb) (hs : PlainIx b) : PE X (.Subscript a b pos) (tOp r ta tb) := by
  intro pins s σ H Q I h
  exact Subscript_ (binT ha hb I h fun v u s2 x y H2 I2 rx ry q => hr a b pins s2 σ H2 x y v u Q I2 rx ry q (hs _ _))

def rIxL (K : PySem.W.Frag) : R2 := fun x y H Q => ∃ p xs i v, x = .ref p ∧ y = .int i ∧ SqL K H p xs ∧ atI xs i = some v ∧ Q v H
def rIxT (K : PySem.W.Frag) : R2 := fun x y H Q => ∃ p xs i v, x = .ref p ∧ y = .int i ∧ SqT K H p xs ∧ atI xs i = some v ∧ Q v H
def rIxS : R2 := fun x y H Q => ∃ z i c, x = .str z ∧ y = .int i ∧ z.length ≤ sizeLine ∧ atI z.cps.toList i = some c ∧ Q (.str ⟨#[c]⟩) H
theorem ix_list : IxR X (rIxL X.K) := by
  intro value slice pins s σ H x y v u Q I rx ry h hs
  obtain ⟨p, xs, i, z, rfl, rfl, hq, he, q⟩ := h
  cases rx
  obtain ⟨t, rfl⟩ := ry
  obtain ⟨its, r, pl, hz⟩ := I.list hq
  obtain ⟨j, h1, h2, h3, h4, h5⟩ := atI_get he
  obtain ⟨w, ew, rw'⟩ := r.get h2
  have hl := r.length
  have hn := line63
  have fin : EP X pins σ Q w s := ⟨z, H, I, rw', q⟩
  by_cases h0 : 0 ≤ i
  · have hj : i.toNat = j := by
      rw [seqIndex_of h0 h5] at h1
      exact Option.some.inj h1
    exact item_listR pl.isList h0 (by omega) (by rw [hj]; simpa using ew) fin hs
  · have hj : (i + (its.toArray.size : Int)).toNat = j := by
      rw [seqIndex_neg (by omega) h4] at h1
      rw [List.size_toArray, ← hl]
      exact Option.some.inj h1
    exact subscriptTail_builtinR (x := w) pl.isList.typeIs slot_list_getitem.lookup
      (wpAny_getItem_list_neg (Q := fun r s' => r = w ∧ EP X pins σ Q r s') pl.isList (by omega) (by rw [List.size_toArray] <;> omega) (by omega) (by rw [hj]; simpa using ew) ⟨rfl, fin⟩) hs
theorem ix_tup : IxR X (rIxT X.K) := by
  intro value slice pins s σ H x y v u Q I rx ry h hs
  obtain ⟨p, xs, i, z, rfl, rfl, hq, he, q⟩ := h
  cases rx
  obtain ⟨t, rfl⟩ := ry
  obtain ⟨its, r, pl, hz⟩ := I.tuple hq
  obtain ⟨j, h1, h2, h3, h4, h5⟩ := atI_get he
  obtain ⟨w, ew, rw'⟩ := r.get h2
  have hl := r.length
  have hn := line63
  have fin : EP X pins σ Q w s := ⟨z, H, I, rw', q⟩
  exact subscriptTail_builtinR (x := w) pl.typeIs slot_tuple_getitem.lookup
    (getItem_tuple (j := j) (Q := fun r s' => r = w ∧ EP X pins σ Q r s') pl (by omega) (by omega) (by rw [List.size_toArray, ← hl]; exact h1) (by simpa using ew) ⟨rfl, fin⟩) hs
theorem ix_str : IxR X rIxS := by
  intro value slice pins s σ H x y v u Q I rx ry h hs
  obtain ⟨z, i, c, rfl, rfl, hz, he, q⟩ := h
  obtain ⟨t, rfl⟩ := rx
  obtain ⟨t', rfl⟩ := ry
  obtain ⟨j, h1, h2, h3, h4, h5⟩ := atI_get he
  have hl : z.cps.toList.length = z.length := by simp [Str.length]
  rw [hl] at h1 h4 h5
  have hn := line63
  exact tail_any (typeIs_str s z t) slot_str_getitem.lookup (getItem_str (c := c) (by
    have e1 : decide (i < -(2 ^ 63 : Int)) = false := decide_eq_false (by omega)
    have e2 : decide (i ≥ 2 ^ 63) = false := decide_eq_false (by omega)
    rw [e1, e2, Bool.or_false]) (by rw [h1]; simpa using h2) ⟨.str ⟨#[c]⟩, H, I.tok _, ⟨_, rfl⟩, q⟩) hs
def rIx (K : PySem.W.Frag) : R2 := fun x y H Q => rIxL K x y H Q ∨ rIxT K x y H Q ∨ rIxS x y H Q
theorem ix_seq : IxR X (rIx X.K) := ix_list.or (ix_tup.or ix_str)

theorem Inv.lst {pins : List (Addr × Obj)} {σ : St} {H : Hp} {s : Shared} {p : Addr} {xs : List V} (I : Inv X pins σ H s) (h : H p = some (.lst xs)) :
    ∃ (its : List Value) (n : Nat), Vals xs its ∧ s.heap.get? p = some { cls := .type "list", data := .seq its.toArray n } ∧ xs.length ≤ sizeLine := by
  obtain ⟨z, its, n, r, e⟩ := I.hok p _ h
  exact ⟨its, n, r, e, z⟩
theorem slice_bounds (lo hi : Option Int) (n : Nat) : (sliceBounds lo hi none n).1 = ((HT.sIx n 0 lo : Nat) : Int) ∧ (sliceBounds lo hi none n).2.1 = ((HT.sIx n n hi : Nat) : Int) ∧ (sliceBounds lo hi none n).2.2 = 1 := by
  refine ⟨?_, ?_, rfl⟩
  · cases lo with
    | none => simp [sliceBounds, HT.sIx]
    | some i =>
      simp only [sliceBounds, HT.sIx, Option.getD_none, show (1 : Int) > 0 by decide, if_true]
      by_cases h : i < 0
      · simp only [h, if_true] <;> omega
      · simp only [h, if_false] <;> omega
  · cases hi with
    | none => simp [sliceBounds, HT.sIx]
    | some i =>
      simp only [sliceBounds, HT.sIx, Option.getD_none, show (1 : Int) > 0 by decide, if_true]
      by_cases h : i < 0
      · simp only [h, if_true] <;> omega
      · simp only [h, if_false] <;> omega
theorem slicePick_cut (its : List Value) (lo hi : Option Int) : slicePick its.toArray lo hi none = ((its.drop (HT.sIx its.length 0 lo)).take (HT.sIx its.length its.length hi - HT.sIx its.length 0 lo)).toArray := by
  obtain ⟨h1, h2, h3⟩ := slice_bounds lo hi its.toArray.size
  unfold slicePick
  rw [h1, h2, h3]
  simp only [sliceRange_one, pick_run, List.size_toArray] <;> rfl
def rSlL (K : PySem.W.Frag) : V → Option Int → Option Int → Hp → VK → Prop := fun x lo hi H Q => ∃ a xs, x = .ref a ∧ SqL K H a xs ∧ ∀ p, H p = none → Q (.ref p) (upd H p (.lst (cutV xs lo hi)))
theorem sl_list : SlR X (rSlL X.K) := by
  intro pins s σ H x v vl vu lo hi sl Q I rx hs pl pu h
  obtain ⟨a, xs, rfl, hx, q⟩ := h
  cases rx
  obtain ⟨its, r, ht, hz⟩ := I.list hx
  have hlen := r.length
  refine ⟨"list", _, slot_list_getitem.lookup, ht.isList.typeIs, ?_⟩
  refine wpAny_getItem_list_slice ht.isList hs pl pu .none (by simp) ?_ (by rw [List.size_toArray] <;> omega)
  rw [slicePick_cut, ← hlen]
  refine ⟨.ref s.heap.objs.size, _, I.laid (t' := s.toks) (o := .lst (cutV xs lo hi)) (fun b ob q => Heap.get?_push_of_some _ q) (Nat.le_refl _) ?_, rfl, q _ (I.hok.fresh (Nat.le_refl _))⟩
  exact ⟨Nat.le_trans (cutV_length xs lo hi) hz, _, 0, (r.drop (HT.sIx xs.length 0 lo)).take (HT.sIx xs.length xs.length hi - HT.sIx xs.length 0 lo), Heap.get?_push_size _ rfl⟩

theorem CallR.or {f : Value} {r r' : List V → Hp → VK → Prop} (h : CallR X f r) (h' : CallR X f r') : CallR X f (fun xs H Q => r xs H Q ∨ r' xs H Q) := by
  intro pins s σ H xs us Q I rs q
  rcases q with q | q
  · exact h pins s σ H xs us Q I rs q
  · exact h' pins s σ H xs us Q I rs q
theorem call_tuple_of : CallR X (.type "tuple") (fun xs H Q => ∃ p ys, xs = [.ref p] ∧ ((SqL X.K H p ys ∧ ∀ l, H l = none → Q (.ref l) (upd H l (.tup ys))) ∨ (SqT X.K H p ys ∧ Q (.ref p) H))) := by
  intro pins s σ H xs us Q I r h
  obtain ⟨p, ys, rfl, h⟩ := h
  obtain ⟨u, rfl, rx⟩ := vals1 r
  cases rx
  rcases h with ⟨hq, q⟩ | ⟨hq, q⟩
  · obtain ⟨its, r', pl, hz⟩ := I.list hq
    have hlen := r'.length
    refine call_tuple_list pl.isList (fun h' kp => ?_) (by simp only [List.size_toArray] <;> omega)
    have I1 : Inv X pins σ H { s with heap := h' } := I.kept (t' := s.toks) kp
    have I2 : Inv X pins σ (upd H h'.objs.size (.tup ys)) { s with heap := h'.push { cls := .type "tuple", data := .seq its.toArray } } :=
      I1.laid (t' := s.toks) (fun b o e => Heap.get?_push_of_some _ e) (Nat.le_refl _) (show ObjOk X.prog X.w _ _ _ (.tup ys) from ⟨hz, its, r', IsTup.new _ _⟩)
    exact ⟨.ref h'.objs.size, _, I2, rfl, q _ (I1.hok.fresh (Nat.le_refl _))⟩
  · obtain ⟨its, r', pl, hz⟩ := I.tuple hq
    exact call_tuple_same pl ⟨.ref p, H, I, rfl, q⟩

def tyV (K : PySem.W.Frag) (T : String) (x : V) (H : Hp) : Prop := match x with
  | .str _ => T = "str"
  | .int _ => T = "int"
  | .ref p => (T = "list" ∧ ∃ xs, SqL K H p xs) ∨ (T = "tuple" ∧ ∃ o, K.lookup p = some o ∧ o.cls = .type "tuple" ∧ o.dict = none) ∨
      (T = "dict" ∧ ((∃ kvs, H p = some (.dK kvs)) ∨ ∃ kvs, H p = some (.dT kvs))) ∨ (T = "set" ∧ ∃ S n, H p = some (.set S n))
  | _ => False
theorem tyV_is {pins : List (Addr × Obj)} {σ : St} {H : Hp} {s : Shared} {T : String} {x : V} {v : Value} (I : Inv X pins σ H s) (r : RelV x v) (ty : tyV X.K T x H) :
    s.TypeIs v T ∧ ∀ a, v = .ref a → ∃ ob, s.heap.get? a = some ob ∧ ob.dict = none := by
  cases x with
  | str z =>
    obtain ⟨t, rfl⟩ := r
    cases (show T = "str" from ty)
    exact ⟨typeIs_str s z t, fun _ e => nomatch e⟩
  | int i =>
    obtain ⟨t, rfl⟩ := r
    cases (show T = "int" from ty)
    exact ⟨typeIs_int s i t, fun _ e => nomatch e⟩
  | ref p =>
    cases r
    rcases ty with ⟨rfl, xs, hq⟩ | ⟨rfl, o, hk, hc, hd⟩ | ⟨rfl, hk⟩ | ⟨rfl, S, n, hk⟩
    · obtain ⟨its, _, pl, _⟩ := I.list hq
      refine ⟨pl.isList.typeIs, fun a e => ?_⟩
      cases e
      obtain ⟨o, n, e, c, hd, _⟩ := pl
      exact ⟨o, e, hd⟩
    · refine ⟨⟨o, I.kIn p o hk, hc⟩, fun a e => ?_⟩
      cases e
      exact ⟨o, I.kIn _ o hk, hd⟩
    · have z : ∃ o, s.heap.get? p = some o ∧ o.ExactDict := by
        rcases hk with ⟨kvs, hk⟩ | ⟨kvs, hk⟩
        · obtain ⟨_, _, _, _, o, _, _, e, ex, _⟩ := I.hok p _ hk
          exact ⟨o, e, ex⟩
        · obtain ⟨_, _, _, _, o, _, _, e, ex, _⟩ := I.hok p _ hk
          exact ⟨o, e, ex⟩
      obtain ⟨o, e, ex⟩ := z
      refine ⟨⟨o, e, ex.1⟩, fun a e2 => ?_⟩
      cases e2
      exact ⟨o, e, ex.2.1⟩
    · obtain ⟨o, _, _, _, e, ex, _⟩ := I.hok p _ hk
      refine ⟨⟨o, e, ex.1⟩, fun a e2 => ?_⟩
      cases e2
      exact ⟨o, e, ex.2.1⟩
  | _ => exact False.elim ty
def tBM (K : PySem.W.Frag) (T : String) (r : V → List V → Hp → VK → Prop) (to : TE) (t : TA) : TE := fun σ H Q => to σ H fun x H1 => tyV K T x H1 ∧ t σ H1 fun xs H2 => r x xs H2 Q
variable {o e : Expr} {es : List Expr} {to : TE} {t : TA} {name : Str} {apos cpos : Pos} {T id : String} {r : V → List V → Hp → VK → Prop}
theorem pe_bm (pa : PlainAttrs T) (slot : Slot T name id) (hty : typeOf (.builtin id) = pure (.type "method_descriptor")) (hm : MtR X id r) (ho : PE X o to) (ha : PA X (e :: es) t)
    (hbase : attributeBase o name X.env (eval o X.env) = eval o X.env := by rfl)
    (hfew : ((backTo cpos (starEach (e :: es) X.env)).all (fun x => !x.1) && (backToKw cpos (keywordEach [] X.env)).all (fun x => x.1.isSome)
      && decide ((e :: es).length + ([] : List Keyword).length + (if ([] : List Keyword).isEmpty then 0 else 1) < 30)) = true := by rfl)
    (hline : (apos.endLine == cpos.line) = true := by rfl) (hs : starEach (e :: es) X.env = (false, eval e X.env) :: starEach es X.env := by rfl) (hplain : (backTo cpos (starEach es X.env)).any (·.1) = false := by rfl) :
    PE X (.Call (.Attribute o name apos) (e :: es) [] cpos) (tBM X.K T r to t) := by
  intro pins s σ H Q I h
  refine wpAny_Call_method_late hbase hfew hline rfl (thn (ho pins s σ H _ I h) fun v s1 ⟨x, H1, I1, r1, ty, q1⟩ => ?_)
  obtain ⟨h1, h2⟩ := tyV_is I1 r1 ty
  refine ⟨T, id, pa, slot, hty, h1, h2, ?_⟩
  have hA := ha cpos pins s1 σ H1 _ I1 q1
  rw [hs] at hA ⊢
  refine Calls.callWith_builtin (by show (false || (backTo cpos (starEach es X.env)).any (·.1)) = false; rw [hplain] <;> rfl) (Calls.evalArgs_plain ?_)
  exact thn hA fun us s2 ⟨vs, H2, I2, r2, q2⟩ => hm pins s2 σ H2 x vs v us Q I2 r1 r2 q2
/- xs.append(e), list.index on a module's tuple .. are MtR facts of 06m -/
end
end L2

namespace L2
open PySem PySem.Spec PyProof.Rows

def MtM (X : Cx) (id : String) (r : V → List V → Hp → VK → Prop) : Prop :=
  ∀ (pins : List (Addr × Obj)) (s : Shared) (σ : St) (H : Hp) (x : V) (xs : List V) (v : Value) (us : List Value) (Q : VK), Inv X pins σ H s → RelV x v → Vals xs us → r x xs H Q →
    wpAny (model X.prog X.w) X.A (call (.builtin id) (v :: us)) (EP X pins σ Q) X.xe s

theorem Vals.one : ∀ {x : V} {us : List Value}, Vals [x] us → ∃ u, us = [u] ∧ RelV x u
  | _, _, .cons r .nil => ⟨_, rfl, r⟩
theorem Vals.two : ∀ {x y : V} {us : List Value}, Vals [x, y] us → ∃ u v, us = [u, v] ∧ RelV x u ∧ RelV y v
  | _, _, _, .cons r (.cons q .nil) => ⟨_, _, rfl, r, q⟩
theorem Vals.zero : ∀ {us : List Value}, Vals [] us → us = []
  | _, .nil => rfl
theorem Vals.dropLast {xs : List V} {us : List Value} (h : Vals xs us) : Vals xs.dropLast us.dropLast := by
  induction h with
  | nil => exact .nil
  | cons r t ih =>
    cases t with
    | nil => exact .nil
    | cons q t' => exact .cons r ih
theorem Vals.reverse {xs : List V} {us : List Value} (h : Vals xs us) : Vals xs.reverse us.reverse := by
  induction h with
  | nil => exact .nil
  | cons r t ih => rw [List.reverse_cons, List.reverse_cons]; exact Vals.append ih (.cons r .nil)
theorem Vals.rep {xs : List V} {us : List Value} (h : Vals xs us) : ∀ k : Nat, Vals (List.replicate k xs).flatten (List.replicate k us).flatten
  | 0 => .nil
  | k + 1 => by
    rw [List.replicate_succ, List.replicate_succ, List.flatten_cons, List.flatten_cons]
    exact Vals.append h (Vals.rep h k)
section
variable {X : Cx} {pins : List (Addr × Obj)} {σ : St} {H : Hp} {s : Shared} {l b : Addr} {xs ys zs : List V}

theorem Inv.lset {its its' : List Value} {n : Nat} {f : Array Value → Array Value} {t' : Nat} (I : Inv X pins σ H s) (hH : H l = some (.lst xs))
    (e : s.heap.get? l = some { cls := .type "list", data := .seq its.toArray n }) (hf : f its.toArray = its'.toArray) (hv : Vals ys its') (hz : ys.length ≤ sizeLine) :
    Inv X pins σ (upd H l (.lst ys)) { s with heap := s.heap.update l (Obj.mapSeq f), toks := t' } := by
  have q := PySem.IsL.update e f
  rw [hf] at q
  refine I.write (x := l) (e := l) (by rw [hH]; exact trivial) (.inl rfl) (fun b' u hb hu => (Heap.get?_update_other s.heap (Obj.mapSeq f) (Ne.symm hb)).trans hu) ⟨_, q⟩ ?_
  exact ⟨hz, its', _, hv, q⟩
theorem Inv.lnew {its : List Value} {t' : Nat} (I : Inv X pins σ H s) (hv : Vals ys its) (hz : ys.length ≤ sizeLine) :
    Inv X pins σ (upd H s.heap.objs.size (.lst ys)) { s with heap := s.heap.push { cls := .type "list", data := .seq its.toArray }, toks := t' } :=
  I.laid (fun _ _ q => Heap.get?_push_of_some _ q) (Nat.le_refl _) ⟨hz, its, 0, hv, Heap.get?_push_size _ rfl⟩
theorem Inv.fresh (I : Inv X pins σ H s) : H s.heap.objs.size = none := I.hok.fresh (Nat.le_refl _)
theorem Inv.lstM (I : Inv X pins σ H s) (hH : H l = some (.lst xs)) : xs.length ≤ sizeLine ∧ ∃ (its : List Value) (n : Nat), Vals xs its ∧ xs.length = its.length ∧ s.heap.get? l = some { cls := .type "list", data := .seq its.toArray n } := by
  obtain ⟨z, its, n, r, e⟩ := I.hok l _ hH
  exact ⟨z, its, n, r, r.length, e⟩

end

section
variable {X : Cx}

def rAppend : V → List V → Hp → VK → Prop := fun x vs H Q => ∃ l xs y, x = .ref l ∧ vs = [y] ∧ H l = some (.lst xs) ∧ xs.length < sizeLine ∧ Q .non (upd H l (.lst (xs ++ [y])))
theorem mt_append : MtM X "list.append" rAppend := by
  intro pins s σ H x vs v us Q I rx rv h
  obtain ⟨l, xs, y, rfl, rfl, hH, hz, q⟩ := h
  cases rx
  obtain ⟨u, rfl, ru⟩ := rv.one
  obtain ⟨z, its, n, r, hl, e⟩ := I.lstM hH
  refine call_meets F.slot_list_append ⟨_, e, rfl⟩ F.entry_list_append (F.args_list_append_2 _ _) (PySem.list_append l its.toArray n u (by rw [List.size_toArray]; omega)) ⟨e, ?_⟩
  refine ⟨.non, _, I.lset (its' := its ++ [u]) hH e (by simp) (r.append (.cons ru .nil)) ?_, rfl, q⟩
  rw [List.length_append, List.length_singleton]
  omega

def rCat : R2 := fun x y H Q => ∃ l b xs zs, x = .ref l ∧ y = .ref b ∧ H l = some (.lst xs) ∧ H b = some (.lst zs) ∧ xs.length + zs.length ≤ sizeLine ∧ ∀ p, H p = none → Q (.ref p) (upd H p (.lst (xs ++ zs)))
theorem op_cat : OpR X (binaryOp .Add) rCat := by
  intro pins s σ H x y v u Q I rx ry h
  obtain ⟨l, b, xs, zs, rfl, rfl, hH, hB, hz, q⟩ := h
  cases rx
  cases ry
  obtain ⟨z, its, n, r, hl, e⟩ := I.lstM hH
  obtain ⟨z2, its2, n2, r2, hl2, e2⟩ := I.lstM hB
  refine PySem.P.add_list e e2 ?_ (by rw [List.size_toArray, List.size_toArray]; omega)
  have ea : its.toArray ++ its2.toArray = (its ++ its2).toArray := by simp
  rw [ea]
  exact ⟨.ref _, _, I.lnew (t' := s.toks) (r.append r2) (by rw [List.length_append]; omega), rfl, q _ I.fresh⟩
end

section
variable {prog : Program} {w : World} {A : Around} {E : Value → Shared → Prop} {s : Shared}
end

section
variable {X : Cx}
end
end L2

namespace Att
open PySem PySem.W PySem.Calls PyProof.Rows

theorem ints_of_wellAll {P : Params} {h : Heap} : ∀ (ns : List Int) (vs : List Value), WellAll P h vs (ns.map WData.int) → IntsAre vs ns := by
  intro ns
  induction ns with
  | nil =>
    intro vs w
    rw [List.map_nil] at w
    cases w
    exact .nil
  | cons n ns ih =>
    intro vs w
    rw [List.map_cons] at w
    cases w with
    | cons a b =>
      cases a
      exact .cons _ _ (ih _ b)

theorem script_of {l : OpenLaw} {n : Nat} (hn : l.most = some n) {P : Params} {h : Heap} {args : List WData} {vals : List Value}
    (hpre : l.row.toRowW.claim.pre args = true) (hwl : WellAll P h vals args) :
    ∃ a vs ns, vals = [Value.ref a] ∧ args = [WData.list (ns.map WData.int)] ∧ h.get? a = some { cls := .type "list", data := .seq vs.toArray } ∧ IntsAre vs ns ∧ ns.length ≤ n := by
  have hsh : WShape.hasAll [] args [.list .int] = true := (pre_splitW hpre).1
  have hc : l.pre.holds [] { args := args } = true := (pre_splitW hpre).2
  obtain ⟨d, r, rfl, h1, h2⟩ := hasAllW_cons hsh
  obtain rfl := hasAllW_nil h2
  obtain ⟨xs, rfl, h3⟩ := hasW_list h1
  obtain ⟨ns, rfl⟩ := items_int h3
  have hlen : ns.length ≤ n := by
    unfold OpenLaw.pre at hc
    have h4 : (WTm.not (.lt (.lit (.int (n : Int))) (.len (.arg 0)))).holds [] { args := [.list (ns.map .int)] } = true := by
      have h4 := (holds_andW hc).1
      rw [hn] at h4
      exact h4
    have h5 := condW_of h4 (w_not (w_lt w_lit (w_len_list (w_arg rfl))))
    rw [List.length_map] at h5
    refine Nat.le_of_not_lt fun q => ?_
    have q' : (n : Int) < ((ns.length : Nat) : Int) := by omega
    first
      | (rw [decide_eq_true q'] at h5; exact absurd h5 (by decide))
      | (simp at h5; omega)
  cases hwl with
  | cons w1 w2 =>
    cases w2
    cases w1 with
    | list ho hall => exact ⟨_, _, ns, rfl, rfl, ho, ints_of_wellAll ns _ hall, hlen⟩

theorem post_true (l : OpenLaw) (args : List WData) : l.row.toRowW.claim.post args (.bool true) args = true :=
  postW_of (r := l.row.toRowW) (X := (true == true))
    (show WShape.has [] (.bool true) .bool = true by first | rfl | decide | simp [WShape.has, WShape.arms, WShape.armsAll])
    (show (WTm.eq .res (.lit (.bool true))).value [] { args := args, res := some (.bool true), after := args } = some (.bool (true == true)) from w_eq_bool (w_res rfl) w_lit) rfl

theorem attach_call {l : OpenLaw} {n : Nat} {q : Program} {loose : List Str} {XP : (Str → Option Value) → Heap → Prop} {YP : World → Heap → Prop} {d : DefRec}
    (hn : l.most = some n) (hdf : d.params.defaults = [])
    (call : ∀ (w : World) (s₀ s₁ : Shared) (mg mb : Str → Option Value) (fa : Addr) (o : Obj) (pm cd doc : Value) (a : Addr) (vs : List Value) (ns : List Int),
      Ground q loose [] XP w s₀ mg mb s₁.heap → YP w s₁.heap →
      s₁.heap.get? fa = some o → o.data = .func (docDef d.name d.params d.body d.scope pm cd doc) → s₁.heap.CodeRec cd d.name → mg d.name = some (.ref fa) →
      s₁.heap.get? a = some { cls := .type "list", data := .seq vs.toArray } → IntsAre vs ns → ns.length ≤ n → s₁.gens = #[] →
      codeAny (model l.prog w) callerA (.call (.ref fa) ⟨[.ref a], []⟩) (fun r s' => r = .ok (.ret (.bool true)) ∧ OldK s₁.heap s'.heap ∧ s'.os = s₁.os ∧ AllBare s'.gens) s₁) :
    WalkO q loose XP YP l.row.toRowW d [] (fun f vs => PySem.call f vs) := by
  intro w s₀ s₁ mg mb G Y fa o pm cd doc dV kV ho hd hcd hD hmg hg args vals as hpre hlay hrd hwl hlo
  obtain rfl : dV = .none := Dflts.none hD hdf
  obtain rfl : kV = .none := Dflts.noKw hD
  obtain ⟨a, vs, ns, rfl, rfl, hobj, hints, hlen⟩ := script_of hn hpre hwl
  refine enter_call (codeAny_mono (call w s₀ s₁ mg mb fa o pm cd doc a vs ns G Y ho (fd_plain hd) hcd hmg hobj hints hlen hg) fun r s' hq => ?_)
  obtain ⟨rfl, h2, h3, h4⟩ := hq
  exact ⟨.inl ⟨.bool true, .bool true, [], rfl, fun _ => rfl, .bool true, post_true l _, fun _ => ⟨List.Pairwise.nil, fun _ hm => (nomatch hm)⟩⟩, h2, h3, h4⟩

section
variable {prog : Program} {w : World} {A : Around} {E : Value → Shared → Prop} {s : Shared} {K : Frag}

end
end Att

namespace L2
open PySem PySem.Spec PyProof.Rows

theorem vals_ints : ∀ {vs : List Value} {ns : List Int}, IntsAre vs ns → Vals (ns.map V.int) vs
  | _, _, .nil => .nil
  | _, _, .cons n t h => .cons ⟨t, rfl⟩ (vals_ints h)

def Only (H : Hp) : Prop := ∀ b, H b = none ∨ ∃ o xs, H b = some (.frz o (.lst xs))

theorem law_call {P : Program} {w : World} {K : PySem.W.Frag} {mg mb : Str → Option Value} {CX : CXT} {k : Nat} {fa a : Addr} {fd : FuncData} {x : Str} {sp : Sp} {s₁ : Shared} {vs : List Value} {ns : List Int}
    (KX : K.In s₁.heap) (hns : s₁.heap.Ns mainGlobals mg) (hb : s₁.heap.Ns builtinsNs mb) (hbb : ∀ x : Str, x ≠ "__name__" → mb x = bootBuiltins x) (hlim : s₁.heap.NoLimit) (hg : s₁.gens = #[])
    (ha : s₁.heap.get? a = some { cls := .type "list", data := .seq vs.toArray }) (hi : IntsAre vs ns) (hl : ns.length ≤ sizeLine) (hr : Room k callerA)
    (F : ∀ base : Heap, K.In base → base.Ns mainGlobals mg → FnOk P w K mg base CX k fa fd [x] sp) (hbind : ∀ (s : Shared) (u : Value), BindsTo s fd ⟨[u], []⟩ [(x, u)])
    (hsp : ∀ H : Hp, Only H → SqL K H a (ns.map V.int) → sp [.ref a] H (fun v _ => v = .bl true) fun _ _ _ => False)
    (hCX : ∀ H e s', CX [] H s₁ (fun _ _ _ => False) e s' → False) :
    codeAny (model P w) callerA (.call (.ref fa) ⟨[.ref a], []⟩) (fun r s' => r = .ok (.ret (.bool true)) ∧ OldK s₁.heap s'.heap ∧ s'.os = s₁.os ∧ AllBare s'.gens) s₁ := by
  have rv := vals_ints hi
  have lenV := hi.length
  -- from an abstract heap in which nothing but the script may be tracked
  have core : ∀ H : Hp, Only H → SqL K H a (ns.map V.int) → HOk P w H s₁.heap → (∀ b, H b ≠ none → b = a) → (H a ≠ none → K.lookup a = none) →
      codeAny (model P w) callerA (.call (.ref fa) ⟨[.ref a], []⟩) (fun r s' => r = .ok (.ret (.bool true)) ∧ OldK s₁.heap s'.heap ∧ s'.os = s₁.os ∧ AllBare s'.gens) s₁ := by
    intro H hO hS hok hA hK
    have base_of : ∀ {b : Addr} {o : Obj}, s₁.heap.get? b = some o → H b = none → (hidT s₁.heap H).get? b = some o := fun e n => hidT_get e n
    have noA : ∀ {b : Addr} {o : Obj} {es : Array DictEntry} {ep : Nat}, s₁.heap.get? b = some o → o.data = .dict es ep → H b = none := fun {b o es ep} e d => by
      cases q : H b with
      | none => rfl
      | some u =>
        have e' : b = a := hA b (by rw [q]; simp)
        subst e'
        rw [ha] at e; cases e
        have d' : Data.seq vs.toArray _ = Data.dict es ep := d
        cases d'
    have nsK : ∀ {b : Addr} {m : Str → Option Value}, s₁.heap.Ns b m → (hidT s₁.heap H).Ns b m := fun {b m} ⟨o, es, ep, e, d, r⟩ => ⟨o, es, ep, base_of e (noA e d), d, r⟩
    have hKb : K.In (hidT s₁.heap H) := fun b o e => base_of (KX b o e) (by
      cases q : H b with
      | none => rfl
      | some u =>
        have e' : b = a := hA b (by rw [q]; simp)
        subst e'
        rw [hK (by rw [q]; simp)] at e; cases e)
    have hM : Mod K mg (hidT s₁.heap H) := ⟨hKb, nsK hns, ⟨mb, nsK hb, hbb⟩, let ⟨mc, h1, h2⟩ := hlim; ⟨mc, nsK h1, h2⟩⟩
    have e0 : Env0 P w K mg (hidT s₁.heap H) callerA [] s₁ H := ⟨rfl, hM, fun b o e => of_hidT e, Nat.le_of_eq (hidT_size _ _), trivial, fun b hb => absurd (show b ∈ ([] : List Addr) from hb) (by simp), hok, .of_eq hg⟩
    refine codeAny_mono ((F _ hKb (nsK hns)).run callerA [] s₁ H ⟨[.ref a], []⟩ [.ref a] [.ref a] _ _ hr e0 (hbind s₁ (.ref a)) (.cons rfl .nil) (hsp H hO hS)) fun r s' h => ?_
    cases r with
    | error e => exact (hCX H e s' h).elim
    | ok fl =>
      cases fl with
      | next => exact False.elim h
      | brk => exact False.elim h
      | cont => exact False.elim h
      | ret u =>
        obtain ⟨v, H', os, bare, un, hok', r', q⟩ := h
        have q' : v = .bl true := q
        subst q'
        obtain rfl : u = Value.bool true := r'
        refine ⟨rfl, OldK.of_keep fun b o e => ?_, os, bare⟩
        cases q : H b with
        | none => exact un.keep b o e q (by intro z; exact absurd (show b ∈ ([] : List Addr) from z) (by simp)) (by simp)
        | some u =>
          rcases hO b with z | ⟨ob, xs, z⟩
          · rw [q] at z; cases z
          · have z2 := un.frzs b ob _ z
            obtain ⟨e1, _⟩ := hok b _ z
            obtain ⟨e2, _⟩ := hok' b _ z2
            rw [e] at e1; cases e1
            exact e2
  cases hk : K.lookup a with
  | some o =>
    -- the script is one of the module's own objects
    have e := KX a o hk
    rw [ha] at e
    cases e
    refine core (fun _ => none) (fun _ => .inl rfl) (.inr ⟨_, vs.toArray, _, hk, rfl, rfl, rfl, by rw [List.size_toArray, lenV]; exact hl, by simpa using rv⟩) (fun b u z => by have z' : (none : Option HO) = some u := z; cases z') (fun b z => absurd rfl z) fun z => absurd rfl z
  | none =>
    refine core (fun b => if b = a then some (.frz { cls := .type "list", data := .seq vs.toArray } (.lst (ns.map V.int))) else none) (fun b => ?_) (.inl (.inr ⟨{ cls := .type "list", data := .seq vs.toArray }, if_pos rfl⟩)) (fun b u z => ?_) (fun b z => ?_) fun _ => hk
    · by_cases hb : b = a
      · exact .inr ⟨_, _, if_pos hb⟩
      · exact .inl (if_neg hb)
    · by_cases hb : b = a
      · have z' := (if_pos hb).symm.trans z
        cases z'
        subst hb
        exact ⟨ha, by rw [List.length_map]; exact hl, vs, _, rv, ha⟩
      · have z' := (if_neg hb).symm.trans z
        cases z'
    · by_cases hb : b = a
      · exact hb
      · exact absurd (if_neg hb) z
end L2

namespace L2
open PySem PySem.Spec PyProof.Rows

theorem walk_of {l : PySem.W.OpenLaw} {n k : Nat} {q : Program} {loose : List Str} {XP : (Str → Option Value) → Heap → Prop} {YP : World → Heap → Prop} {d : DefRec} {K : Params → PySem.W.Frag} {CX : World → CXT} {sp : World → Sp} {x : Str}
    (hn : l.most = some n) (hn2 : n ≤ sizeLine) (hdf : d.params.defaults = []) (hr : Room k callerA)
    (hY : ∀ (w : World) (h : Heap), YP w h → (K w.params).In h)
    (F : ∀ (w : World) (mg : Str → Option Value) (fa : Addr) (h : Heap), (K w.params).In h → h.Ns mainGlobals mg → mg d.name = some (.ref fa) →
      ∃ fd : FuncData, (∀ (s : Shared) (u : Value), BindsTo s fd ⟨[u], []⟩ [(x, u)]) ∧
        ∀ base : Heap, (K w.params).In base → base.Ns mainGlobals mg → FnOk l.prog w (K w.params) mg base (CX w) k fa fd [x] (sp w))
    (hsp : ∀ (w : World) (H : Hp) (a : Addr) (ns : List Int), ns.length ≤ n → Only H → SqL (K w.params) H a (ns.map V.int) → sp w [.ref a] H (fun v _ => v = .bl true) fun _ _ _ => False)
    (hCX : ∀ (w : World) (H : Hp) (s : Shared) (e : Value) (s' : Shared), CX w [] H s (fun _ _ _ => False) e s' → False) :
    PySem.W.WalkO q loose XP YP l.row.toRowW d [] (fun f vs => PySem.call f vs) := by
  refine Att.attach_call hn hdf fun w s₀ s₁ mg mb fa o pm cd doc a vs ns G Y ho hd hcd hmg hobj hints hlen hg => ?_
  have KX := hY w _ Y
  obtain ⟨fd, hb, hF⟩ := F w mg fa _ KX G.T.g hmg
  exact law_call KX G.T.g G.T.b G.T.builtins G.T.nolimit hg hobj hints (Nat.le_trans hlen hn2) hr hF hb (fun H hO hS => hsp w H a ns hlen hO hS) fun H e s' => hCX w H s₁ e s'
end L2

namespace L2
open PySem PySem.Spec PyProof.Rows

def inClass (s : Stmt) (j : Nat) : Stmt := match s with
  | .ClassDef _ _ _ body _ _ _ _ _ _ _ => body.getD j (.Pass ⟨0, 0, 0, 0⟩)
  | _ => .Pass ⟨0, 0, 0, 0⟩
def defArgs (s : Stmt) : Arguments := match s with
  | .FunctionDef _ a _ _ _ _ _ _ _ _ => a
  | _ => { posonlyargs := [], args := [], vararg := none, kwonlyargs := [], kw_defaults := [], kwarg := none, defaults := [] }
def defBody (s : Stmt) : List Stmt := match s with
  | .FunctionDef _ _ b _ _ _ _ _ _ _ => b
  | _ => []
def defScope (s : Stmt) : Scope := match s with
  | .FunctionDef _ _ _ _ _ _ sc _ _ _ => sc
  | _ => { kind := .function, names := [], isGenerator := false, isCoroutine := false }

abbrev CX0 : CXT := fun _ _ _ _ _ _ => False
abbrev E0 : XK := fun _ _ _ => False
theorem pass0 {X : Cx} : Passes CX0 X E0 := fun _ _ _ _ _ _ _ h => h.elim

structure Fun (K : PySem.W.Frag) (x qual : Str) (st : Stmt) (f : Addr) (fd : FuncData) : Prop where
  ex : ∃ (oc : Value) (od : Option Addr) (kV doc pm : Value) (an : Option Addr) (cdv ct : Value) (osl : Array (Option Value)),
    fd = PySem.W.fnOf x qual (defArgs st) (defBody st) (defScope st) .none kV doc pm an cdv ct ∧ K.lookup f = some ⟨oc, od, .func fd, osl⟩ ∧ PySem.W.codeIn K cdv qual = true
  kp : PySem.W.keepIn K (.ref f) = true
section
variable {P : Program} {w : World} {K : PySem.W.Frag} {mg : Str → Option Value} {base : Heap}
theorem Fun.ok {x qual : Str} {st : Stmt} {f : Addr} {fd : FuncData} {N ps : List Str} {k : Nat} {sp : Sp} (F : Fun K x qual st f fd) (S : FnScope N ps (defScope st)) (len : ∀ vs H Q E, sp vs H Q E → vs.length = ps.length)
    (hbody : ∀ (cdv : Value) (A : Around) (outer : List Env) (s : Shared) (H : Hp) (vs : List V) (Q : VK) (E : XK), Room k (A.deeper (envOfC qual (defScope st) s.heap.objs.size f cdv)) → sp vs H Q E →
      ∃ t, PSs (cxOf CX0 P w K mg base N qual (defScope st) f cdv A outer s H E).nox (defBody st) t ∧ t { nx := fun _ H' => Q .non H', rt := Q } (start N vs) H) : FnOk P w K mg base CX0 (k + 1) f fd ps sp := by
  obtain ⟨oc, od, kV, doc, pm, an, cdv, ct, osl, rfl, lk, hcd⟩ := F.ex
  refine fn_of lk hcd S len fun A outer s H vs Q E hr hsp => ?_
  obtain ⟨t, h, q⟩ := hbody cdv A outer s H vs Q E hr hsp
  exact ⟨t, h.nox, q⟩
theorem Fun.binds {x qual : Str} {st : Stmt} {f : Addr} {fd : FuncData} {ps : List Str} (F : Fun K x qual st f fd)
    (h : ∀ (kV doc pm : Value) (an : Option Addr) (cdv ct : Value) (us : List Value), us.length = ps.length → bindArgs (PySem.W.fnOf x qual (defArgs st) (defBody st) (defScope st) .none kV doc pm an cdv ct) ⟨us, []⟩ = pure (ps.zip us)) : Binds K fd ps [] := by
  obtain ⟨oc, od, kV, doc, pm, an, cdv, ct, osl, rfl, lk, hcd⟩ := F.ex
  exact .all (h kV doc pm an cdv ct)
theorem fun_mk {x qual : Str} {st : Stmt} {f : Addr} {oc : Value} {od an : Option Addr} {osl : Array (Option Value)} {kV doc pm cdv ct : Value} (l : K.lookup f = some ⟨oc, od, .func (PySem.W.fnOf x qual (defArgs st) (defBody st) (defScope st) .none kV doc pm an cdv ct), osl⟩)
    (c : PySem.W.codeIn K cdv qual = true) (k : PySem.W.keepIn K (.ref f) = true) : Fun K x qual st f (PySem.W.fnOf x qual (defArgs st) (defBody st) (defScope st) .none kV doc pm an cdv ct) := ⟨⟨oc, od, kV, doc, pm, an, cdv, ct, osl, rfl, l, c⟩, k⟩
end
theorem small1000 {n : Nat} (h : n ≤ 1000) : n < sizeLine := Nat.lt_of_le_of_lt h (by decide)

section
variable {X : Cx}
theorem pv (i : Nat) {x : Str} {pos : Pos} (hN : X.N[i]? = some x := by rfl) (hv : Vis X.env.scope x := by first | exact Or.inl rfl | exact Or.inr (Or.inl rfl) | exact Or.inr (Or.inr rfl)) (hd : (x == ("__debug__" : Str)) = false := by decide)
    (hcd : (x == ("__classdict__" : Str)) = false := by decide) : PE X (.Name x pos) (tVar i) := pe_var hN hv hd hcd
end

def Same (H H' : Hp) : Prop := ∀ b o, H b = some o → H' b = some o
theorem Same.refl (H : Hp) : Same H H := fun _ _ h => h
theorem Same.trans {H H1 H2 : Hp} (a : Same H H1) (b : Same H1 H2) : Same H H2 := fun c o h => b c o (a c o h)
theorem Same.free {H H' : Hp} (e : Same H H') {l : Addr} (h : H' l = Option.none) : H l = Option.none := by
  cases q : H l with
  | none => rfl
  | some o =>
    rw [e l o q] at h
    cases h
theorem Same.seq {K : PySem.W.Frag} {H H' : Hp} {a : Addr} {xs : List V} (e : Same H H') (h : SqL K H a xs) : SqL K H' a xs := by
  rcases h with (h | ⟨o, h⟩) | h
  · exact .inl (.inl (e _ _ h))
  · exact .inl (.inr ⟨o, e _ _ h⟩)
  · exact .inr h

end L2

namespace L2
open PySem PySem.Spec PyProof.Rows

section
variable {κ : Type} [DecidableEq κ]
def valV (kvs : List (κ × V)) (k : κ) : Option V := (kvs.find? fun kv => decide (kv.1 = k)).map (·.2)
def putK (kvs : List (κ × V)) (k : κ) (v : V) : List (κ × V) :=
  if (kvs.any fun kv => decide (kv.1 = k)) = true then kvs.map (fun kv => if kv.1 = k then (kv.1, v) else kv) else kvs ++ [(k, v)]
def dropK (kvs : List (κ × V)) (k : κ) : List (κ × V) := kvs.filter fun kv => decide (kv.1 ≠ k)

theorem valV_pos {p : κ × V} {r : List (κ × V)} {k : κ} (e : p.1 = k) : valV (p :: r) k = some p.2 := by simp [valV, List.find?_cons, e]
theorem valV_neg {p : κ × V} {r : List (κ × V)} {k : κ} (e : ¬ p.1 = k) : valV (p :: r) k = valV r k := by simp [valV, List.find?_cons, e]
theorem valV_any (k : κ) : ∀ kvs : List (κ × V), (kvs.any fun kv => decide (kv.1 = k)) = (valV kvs k).isSome
  | [] => rfl
  | p :: r => by
    rw [List.any_cons]
    by_cases e : p.1 = k
    · simp only [valV_pos e, decide_eq_true e, Bool.true_or, Option.isSome_some]
    · rw [valV_neg e, decide_eq_false e, Bool.false_or]; exact valV_any k r
theorem RelO.isSome_eq {o : Option V} {u : Option Value} (r : RelO o u) : o.isSome = u.isSome := by
  cases o with
  | none => cases u with
    | none => rfl
    | some _ => exact (show False from r).elim
  | some _ => cases u with
    | none => exact (show False from r).elim
    | some _ => rfl
theorem RelO.getD {o : Option V} {u : Option Value} {d : V} {d' : Value} (r : RelO o u) (rd : RelV d d') : RelV (o.getD d) (u.getD d') := by
  cases o with
  | none => cases u with
    | none => exact rd
    | some _ => exact (show False from r).elim
  | some _ => cases u with
    | none => exact (show False from r).elim
    | some _ => exact r

theorem KV.val {kvs : List (κ × V)} {vs : List (κ × Value)} (r : KV kvs vs) (k : κ) : RelO (valV kvs k) (valueAt vs k) := by
  unfold KV at r
  induction r with
  | nil => exact True.intro
  | @cons p q ps qs h t ih =>
    obtain ⟨h1, h2⟩ := h
    by_cases e : p.1 = k
    · have e' : q.1 = k := h1.symm.trans e
      have b : valueAt (q :: qs) k = some q.2 := by simp [valueAt, List.find?_cons, e']
      rw [valV_pos e, b]; exact h2
    · have e' : ¬ q.1 = k := fun z => e (h1.trans z)
      have b : valueAt (q :: qs) k = valueAt qs k := by simp [valueAt, List.find?_cons, e']
      rw [valV_neg e, b]; exact ih
theorem KV.any {kvs : List (κ × V)} {vs : List (κ × Value)} (r : KV kvs vs) (k : κ) : (kvs.any fun kv => decide (kv.1 = k)) = vs.any fun kv => decide (kv.1 = k) := by
  unfold KV at r
  induction r with
  | nil => rfl
  | cons h t ih => rw [List.any_cons, List.any_cons, ih, h.1]
theorem KV.repl {kvs : List (κ × V)} {vs : List (κ × Value)} (r : KV kvs vs) (k : κ) {y : V} {u : Value} (ry : RelV y u) :
    KV (kvs.map fun kv => if kv.1 = k then (kv.1, y) else kv) (vs.map fun kv => if kv.1 = k then (kv.1, u) else kv) := by
  unfold KV at r ⊢
  induction r with
  | nil => exact .nil
  | @cons p q ps qs h t ih =>
    rw [List.map_cons, List.map_cons]
    refine .cons ?_ ih
    obtain ⟨h1, h2⟩ := h
    by_cases e : p.1 = k
    · rw [if_pos e, if_pos (h1.symm.trans e)]; exact ⟨h1, ry⟩
    · rw [if_neg e, if_neg (fun z => e (h1.trans z))]; exact ⟨h1, h2⟩
theorem KV.put {kvs : List (κ × V)} {vs : List (κ × Value)} (r : KV kvs vs) (k : κ) {y : V} {u : Value} (ry : RelV y u) : KV (putK kvs k y) (stored vs k u) := by
  unfold putK stored
  rw [r.any k]
  by_cases e : (vs.any fun kv => decide (kv.1 = k)) = true
  · rw [if_pos e, if_pos e]; exact r.repl k ry
  · rw [if_neg e, if_neg e]; exact Paired.snoc r ⟨rfl, ry⟩
theorem KV.drop {kvs : List (κ × V)} {vs : List (κ × Value)} (r : KV kvs vs) (k : κ) : KV (dropK kvs k) (without vs k) := by
  unfold KV at r ⊢
  unfold dropK without
  induction r with
  | nil => exact .nil
  | @cons p q ps qs h t ih =>
    obtain ⟨h1, h2⟩ := h
    rw [List.filter_cons, List.filter_cons]
    by_cases e : p.1 = k
    · have a : ¬ decide (p.1 ≠ k) = true := by simp [e]
      have b : ¬ decide (q.1 ≠ k) = true := by simp [h1.symm.trans e]
      rw [if_neg a, if_neg b]; exact ih
    · have e' : ¬ q.1 = k := fun z => e (h1.trans z)
      have a : decide (p.1 ≠ k) = true := by simp [e]
      have b : decide (q.1 ≠ k) = true := by simp [e']
      rw [if_pos a, if_pos b]; exact .cons ⟨h1, h2⟩ ih
theorem KV.keys {kvs : List (κ × V)} {vs : List (κ × Value)} (r : KV kvs vs) : kvs.map (·.1) = vs.map (·.1) := by
  unfold KV at r
  induction r with
  | nil => rfl
  | cons h t ih => rw [List.map_cons, List.map_cons, ih, h.1]
theorem KV.length {kvs : List (κ × V)} {vs : List (κ × Value)} (r : KV kvs vs) : kvs.length = vs.length := Paired.length r
end

abbrev KT (H : Hp) : List (List Key × V) → List (List Key × Addr × Value) → Prop := Paired fun p q => p.1 = q.1 ∧ H q.2.1 = some (.tup (p.1.map kV)) ∧ RelV p.2 q.2.2
theorem KT.val {H : Hp} {kvs : List (List Key × V)} {xs : List (List Key × Addr × Value)} (r : KT H kvs xs) (k : List Key) : RelO (valV kvs k) ((atKey xs k).map (·.2)) := by
  induction r with
  | nil => exact True.intro
  | @cons p q ps qs h t ih =>
    obtain ⟨h1, _, h2⟩ := h
    by_cases e : p.1 = k
    · have e' : q.1 = k := h1.symm.trans e
      have b : atKey (q :: qs) k = some q.2 := by simp [atKey, List.find?_cons, e']
      rw [valV_pos e, b]; exact h2
    · have e' : ¬ q.1 = k := fun z => e (h1.trans z)
      have b : atKey (q :: qs) k = atKey qs k := by simp [atKey, List.find?_cons, e']
      rw [valV_neg e, b]; exact ih
theorem KT.repl {H : Hp} {kvs : List (List Key × V)} {xs : List (List Key × Addr × Value)} (r : KT H kvs xs) (k : List Key) {y : V} {u : Value} (ry : RelV y u) :
    KT H (kvs.map fun kv => if kv.1 = k then (kv.1, y) else kv) (xs.map (putAt k u)) := by
  induction r with
  | nil => exact .nil
  | @cons p q ps qs h t ih =>
    rw [List.map_cons, List.map_cons]
    refine .cons ?_ ih
    obtain ⟨h1, h2, h3⟩ := h
    unfold putAt
    by_cases e : p.1 = k
    · rw [if_pos e, if_pos (h1.symm.trans e)]; exact ⟨h1, h2, ry⟩
    · rw [if_neg e, if_neg (fun z => e (h1.trans z))]; exact ⟨h1, h2, h3⟩
theorem KT.put {H : Hp} {kvs : List (List Key × V)} {xs : List (List Key × Addr × Value)} (r : KT H kvs xs) (k : List Key) {b : Addr} {y : V} {u : Value} (hb : H b = some (.tup (k.map kV))) (ry : RelV y u) :
    KT H (putK kvs k y) (storedH xs k b u) := by
  have e : (kvs.any fun kv => decide (kv.1 = k)) = (atKey xs k).isSome := by
    rw [valV_any, (r.val k).isSome_eq, Option.isSome_map]
  unfold putK storedH
  rw [e]
  by_cases q : (atKey xs k).isSome = true
  · rw [if_pos q, if_pos q]; exact r.repl k ry
  · rw [if_neg q, if_neg q]; exact Paired.snoc r ⟨rfl, hb, ry⟩
theorem KT.keeps {H H' : Hp} {kvs : List (List Key × V)} {xs : List (List Key × Addr × Value)} (r : KT H kvs xs) (ht : ∀ b ys, H b = some (.tup ys) → H' b = some (.tup ys)) : KT H' kvs xs :=
  Paired.mapP r fun _ _ z => ⟨z.1, ht _ _ z.2.1, z.2.2⟩

section
variable {P : Program} {w : World} {H : Hp} {h : Heap} {a : Addr}
end

def DGet (H : Hp) (a : Addr) (y : V) (r : Option V) : Prop :=
  (∃ kvs k, Rd H a (.dK kvs) ∧ y = kV k ∧ r = valV kvs k) ∨ ∃ kvs k b, Rd H a (.dT kvs) ∧ y = .ref b ∧ H b = some (.tup (k.map kV)) ∧ r = valV kvs k
def DPut (H : Hp) (a : Addr) (y v : V) (H' : Hp) : Prop :=
  (∃ kvs k, H a = some (.dK kvs) ∧ y = kV k ∧ kvs.length < sizeLine ∧ H' = upd H a (.dK (putK kvs k v))) ∨
  ∃ kvs k b, H a = some (.dT kvs) ∧ y = .ref b ∧ H b = some (.tup (k.map kV)) ∧ kvs.length < sizeLine ∧ H' = upd H a (.dT (putK kvs k v))
theorem DGet.k {H : Hp} {a : Addr} {kvs : List (Key × V)} {k : Key} (e : H a = some (.dK kvs)) : DGet H a (kV k) (valV kvs k) := .inl ⟨kvs, k, .inl e, rfl, rfl⟩
theorem DGet.t {H : Hp} {a b : Addr} {kvs : List (List Key × V)} {k : List Key} (e : H a = some (.dT kvs)) (eb : H b = some (.tup (k.map kV))) : DGet H a (.ref b) (valV kvs k) := .inr ⟨kvs, k, b, .inl e, rfl, eb, rfl⟩
theorem DPut.k {H : Hp} {a : Addr} {kvs : List (Key × V)} {k : Key} {v : V} (e : H a = some (.dK kvs)) (hl : kvs.length < sizeLine) : DPut H a (kV k) v (upd H a (.dK (putK kvs k v))) := .inl ⟨kvs, k, e, rfl, hl, rfl⟩
theorem DPut.t {H : Hp} {a b : Addr} {kvs : List (List Key × V)} {k : List Key} {v : V} (e : H a = some (.dT kvs)) (eb : H b = some (.tup (k.map kV))) (hl : kvs.length < sizeLine) :
    DPut H a (.ref b) v (upd H a (.dT (putK kvs k v))) := .inr ⟨kvs, k, b, e, rfl, eb, hl, rfl⟩

section
variable {X : Cx} {pins : List (Addr × Obj)} {σ : St} {H : Hp} {s : Shared} {a : Addr} {y v : V} {u r : Value} {o : Option V} {A : Around} {E : Value → Shared → Prop}

end

section
variable {X : Cx} {pins : List (Addr × Obj)} {σ : St} {H : Hp} {s : Shared} {a : Addr} {kvs : List (Key × V)} {k : Key} {u : Value} {A : Around} {E : Value → Shared → Prop}
end

section
variable {X : Cx} {o i e value : Expr} {pos pos' tpos : Pos} {td ty tv : TE}
end

section
variable {X : Cx} {pos : Pos}
end

structure M1 (X : Cx) (o : Expr) (m : Str) (apos : Pos) (e : Expr) (cpos : Pos) : Prop where
  base : attributeBase o m X.env (eval o X.env) = eval o X.env
  few : ((backTo cpos (starEach [e] X.env)).all (fun x => !x.1) && (backToKw cpos (keywordEach [] X.env)).all (fun x => x.1.isSome)
    && decide (([e] : List Expr).length + ([] : List Keyword).length + (if ([] : List Keyword).isEmpty then 0 else 1) < 30)) = true
  line : (apos.endLine == cpos.line) = true
  trees : backTo cpos (starEach [e] X.env) = [(false, eval e X.env)]
structure M2 (X : Cx) (o : Expr) (m : Str) (apos : Pos) (e f : Expr) (cpos : Pos) : Prop where
  base : attributeBase o m X.env (eval o X.env) = eval o X.env
  few : ((backTo cpos (starEach [e, f] X.env)).all (fun x => !x.1) && (backToKw cpos (keywordEach [] X.env)).all (fun x => x.1.isSome)
    && decide (([e, f] : List Expr).length + ([] : List Keyword).length + (if ([] : List Keyword).isEmpty then 0 else 1) < 30)) = true
  line : (apos.endLine == cpos.line) = true
  trees : backTo cpos (starEach [e, f] X.env) = [(false, eval e X.env), (false, eval f X.env)]

section
variable {X : Cx} {pins : List (Addr × Obj)} {σ : St} {H : Hp} {s : Shared} {a : Addr} {y d : V} {u r : Value} {o : Option V} {A : Around} {E : Value → Shared → Prop}
end

section
variable {X : Cx} {o e f : Expr} {apos cpos : Pos} {td ty tx : TE}
end

section
variable {X : Cx} {pins : List (Addr × Obj)} {σ : St} {H : Hp} {s : Shared} {a : Addr} {kvs : List (Key × V)} {A : Around} {E : Value → Shared → Prop}
end

section
variable {X : Cx} {pins : List (Addr × Obj)} {σ : St} {H : Hp} {s : Shared} {a : Addr} {y : V} {u : Value} {A : Around} {E : Value → Shared → Prop}
end
end L2
set_option maxHeartbeats 4000000
namespace L2
open PySem PySem.Spec PyProof.Rows

def PIfs (X : Cx) (ifs : List Expr) (t : TT) : Prop :=
  ∀ (pins : List (Addr × Obj)) (s : Shared) (σ : St) (H : Hp) (Q : Bool → Hp → Prop), Inv X pins σ H s → t σ H Q →
    wpAny (model X.prog X.w) X.A (forIn ifs true fun c r => if r = true then do let ok ← isTrue c X.env (eval c X.env); pure (ForInStep.yield ok) else pure (ForInStep.yield r)) (TP X pins σ Q) X.xe s
def tYes : TT := fun _ H Q => Q true H
theorem pifs_nil {X : Cx} : PIfs X [] tYes := fun _ _ _ H _ I h => wpAny_tests_nil ⟨H, I, h⟩
def blk (X : Cx) (sc : Scope) (cl : List (Str × Addr)) (N' : List Str) (C : Addr) (s : Shared) (H : Hp) (fp : List Addr) : Cx where
  prog := X.prog
  w := X.w
  K := X.K
  mg := X.mg
  base := X.base
  A := X.A
  N := N'
  s₀ := s
  H₀ := H
  env := compEnvC sc cl C X.env
  outer := X.stack
  stack := X.stack
  ex := fp
  fn := fun _ => false
  calm := X.calm
  pn := []
  xe := fun _ _ => False

def impS (imp : List (Option Nat)) (σ : St) : St := imp.map fun o => match o with
  | none => none
  | some k => (σ[k]?).join

structure Blk (X : Cx) (sc : Scope) (cl : List (Str × Addr)) (N' : List Str) (imp : List (Option Nat)) : Prop where
  clos : closureFor sc X.env = pure cl
  kind : sc.kind = .function
  nocell : ∀ y ∈ sc.names, y.2 ≠ .cell
  names : ∀ y ∈ sc.names, y.2 = .local → sc.names.lookup y.1 = some .local
  sub : ∀ p ∈ cl, X.env.cells.lookup p.1 = some p.2
  has : ∀ y ∈ (relabel sc X.env).names, (y.2 = .cell ∨ y.2 = .free) → (cl.lookup y.1).isSome = true
  len : imp.length = N'.length
  im : ∀ p ∈ imp.zip N', ∀ k, p.1 = some k → X.N[k]? = some p.2 ∧ (X.env.scope.names.lookup p.2 = some .cell ∨ X.env.scope.names.lookup p.2 = some .free) ∧ ((relabel sc X.env).names.lookup p.2 = some .cell ∨ (relabel sc X.env).names.lookup p.2 = some .free)

def tComp (wi : TI) (g : TG) (tt : TT) (te : TE) (imp : List (Option Nat)) : TE := fun σ H Q => wi σ H fun J H1 => ∃ W : Nat → Nat → List V → St → Hp → Prop, (∃ m, W 0 m [] (impS imp σ) H1) ∧ ∀ i m ys σ' H', W i m ys σ' H' →
  (J.stop i H' ∧ ys.length ≤ sizeLine ∧ ∀ D, H' D = none → Q (.ref D) (upd H' D (.lst ys))) ∨
  (J.go i H' ∧ ys.length < sizeLine ∧ ∃ N : List V → St → Hp → Prop, (∀ ys' σ2 H2, N ys' σ2 H2 → ∃ m', m' < m ∧ W (i + 1) m' ys' σ2 H2) ∧
    ∀ x H2, J.yld i H' x H2 → g x σ' H2 fun σ2 H3 => tt σ2 H3 fun b H4 => if b = true then te σ2 H4 fun y H5 => N (ys ++ [y]) σ2 H5 else N ys σ2 H4)

section
variable {P : Program} {w : World} {H : Hp} {h h' : Heap}
theorem HOk.sameBut {C : Addr} (x : HOk P w H h) (hC : H C = none) (k : ∀ b o, b ≠ C → h.get? b = some o → h'.get? b = some o) : HOk P w H h' := fun a o e =>
  (x a o e).stay (fun b u hb q => k b u (by
    rintro rfl
    rcases hb with z | z
    · rw [← z, hC] at e; cases e
    · rw [hC] at z; cases z) q) (fun _ q => q) fun _ _ q => q
theorem HOk.track {D : Addr} {o : HO} (x : HOk P w H h) (hD : H D = none) (new : ObjOk P w (upd H D o) h D o) : HOk P w (upd H D o) h := fun b u e => by
  by_cases hb : b = D
  · subst hb; rw [upd_same] at e; cases e; exact new
  · rw [upd_ne hb] at e
    exact (x b u e).stay (fun c v _ q => q) (fun c q => by rw [upd_ne (ne_of_none q hD)]; exact q) fun c xs q => by rw [upd_ne (ne_of_none q hD)]; exact q
end

theorem lookup_mem {α : Type} {x : Str} {c : α} : ∀ {l : List (Str × α)}, l.lookup x = some c → (x, c) ∈ l := fun h => PySem.mem_of_lookup h

section
variable {X : Cx} {tg iter elt : Expr} {ifs : List Expr} {sc : Scope} {cl : List (Str × Addr)} {N' : List Str} {imp : List (Option Nat)} {pos : Pos} {wi : TI} {g : TG} {tt : TT} {te : TE}

theorem Blk.subL (B : Blk X sc cl N' imp) : ∀ x c, cl.lookup x = some c → X.env.cells.lookup x = some c := fun x c e => B.sub (x, c) (lookup_mem e)

theorem blk_inv {pins : List (Addr × Obj)} {σ : St} {H : Hp} {s : Shared} {fp : List Addr} {h₁ : Heap} {C : Addr} (B : Blk X sc cl N' imp) (I : Inv X pins σ H s) (hf : ∀ b ∈ fp, FpOk X pins H b) (hfo : ∀ b ∈ fp, ∃ o, s.heap.get? b = some o)
    (hC : s.heap.objs.size < C) (old : ∀ b o, s.heap.get? b = some o → h₁.get? b = some o) (ns : h₁.Ns C fun _ => none) :
    Inv (blk X sc cl N' C s H fp) [] (impS imp σ) H { s with heap := h₁, toks := s.toks } := by
  have hlt : ∀ b ∈ fp, b < s.heap.objs.size := fun b hb => let ⟨_, e⟩ := hfo b hb; Heap.lt_size e
  have clt : ∀ x c, X.env.cells.lookup x = some c → c < s.heap.objs.size := fun x c e => let ⟨_, q⟩ := I.cell x c e; q.lt
  have ok : (blk X sc cl N' C s H fp).Ok := {
    mod := I.ok.mod
    kind := B.kind
    glob := I.ok.glob
    blt := I.ok.blt
    above := Nat.le_of_lt hC
    inj := fun x y c h1 h2 => I.ok.inj x y c (B.subL x c h1) (B.subL y c h2)
    has := fun x hx => by
      have hx' : (relabel sc X.env).names.lookup x = some .cell ∨ (relabel sc X.env).names.lookup x = some .free := hx
      have : (cl.lookup x).isSome = true := by
        rcases hx' with z | z
        · exact B.has (x, .cell) (lookup_mem z) (.inl rfl)
        · exact B.has (x, .free) (lookup_mem z) (.inr rfl)
      exact Option.isSome_iff_exists.mp this
    cab := fun x c z => nomatch z
    hd := I.ok.hd
    frames := I.ok.frames
    stk := .inl rfl
    exf := fun b hb => ⟨Nat.ne_of_lt (Nat.lt_trans (hlt b hb) hC), fun x c e => (hf b hb).2.2.2.2.1 x c (B.subL x c e)⟩
    bs := I.bs
    bsz := Nat.le_trans I.ok.bsz I.sz
    noex := fun b o e hb => by
      rcases (hf b hb).2.2.2.1 with z | z
      · exact I.ok.noex b o e z
      · exact absurd (Nat.lt_of_lt_of_le (Heap.lt_size e) (Nat.le_trans I.ok.bsz z)) (Nat.lt_irrefl _)
    exfs := fun b hb z => by
      rcases List.mem_cons.mp (I.stkSub b z) with q | q
      · exact (hf b hb).2.1 q
      · exact (hf b hb).2.2.1 q
    funs := I.stack
    frf := I.stkFree }
  refine ⟨ok, rfl, I.bare, Un.kept old, ⟨_, ns, fun i x v h1 h2 h3 => ?_⟩, fun x c e => ?_, I.hok.fresh (Nat.le_of_lt hC), fun x c e => I.freeC x c (B.subL x c e), fun p hp => absurd (show p ∈ ([] : List (Addr × Obj)) from hp) (by simp), I.hok.kept old, ?_⟩
  · have h1' : N'[i]? = some x := h1
    have h2' : (imp.map fun o => match o with | none => none | some k => (σ[k]?).join)[i]? = some (some v) := h2
    rw [List.getElem?_map] at h2'
    cases e : imp[i]? with
    | none => rw [e] at h2'; cases h2'
    | some q =>
      rw [e] at h2'
      cases q with
      | none => cases h2'
      | some k =>
        have h2'' : (σ[k]?).join = some v := Option.some.inj h2'
        have hk : σ[k]? = some (some v) := by
          cases e' : σ[k]? with
          | none => rw [e'] at h2''; cases h2''
          | some z => rw [e'] at h2''; cases z with
            | none => cases h2''
            | some z => cases h2''; rfl
        have hm : (some k, x) ∈ imp.zip N' := by
          refine List.mem_of_getElem? (i := i) ?_
          rw [List.getElem?_zip_eq_some]
          exact ⟨e, h1'⟩
        obtain ⟨b1, b2, b3⟩ := B.im _ hm k rfl
        obtain ⟨m, hn, hl⟩ := I.loc
        obtain ⟨u, r, l⟩ := hl k x v b1 hk (b2.elim (fun z => .inr (.inl z)) fun z => .inr (.inr z))
        refine ⟨u, r, .inr ⟨b3, ?_⟩⟩
        have hc : ∃ c, X.env.cells.lookup x = some c ∧ s.heap.IsCell c (some u) := by
          rcases l with ⟨z, _⟩ | ⟨_, z⟩
          · have z' : X.env.scope.names.lookup x = some .local := z
            rcases b2 with y | y <;> rw [y] at z' <;> cases z'
          · exact z
        obtain ⟨c, hc, oc, ho, hd⟩ := hc
        obtain ⟨c', hc'⟩ := ok.has x b3
        have e2 := B.subL x c' hc'
        rw [hc] at e2; cases e2
        exact ⟨c, hc', oc, old c oc ho, hd⟩
  · obtain ⟨v, o, ho, hd⟩ := I.cell x c (B.subL x c e)
    exact ⟨v, o, old c o ho, hd⟩
  · show (imp.map _).length = N'.length
    rw [List.length_map]; exact B.len

theorem blk_end {pins pn : List (Addr × Obj)} {σ σ' : St} {H2 H' : Hp} {s2 s4 : Shared} {fp : List Addr} {C D : Addr} {Cs : Addr} {ys : List V} {its : List Value} {k : Nat} {h' : Heap} (I2 : Inv X pins σ H2 s2) (f2 : ∀ b ∈ fp, FpOk X pins H2 b)
    (I5 : Inv (blk X sc cl N' C s2 H2 fp) pn σ' H' s4) (hC : s2.heap.objs.size < C) (hD : H' D = none) (hDs : s2.heap.objs.size ≤ D) (hDC : D ≠ C) (eD : s4.heap.get? D = some { cls := .type "list", data := .seq its.toArray k })
    (rv : Vals ys its) (hz : ys.length ≤ sizeLine) (hsb : Heap.SameBut C s4.heap h') : Inv X pins σ (upd H' D (.lst ys)) { s4 with heap := h' } := by
  have U : Un (frs X.stack) fp H2 H' s2.heap s4.heap := I5.base
  have kk : ∀ b o, b ≠ C → s4.heap.get? b = some o → h'.get? b = some o := hsb.extBut
  have hC' : H' C = none := I5.free
  have ok1 : HOk X.prog X.w H' h' := HOk.sameBut (C := C) I5.hok hC' kk
  have ok2 : HOk X.prog X.w (upd H' D (.lst ys)) h' := ok1.track hD ⟨hz, its, k, rv, kk _ _ hDC eD⟩
  have lt : ∀ b o, s2.heap.get? b = some o → b ≠ C ∧ b ≠ D := fun b o e => ⟨Nat.ne_of_lt (Nat.lt_trans (Heap.lt_size e) hC), Nat.ne_of_lt (Nat.lt_of_lt_of_le (Heap.lt_size e) hDs)⟩
  refine I2.call' (s' := { s4 with heap := h' }) (ch := fp) I5.os ⟨fun b o e n hb hx => kk b o (lt b o e).1 (U.keep b o e n hb hx), fun b o e n hb hx => ?_, fun b o e n hx => ?_, fun b o e hx => ?_, fun b xs e => ?_, fun b o u e => ?_, fun b ps e => ?_⟩ ok2 I5.bare
    fun b hb => ⟨(f2 b hb).2.2.2.1, (f2 b hb).2.1, (f2 b hb).2.2.2.2.1, (f2 b hb).2.2.2.2.2⟩
  · obtain ⟨sl, q⟩ := U.slot b o e n hb hx
    exact ⟨sl, kk b _ (lt b o e).1 q⟩
  · rw [upd_ne (lt b o e).2]; exact U.free b o e n hx
  · obtain ⟨o', q⟩ := U.there b o e hx
    exact ⟨o', kk b o' (lt b o e).1 q⟩
  · have q := U.tups b xs e
    rw [upd_ne (ne_of_none q hD)]; exact q
  · have q := U.frzs b o u e
    rw [upd_ne (ne_of_none q hD)]; exact q
  · obtain ⟨more, q⟩ := U.tbls b ps e
    exact ⟨more, by rw [upd_ne (ne_of_none q hD)]; exact q⟩

def CompK (g : TG) (tt : TT) (te : TE) (imp : List (Option Nat)) (σ : St) (Q : VK) (J : It) (H1 : Hp) : Prop := ∃ W : Nat → Nat → List V → St → Hp → Prop, (∃ m, W 0 m [] (impS imp σ) H1) ∧ ∀ i m ys σ' H', W i m ys σ' H' →
  (J.stop i H' ∧ ys.length ≤ sizeLine ∧ ∀ D, H' D = none → Q (.ref D) (upd H' D (.lst ys))) ∨
  (J.go i H' ∧ ys.length < sizeLine ∧ ∃ N : List V → St → Hp → Prop, (∀ ys' σ2 H2, N ys' σ2 H2 → ∃ m', m' < m ∧ W (i + 1) m' ys' σ2 H2) ∧
    ∀ x H2, J.yld i H' x H2 → g x σ' H2 fun σ2 H3 => tt σ2 H3 fun b H4 => if b = true then te σ2 H4 fun y H5 => N (ys ++ [y]) σ2 H5 else N ys σ2 H4)
theorem comp_core {pins : List (Addr × Obj)} {σ : St} {Q : VK} {itv : Value} {s2 : Shared} {RR : Value → Addr → Result → Shared → Prop} {E : Value → Shared → Prop} (hc : X.calm = true) (B : Blk X sc cl N' imp)
    (hg : ∀ C s H fp, PG (blk X sc cl N' C s H fp) tg g) (ht : ∀ C s H fp, PIfs (blk X sc cl N' C s H fp) ifs tt) (he : ∀ C s H fp, PE (blk X sc cl N' C s H fp) elt te)
    (h2 : PIE X pins σ tg (CompK g tt te imp σ Q) itv s2)
    (fin : ∀ (C D : Addr) (s4 : Shared) (H' : Hp) (ys : List V) (m : Str → Option Value), s2.heap.objs.size < C → s4.heap.Ns C m → H' C = none → (∀ h', Heap.SameBut C s4.heap h' → Inv X pins σ H' { s4 with heap := h' }) → Q (.ref D) H' → RR (.ref D) C (.ok .next) s4) :
    wpAny (model X.prog X.w) X.A (newList []) (fun acc s₃ => wpAny (model X.prog X.w) X.A (newFunctionEnv sc X.env.globals cl [] X.env.qual none .none (some X.env)) (fun cenv s₄ =>
      codeAny (model X.prog X.w) X.A (.compStart (.ListComp elt [⟨tg, iter, ifs, 0⟩] sc pos) 0 itv acc { cenv with scope := relabel sc X.env }) (RR acc cenv.locals) s₄) E s₃) E s2 := by
  obtain ⟨it, fp, tn, J, H2, e, I2, T, st2, f2, W, ⟨m0, w0⟩, turn⟩ := h2
  subst e
  refine wpAny_newObj_type (wpAny_newFunctionEnv B.nocell (by intro y hy; simp at hy) (fun h₁ hns₁ hsb₁ => ?_) B.kind)
  dsimp only at hns₁ hsb₁ ⊢
  generalize hG : s2.heap.push { cls := .type "list", dict := none, data := .seq ([] : List Value).toArray } = G at hns₁ hsb₁ ⊢
  have hCs : G.objs.size = s2.heap.objs.size + 1 := by rw [← hG, Heap.size_push]
  have hC : s2.heap.objs.size < G.objs.size := by rw [hCs]; exact Nat.lt_succ_self _
  have below : ∀ b, b < s2.heap.objs.size → b ≠ G.objs.size := fun b hb => Nat.ne_of_lt (Nat.lt_trans hb hC)
  have old : ∀ b o, s2.heap.get? b = some o → h₁.get? b = some o := fun b o e => hsb₁.extBut b o (below b (Heap.lt_size e)) (Heap.get?_push_of_some _ (hG ▸ Heap.get?_push_of_some _ e))
  have hD1 : h₁.get? s2.heap.objs.size = some { cls := .type "list", data := .seq ([] : List Value).toArray } := hsb₁.extBut _ _ (Nat.ne_of_lt hC) (Heap.get?_push_of_some _ (hG ▸ Heap.get?_push_size _ rfl))
  have fpo : ∀ b ∈ fp, ∃ o, s2.heap.get? b = some o := fun b hb => let ⟨o, e, _⟩ := T.obj 0 _ st2 b hb; ⟨o, e⟩
  have I4 := blk_inv B I2 f2 fpo hC old (show h₁.Ns G.objs.size fun _ => none from hns₁)
  -- the records of the block: the list that grows, the iterator's
  have stD : ∀ {H' : Hp} {pn : List (Addr × Obj)}, (∀ b ∈ s2.heap.objs.size :: fp, H' b = none) → (∀ p ∈ pn, p.1 ∉ s2.heap.objs.size :: fp) → ∀ b ∈ s2.heap.objs.size :: fp, FpOk (blk X sc cl N' G.objs.size s2 H2 fp) pn H' b := fun {H' pn} hn hp b hb => by
    have hp' : ∀ p ∈ ([] ++ pn : List (Addr × Obj)), p.1 ≠ b := fun p z q => hp p (by simpa using z) (q ▸ hb)
    rcases List.mem_cons.mp hb with z | z
    · subst z
      refine ⟨hn _ hb, Nat.ne_of_lt hC, fun q => ?_, .inr (Nat.le_refl _), fun x c e q => ?_, hp'⟩
      · rcases List.mem_cons.mp (I2.stkSub _ q) with q | q
        · exact absurd I2.lt (by rw [← q]; exact Nat.lt_irrefl _)
        · exact I2.nofs (Nat.le_refl _) q
      · obtain ⟨v, qc⟩ := I2.cell x c (B.subL x c e)
        exact absurd qc.lt (by rw [q]; exact Nat.lt_irrefl _)
    · refine ⟨hn _ hb, below b (let ⟨_, e⟩ := fpo b z; Heap.lt_size e), fun q => ?_, .inl z, fun x c e => (f2 b z).2.2.2.2.1 x c (B.subL x c e), hp'⟩
      rcases List.mem_cons.mp (I2.stkSub b q) with q | q
      · exact (f2 b z).2.1 q
      · exact (f2 b z).2.2.1 q
  have nDf : s2.heap.objs.size ∉ fp := fun z => let ⟨_, e⟩ := fpo _ z; absurd (Heap.lt_size e) (Nat.lt_irrefl _)
  have loop : codeAny (model X.prog X.w) X.A (.compLoop (.ListComp elt [⟨tg, iter, ifs, 0⟩] sc pos) 0 (.ref it) (.ref s2.heap.objs.size) (compEnvC sc cl G.objs.size X.env))
      (RR (.ref s2.heap.objs.size) G.objs.size) { s2 with heap := h₁, toks := s2.toks } := by
    refine codeAny_loop rfl (fun n s' => ∃ i ys its k σ' H', Inv (blk X sc cl N' G.objs.size s2 H2 fp) [] σ' H' s' ∧ tn i s'.heap ∧ (∀ b ∈ s2.heap.objs.size :: fp, H' b = none) ∧ Vals ys its ∧ s'.heap.get? s2.heap.objs.size = some { cls := .type "list", data := .seq its.toArray k } ∧ W i n ys σ' H') ?_ m0
      ⟨0, [], [], 0, _, H2, I4, T.keep _ _ _ st2 (fun b _ o e => old b o e), fun b hb => ?_, .nil, hD1, w0⟩
    · rintro n s3 ⟨i, ys, its, k, σ3, H3, I3, st3, fr3, rv3, hD3, w3⟩
      have fr3' : ∀ b ∈ fp, FpOk (blk X sc cl N' G.objs.size s2 H2 fp) [] H3 b := fun b hb => stD (pn := []) fr3 (fun p z => nomatch z) b (List.mem_cons_of_mem _ hb)
      show wpAny _ X.A ((compTurn (.ListComp elt [⟨tg, iter, ifs, 0⟩] sc pos) 0 (.ref it) (.ref s2.heap.objs.size) (compEnvC sc cl G.objs.size X.env)).onRaise (fun x => do noteFrame x (compEnvC sc cl G.objs.size X.env); theTreesLotGoes x)) _ _ s3
      refine wpAny_noted (wpAny_noRaise ?_)
      rw [compTurn_list]
      refine wpAny_bind (wpAny_standAt (wpAny_bind ?_))
      have fD := stD (pn := []) fr3 (fun p z => nomatch z) s2.heap.objs.size List.mem_cons_self
      have hDH : H3 s2.heap.objs.size = none := fr3 _ List.mem_cons_self
      have I3p : Inv (blk X sc cl N' G.objs.size s2 H2 fp) [(s2.heap.objs.size, { cls := .type "list", data := .seq its.toArray k })] σ3 H3 s3 := I3.pins_of fun p hp => by
        have e : p = (s2.heap.objs.size, { cls := .type "list", data := .seq its.toArray k }) := by simpa using hp
        subst e
        exact ⟨hD3, hDH, fD.2.1, fD.2.2.1, fun v z => by cases z⟩
      have pfp : ∀ p ∈ [(s2.heap.objs.size, ({ cls := .type "list", data := .seq its.toArray k } : Obj))], p.1 ∉ fp := fun p hp => by
        have e : p = (s2.heap.objs.size, { cls := .type "list", data := .seq its.toArray k }) := by simpa using hp
        subst e
        exact nDf
      have fpP : ∀ {H' : Hp}, (∀ b ∈ fp, H' b = none) → ∀ b ∈ fp, FpOk (blk X sc cl N' G.objs.size s2 H2 fp) [(s2.heap.objs.size, ({ cls := .type "list", data := .seq its.toArray k } : Obj))] H' b := fun {H'} hn b hb =>
        have f := stD (pn := []) fr3 (fun p z => nomatch z) b (List.mem_cons_of_mem _ hb)
        ⟨hn b hb, f.2.1, f.2.2.1, f.2.2.2.1, f.2.2.2.2.1, fun p hp q => pfp p ((List.mem_append.mp hp).elim (fun z => nomatch (show p ∈ ([] : List (Addr × Obj)) from z)) id) (q ▸ hb)⟩
      rcases turn i n ys σ3 H3 w3 with ⟨stop, hz, q⟩ | ⟨go, hz, N, hN, step⟩
      · refine thn (T.done (blk X sc cl N' G.objs.size s2 H2 fp) rfl rfl rfl hc i _ s3 σ3 H3 _ I3p (fpP fun b hb => fr3 b (List.mem_cons_of_mem _ hb)) st3 stop) fun r s4 ⟨hr, I5⟩ => ?_
        subst hr
        refine wpAny_pure ?_
        obtain ⟨m, hn, _⟩ := I5.loc
        have eD := (I5.pin (s2.heap.objs.size, { cls := .type "list", data := .seq its.toArray k }) (by simp)).1
        have hCf : H3 G.objs.size = none := I5.free
        exact fin G.objs.size s2.heap.objs.size s4 _ ys m hC hn (by rw [upd_ne (Nat.ne_of_gt hC)]; exact hCf) (fun h' hsb => blk_end (Cs := 0) I2 f2 I5 hC hDH (Nat.le_refl _) (Nat.ne_of_lt hC) eD rv3 hz hsb) (q _ hDH)
      · refine thn (T.item (blk X sc cl N' G.objs.size s2 H2 fp) rfl rfl rfl hc i _ s3 σ3 H3 _ I3p (fpP fun b hb => fr3 b (List.mem_cons_of_mem _ hb)) st3 go) fun r s4 ⟨u, hr, h4⟩ => ?_
        subst hr
        refine wpAny_bind (thn h4 fun _ s5 ⟨x, H5, I5, r5, y5, st5, fr5⟩ => ?_)
        have I5' := I5.pinned (fpP fr5) (T.obj _ _ st5)
        refine wpAny_bind (thn (hg G.objs.size s2 H2 fp _ s5 σ3 H5 x u _ I5' r5 (step x H5 y5)) fun _ s6 ⟨σ6, H6, I6, q6⟩ => ?_)
        refine wpAny_bind (thn (ht G.objs.size s2 H2 fp _ s6 σ6 H6 _ I6 q6) fun ok s7 ⟨H7, I7, q7⟩ => ?_)
        -- what stays of the records
        have recs : ∀ {σ' : St} {H' : Hp} {s' : Shared}, Inv (blk X sc cl N' G.objs.size s2 H2 fp) ([(s2.heap.objs.size, ({ cls := .type "list", data := .seq its.toArray k } : Obj))] ++ pinsAt fp s5.heap) σ' H' s' →
            tn (i + 1) s'.heap ∧ (∀ b ∈ s2.heap.objs.size :: fp, H' b = none) ∧ s'.heap.get? s2.heap.objs.size = some { cls := .type "list", data := .seq its.toArray k } := fun {σ' H' s'} I' => by
          have pd := I'.pin (s2.heap.objs.size, { cls := .type "list", data := .seq its.toArray k }) (by simp)
          have pf : ∀ b ∈ fp, ∀ o, s5.heap.get? b = some o → s'.heap.get? b = some o ∧ H' b = none := fun b hb o e => by
            have z := I'.pin (b, o) (List.mem_append_right _ (List.mem_append_right _ (mem_pinsAt hb e)))
            exact ⟨z.1, z.2.1⟩
          refine ⟨T.keep _ _ _ st5 fun b hb o e => (pf b hb o e).1, fun b hb => ?_, pd.1⟩
          rcases List.mem_cons.mp hb with z | z
          · subst z; exact pd.2.1
          · obtain ⟨o, e, d⟩ := T.obj _ _ st5 b z
            exact (pf b z o e).2
        cases ok with
        | false =>
          obtain ⟨m', hm, w7⟩ := hN _ _ _ (show N ys σ6 H7 from by simpa using q7)
          obtain ⟨r1, r2, r3⟩ := recs I7
          exact wpAny_pure ⟨rfl, m', hm, i + 1, ys, its, k, σ6, H7, I7.pins_of (fun p hp => nomatch hp), r1, r2, rv3, r3, w7⟩
        | true =>
          have q7' : te σ6 H7 fun y H5 => N (ys ++ [y]) σ6 H5 := by simpa using q7
          refine wpAny_bind (wpAny_bind (thn (he G.objs.size s2 H2 fp _ s7 σ6 H7 _ I7 q7') fun y s8 ⟨y8, H8, I8, ry, q8⟩ => wpAny_bind ?_))
          obtain ⟨r1, r2, r3⟩ := recs I8
          have hl := rv3.length
          refine wpAny_list_append_plain (hsz := by rw [List.size_toArray]; omega) ⟨k, r3⟩ fun h9 ⟨k9, hl9⟩ hs9 => wpAny_pure (wpAny_pure ?_)
          have hD8 : H8 s2.heap.objs.size = none := r2 _ List.mem_cons_self
          have f8 := stD (pn := []) r2 (fun p z => nomatch z) s2.heap.objs.size List.mem_cons_self
          have I8' : Inv (blk X sc cl N' G.objs.size s2 H2 fp) [] σ6 H8 s8 := I8.pins_of (fun p hp => nomatch hp)
          have I9 : Inv (blk X sc cl N' G.objs.size s2 H2 fp) [] σ6 H8 { s8 with heap := h9 } := I8'.turned (t' := s8.toks) (it := s2.heap.objs.size) (fun b o hb e => hs9.extBut b o hb e) hD8 f8.2.1 f8.2.2.2.1 f8.2.2.2.2.1 f8.2.2.2.2.2
          obtain ⟨m', hm, w8⟩ := hN _ _ _ q8
          refine ⟨rfl, m', hm, i + 1, ys ++ [y8], its ++ [y], k9, σ6, H8, I9, ?_, r2, rv3.append (.cons ry .nil), ?_, w8⟩
          · exact T.keep _ _ _ r1 fun b hb o e => hs9.extBut b o (fun z => nDf (z ▸ hb)) e
          · rw [hl9]; simp
    · rcases List.mem_cons.mp hb with z | z
      · subst z; exact I2.hok.fresh (Nat.le_refl _)
      · exact (f2 b z).1
  exact codeAny_compStart_list loop (T.self _ 0 _ _ _ (T.keep _ _ _ st2 fun b _ o e => old b o e) loop)

theorem pe_comp (hc : X.calm = true) (hi : PI X tg iter wi) (B : Blk X sc cl N' imp)
    (hg : ∀ C s H fp, PG (blk X sc cl N' C s H fp) tg g) (ht : ∀ C s H fp, PIfs (blk X sc cl N' C s H fp) ifs tt) (he : ∀ C s H fp, PE (blk X sc cl N' C s H fp) elt te)
    (hs : ∀ x, foldedSetIterable iter X.env x = pure x := by intro _; rfl) : PE X (.ListComp elt [⟨tg, iter, ifs, 0⟩] sc pos) (tComp wi g tt te imp) := by
  intro pins s σ H Q I h
  rw [eval_ListComp]
  refine wpAny_comprehension_free (use := none) rfl hs B.clos B.kind B.names (thn (hi pins s σ H _ I h) fun v s1 h1 => thn h1 fun itv s2 h2 => ?_)
  refine comp_core (RR := fun acc C => compPost (model X.prog X.w) X.A X.xe none (EP X pins σ Q) acc C) hc B hg ht he h2 fun C D s4 H' ys m hC hn hCf hI q => ?_
  exact ⟨m, hn, fun h' hsb => ⟨.ref D, H', hI h' hsb, rfl, q⟩⟩
end
end L2

namespace L2
open PySem PySem.Spec PyProof.Rows

inductive Rep (K : PySem.W.Frag) (H : Hp) : V → PyData → Prop
  | non : Rep K H .non .none
  | bl (b : Bool) : Rep K H (.bl b) (.bool b)
  | int (i : Int) : Rep K H (.int i) (.int i)
  | str (x : Str) : Rep K H (.str x) (.str x)
  | tup {a : Addr} {xs : List V} {ds : List PyData} : SqT K H a xs → xs.length = ds.length → (∀ (i : Nat) (x : V) (d : PyData), xs[i]? = some x → ds[i]? = some d → Rep K H x d) → Rep K H (.ref a) (.tuple ds)
  | lst {a : Addr} {xs : List V} {ds : List PyData} : SqL K H a xs → xs.length = ds.length → (∀ (i : Nat) (x : V) (d : PyData), xs[i]? = some x → ds[i]? = some d → Rep K H x d) → Rep K H (.ref a) (.list ds)

def RepL (K : PySem.W.Frag) (H : Hp) (xs : List V) (ds : List PyData) : Prop :=
  xs.length = ds.length ∧ ∀ (i : Nat) (x : V) (d : PyData), xs[i]? = some x → ds[i]? = some d → Rep K H x d

section
variable {K : PySem.W.Frag} {H H' : Hp}
theorem RepL.nil : RepL K H [] [] := ⟨rfl, fun i x d e => by simp at e⟩
theorem RepL.cons {x : V} {d : PyData} {xs : List V} {ds : List PyData} (h : Rep K H x d) (r : RepL K H xs ds) : RepL K H (x :: xs) (d :: ds) := by
  refine ⟨by simp [r.1], fun i y e h1 h2 => ?_⟩
  cases i with
  | zero => simp at h1 h2; subst h1 h2; exact h
  | succ i => exact r.2 i y e (by simpa using h1) (by simpa using h2)
theorem RepL.append {xs ys : List V} {ds es : List PyData} (r : RepL K H xs ds) (q : RepL K H ys es) : RepL K H (xs ++ ys) (ds ++ es) := by
  refine ⟨by simp [r.1, q.1], fun i x d h1 h2 => ?_⟩
  by_cases hi : i < xs.length
  · rw [List.getElem?_append_left hi] at h1
    rw [List.getElem?_append_left (by rw [← r.1]; exact hi)] at h2
    exact r.2 i x d h1 h2
  · rw [List.getElem?_append_right (by omega)] at h1
    rw [List.getElem?_append_right (by rw [← r.1]; omega)] at h2
    rw [← r.1] at h2
    exact q.2 _ x d h1 h2
theorem RepL.snoc {xs : List V} {ds : List PyData} {x : V} {d : PyData} (r : RepL K H xs ds) (h : Rep K H x d) : RepL K H (xs ++ [x]) (ds ++ [d]) := r.append (.cons h .nil)
theorem RepL.get {xs : List V} {ds : List PyData} {i : Nat} {d : PyData} (r : RepL K H xs ds) (e : ds[i]? = some d) : ∃ x, xs[i]? = some x ∧ Rep K H x d := by
  have hi := (List.getElem?_eq_some_iff.mp e).1
  have hx : i < xs.length := by rw [r.1]; exact hi
  exact ⟨xs[i], by simp [hx], r.2 i _ d (by simp [hx]) e⟩
theorem RepL.get' {xs : List V} {ds : List PyData} {i : Nat} {x : V} (r : RepL K H xs ds) (e : xs[i]? = some x) : ∃ d, ds[i]? = some d ∧ Rep K H x d := by
  have hi := (List.getElem?_eq_some_iff.mp e).1
  have hx : i < ds.length := by rw [← r.1]; exact hi
  exact ⟨ds[i], by simp [hx], r.2 i x _ e (by simp [hx])⟩
theorem Rep.tupL {a : Addr} {xs : List V} {ds : List PyData} (h : SqT K H a xs) (r : RepL K H xs ds) : Rep K H (.ref a) (.tuple ds) := .tup h r.1 r.2
theorem Rep.lstL {a : Addr} {xs : List V} {ds : List PyData} (h : SqL K H a xs) (r : RepL K H xs ds) : Rep K H (.ref a) (.list ds) := .lst h r.1 r.2
theorem Rep.tupI {v : V} {ds : List PyData} (r : Rep K H v (.tuple ds)) : ∃ a xs, v = .ref a ∧ SqT K H a xs ∧ RepL K H xs ds := by
  cases r with
  | tup h l q => exact ⟨_, _, rfl, h, l, q⟩
theorem Rep.lstI {v : V} {ds : List PyData} (r : Rep K H v (.list ds)) : ∃ a xs, v = .ref a ∧ SqL K H a xs ∧ RepL K H xs ds := by
  cases r with
  | lst h l q => exact ⟨_, _, rfl, h, l, q⟩
theorem Rep.intI {v : V} {i : Int} (r : Rep K H v (.int i)) : v = .int i := by cases r; rfl
theorem Rep.strI {v : V} {i : Str} (r : Rep K H v (.str i)) : v = .str i := by cases r; rfl
theorem Rep.blI {v : V} {i : Bool} (r : Rep K H v (.bool i)) : v = .bl i := by cases r; rfl
theorem Same.seqT {a : Addr} {xs : List V} (e : Same H H') (h : SqT K H a xs) : SqT K H' a xs := by
  rcases h with (h | ⟨o, h⟩) | h
  · exact .inl (.inl (e _ _ h))
  · exact .inl (.inr ⟨o, e _ _ h⟩)
  · exact .inr h
theorem Rep.mono {v : V} {d : PyData} (e : Same H H') (r : Rep K H v d) : Rep K H' v d := by
  induction r with
  | non => exact .non
  | bl b => exact .bl b
  | int i => exact .int i
  | str x => exact .str x
  | tup h l _ ih => exact .tup (e.seqT h) l ih
  | lst h l _ ih => exact .lst (e.seq h) l ih
theorem RepL.mono {xs : List V} {ds : List PyData} (e : Same H H') (r : RepL K H xs ds) : RepL K H' xs ds := ⟨r.1, fun i x d h1 h2 => (r.2 i x d h1 h2).mono e⟩

def SameEx (l : Addr) (H H' : Hp) : Prop := ∀ b o, b ≠ l → H b = some o → H' b = some o
theorem SameEx.upd {l : Addr} {o : HO} : SameEx l H (upd H l o) := fun b o' hb e => by rw [upd_ne hb]; exact e
theorem Same.ex {H0 : Hp} {l : Addr} (s : Same H0 H) (hn : H0 l = none) (e : SameEx l H H') : Same H0 H' := fun b o h => e b o (ne_of_none h hn) (s b o h)
theorem Same.new {p : Addr} {o : HO} (hn : H p = none) : Same H (upd H p o) := fun b o' e => by rw [upd_ne (ne_of_none e hn)]; exact e
theorem SameEx.sqT {l a : Addr} {ys xs : List V} (e : SameEx l H H') (hl : H l = some (.lst ys)) (h : SqT K H a xs) : SqT K H' a xs := by
  rcases h with (h | ⟨o, h⟩) | h
  · exact .inl (.inl (e _ _ (ne_of h hl (by intro z; cases z)) h))
  · exact .inl (.inr ⟨o, e _ _ (ne_of h hl (by intro z; cases z)) h⟩)
  · exact .inr h
theorem Same.ex_trans {l : Addr} {H2 : Hp} (s : Same H H') (e : SameEx l H' H2) : SameEx l H H2 := fun b o hb h => e b o hb (s b o h)
inductive NoLst : PyData → Prop
  | non : NoLst .none
  | bl (b : Bool) : NoLst (.bool b)
  | int (i : Int) : NoLst (.int i)
  | str (x : Str) : NoLst (.str x)
  | tup {ds : List PyData} : (∀ d ∈ ds, NoLst d) → NoLst (.tuple ds)
end

theorem Vals.get' : ∀ {xs : List V} {us : List Value} {i : Nat} {u : Value}, Vals xs us → us[i]? = some u → ∃ x, xs[i]? = some x ∧ RelV x u
  | _, _, _, _, .nil, e => by simp at e
  | _, _, 0, _, .cons r _, e => by simp at e; subst e; exact ⟨_, rfl, r⟩
  | _, _, i + 1, u, .cons _ t, e => by
    obtain ⟨x, h1, h2⟩ := Vals.get' (i := i) (u := u) t (by simpa using e)
    exact ⟨x, by simpa using h1, h2⟩
theorem readsAll_of {h : Heap} : ∀ (us : List Value) (ds : List PyData), us.length = ds.length → (∀ (i : Nat) (u : Value) (d : PyData), us[i]? = some u → ds[i]? = some d → ∃ as, Reads h u d as) → ∃ as, ReadsAll h us ds as
  | [], [], _, _ => ⟨_, .nil⟩
  | [], _ :: _, e, _ => by simp at e
  | _ :: _, [], e, _ => by simp at e
  | u :: us, d :: ds, e, f => by
    obtain ⟨as, h1⟩ := f 0 u d rfl rfl
    obtain ⟨bs, h2⟩ := readsAll_of us ds (by simpa using e) fun i v c q1 q2 => f (i + 1) v c (by simpa using q1) (by simpa using q2)
    exact ⟨_, .cons h1 h2⟩
section
variable {X : Cx} {pins : List (Addr × Obj)} {σ : St} {H : Hp} {s : Shared}
theorem Rep.reads {v : V} {d : PyData} (I : Inv X pins σ H s) (r : Rep X.K H v d) : ∀ u, RelV v u → ∃ as, Reads s.heap u d as := by
  induction r with
  | non => intro u r; cases r; exact ⟨_, .none⟩
  | bl b => intro u r; cases r; exact ⟨_, .bool b⟩
  | int i => intro u r; obtain ⟨t, rfl⟩ := r; exact ⟨_, .int i t⟩
  | str x => intro u r; obtain ⟨t, rfl⟩ := r; exact ⟨_, .str x t⟩
  | tup h l _ ih =>
    intro u r; cases r
    obtain ⟨its, rv, p, hz⟩ := I.tuple h
    obtain ⟨o, ho, hc, n, hd⟩ := p
    obtain ⟨as, q⟩ := readsAll_of (h := s.heap) its _ (rv.length.symm.trans l) fun i u d h1 h2 => by
      obtain ⟨x, e1, e2⟩ := rv.get' h1
      exact ih i x d e1 h2 u e2
    exact ⟨_, .tuple ho hc hd q⟩
  | lst h l _ ih =>
    intro u r; cases r
    obtain ⟨its, rv, p, hz⟩ := I.list h
    obtain ⟨o, ho, hc, n, hd⟩ := p.isList
    obtain ⟨as, q⟩ := readsAll_of (h := s.heap) its _ (rv.length.symm.trans l) fun i u d h1 h2 => by
      obtain ⟨x, e1, e2⟩ := rv.get' h1
      exact ih i x d e1 h2 u e2
    exact ⟨_, .list ho hc hd q⟩
end

section
variable {X : Cx}
def rAddA (K : PySem.W.Frag) : R2 := fun x y H Q => rI0 (fun i j => .int (i + j)) x y H Q ∨ (∃ i j, x = .str i ∧ y = .str j ∧ i.length + j.length ≤ sizeLine ∧ Q (.str (i ++ j)) H) ∨ rCat x y H Q
theorem op_addA : OpR X (binaryOp .Add) (rAddA X.K) := op_add.or (op_add_str.or op_cat)
def rEqD (K : PySem.W.Frag) : R2 := fun x y H Q => ∃ d e, Rep K H x d ∧ Rep K H y e ∧ d.canLay0 = true ∧ e.canLay0 = true ∧ min d.depth e.depth ≤ 60 ∧ Q (.bl (PyData.eqv d e)) H
def rNeD (K : PySem.W.Frag) : R2 := fun x y H Q => ∃ d e, Rep K H x d ∧ Rep K H y e ∧ d.canLay0 = true ∧ e.canLay0 = true ∧ min d.depth e.depth ≤ 60 ∧ Q (.bl (!PyData.eqv d e)) H
theorem op_eqD (hu : X.A.units + 64 < cLine) : OpR X (compareOp .Eq) (rEqD X.K) := by
  intro pins s σ H x y v u Q I rx ry h
  obtain ⟨d, e, h1, h2, c1, c2, hd, q⟩ := h
  obtain ⟨as, r1⟩ := h1.reads I v rx
  obtain ⟨bs, r2⟩ := h2.reads I u ry
  exact SeqAt.compareEq_reads r1 r2 c1 c2 (by omega) ⟨.bl _, H, I, rfl, q⟩
def rEqA (K : PySem.W.Frag) : R2 := fun x y H Q => rEq x y H Q ∨ rEqD K x y H Q
def rNeA (K : PySem.W.Frag) : R2 := fun x y H Q => rNe x y H Q ∨ rNeD K x y H Q
theorem op_eqA (hu : X.A.units + 64 < cLine) : OpR X (compareOp .Eq) (rEqA X.K) := op_eq.or (op_eqD hu)
def rLen (K : PySem.W.Frag) : List V → Hp → VK → Prop := fun xs H Q => ∃ x n, xs = [x] ∧ LenV K x H n ∧ Q (.int n) H
theorem call_lenN : CallR X (.builtin "len") (rLen X.K) := call_len
def rTupleOf (K : PySem.W.Frag) : List V → Hp → VK → Prop := fun xs H Q => ∃ p ys, xs = [.ref p] ∧ ((SqL K H p ys ∧ ∀ l, H l = none → Q (.ref l) (upd H l (.tup ys))) ∨ (SqT K H p ys ∧ Q (.ref p) H))
theorem call_tupleN : CallR X (.type "tuple") (rTupleOf X.K) := call_tuple_of
inductive TyS (K : PySem.W.Frag) (H : Hp) : V → Value → Prop where
  | of {x : V} {t : Value} (h : TyOf K H x t) : TyS K H x t
  | sqT {a : Addr} {xs : List V} (h : SqT K H a xs) : TyS K H (.ref a) (.type "tuple")
  | sqL {a : Addr} {xs : List V} (h : SqL K H a xs) : TyS K H (.ref a) (.type "list")
theorem isinst_okS {pins : List (Addr × Obj)} {σ : St} {H : Hp} {s : Shared} {A : Around} {E : Value → Shared → Prop} {Q : Value → Shared → Prop} {c : Value} {b : Bool} {x : V} {u t : Value} (I : Inv X pins σ H s) (rx : RelV x u) (ty : TyS X.K H x t) (e : PySem.W.kitOne X.K t c = some b) (h : ∀ tk, Q (.bool b) { s with toks := tk }) :
    wpAny (model X.prog X.w) A (call (.builtin "isinstance") [u, c]) Q E s := by
  cases ty with
  | of z => exact isinst_ok I rx z e h
  | @sqT a xs z =>
    cases (show u = Value.ref a from rx)
    obtain ⟨its, _, p, _⟩ := I.tuple z
    obtain ⟨o, h1, h2, _⟩ := p
    exact PySem.W.kia_one PySem.W.kitx_tuple I.kIn ⟨o, h1, h2⟩ e (fun z => nomatch z) h
  | @sqL a xs z =>
    cases (show u = Value.ref a from rx)
    obtain ⟨its, _, p, _⟩ := I.list z
    obtain ⟨o, h1, h2, _⟩ := p.isList
    exact PySem.W.kia_one PySem.W.kitx_list I.kIn ⟨o, h1, h2⟩ e (fun z => nomatch z) h
def rIsN : R2 := fun x y H Q => y = .non ∧ Q (.bl (decide (x = .non))) H
def rNotN : R2 := fun x y H Q => y = .non ∧ Q (.bl (!decide (x = .non))) H
theorem op_isNN : OpR X (compareOp .Is) rIsN := op_isN
theorem op_notNN : OpR X (compareOp .IsNot) rNotN := op_notN
def rMax : List V → Hp → VK → Prop := fun xs H Q => ∃ i j, xs = [.int i, .int j] ∧ Q (.int (if j > i then j else i)) H
def rMin : List V → Hp → VK → Prop := fun xs H Q => ∃ i j, xs = [.int i, .int j] ∧ Q (.int (if j < i then j else i)) H
theorem call_maxN (hc : X.calm = true) : CallR X (.builtin "max") rMax := call_max2 hc
theorem call_minN (hc : X.calm = true) : CallR X (.builtin "min") rMin := call_min2 hc
def tTru (K : PySem.W.Frag) (ta : TE) : TT := fun σ H Q => ta σ H fun x H1 => ∃ k, TruV K x H1 k ∧ Q k H1
theorem pt_tru {a : Expr} {ta : TE} (ha : PE X a ta) (he : ∀ whole, isTrue a X.env whole = (do let v ← whole; standAt a.pos; holding [v] (truthy v))) : PT X a (tTru X.K ta) := pt_truth ha he
def GV (mg : Str → Option Value) (x : Str) (v : V) : Prop := ∃ u, mg x = some u ∧ RelV v u
theorem pe_globC {x : Str} {v : V} {pos : Pos} (hg : Gl X x) (hm : GV X.mg x v) (hd : (x == ("__debug__" : Str)) = false := by decide) : PE X (.Name x pos) (tC v) := by
  obtain ⟨u, h1, h2⟩ := hm
  exact pe_glob hg h1 h2 hd
end
theorem bt_len : bootBuiltins "len" = some (.builtin "len") := by decide +kernel
theorem bt_isinstance : bootBuiltins "isinstance" = some (.builtin "isinstance") := by decide +kernel
theorem bt_max : bootBuiltins "max" = some (.builtin "max") := by decide +kernel
theorem bt_min : bootBuiltins "min" = some (.builtin "min") := by decide +kernel
theorem bt_sum : bootBuiltins "sum" = some (.builtin "sum") := by decide +kernel
theorem bt_tuple : bootBuiltins "tuple" = some (.type "tuple") := by decide +kernel
theorem bt_zip : bootBuiltins "zip" = some (.type "zip") := by decide +kernel
theorem bt_reversed : bootBuiltins "reversed" = some (.type "reversed") := by decide +kernel
structure Cal (P : Program) (w : World) (K : PySem.W.Frag) (mg : Str → Option Value) (base : Heap) (x : Str) (k : Nat) (ps : List Str) (sp : Sp) : Prop where
  ex : ∃ (f : Addr) (fd : FuncData), FnOk P w K mg base CX0 k f fd ps sp ∧ mg x = some (.ref f) ∧ PySem.W.keepIn K (.ref f) = true ∧ Binds K fd ps []
structure CalM (P : Program) (w : World) (K : PySem.W.Frag) (mg : Str → Option Value) (base : Heap) (x : Str) (C : Addr) (k : Nat) (ps : List Str) (sp : Sp) : Prop where
  ex : ∃ (f : Addr) (fd : FuncData), Mk K C f ∧ FnOk P w K mg base CX0 k f fd ps sp ∧ mg x = some (.ref C) ∧ Binds K fd ps []
section
variable {X : Cx} {k : Nat} {C : Addr} {ps : List Str} {sp : Sp} {x : Str} {p pos : Pos} {e : Expr} {es : List Expr} {t : TA}
theorem pe_callC (c : Cal X.prog X.w X.K X.mg X.base x k ps sp) (hr : Room k X.A) (hg : Gl X x) (ha : PA X (e :: es) t) (hdb : (x == ("__debug__" : Str)) = false := by decide)
    (he : starEach (e :: es) X.env = (false, eval e X.env) :: starEach es X.env := by rfl) (hpl : (backTo pos (starEach es X.env)).any (·.1) = false := by rfl) : PE X (.Call (.Name x p) (e :: es) [] pos) (tCall sp [] E0 t) := by
  obtain ⟨f, fd, F, h1, h2, h3⟩ := c.ex
  exact pe_call F hr hg h1 h2 h3 .nil pass0 ha hdb he hpl
theorem pe_makeC (c : CalM X.prog X.w X.K X.mg X.base x C k ps sp) (hr : Room (k + 1) X.A) (hg : Gl X x) (ha : PA X (e :: es) t) (hdb : (x == ("__debug__" : Str)) = false := by decide)
    (he : starEach (e :: es) X.env = (false, eval e X.env) :: starEach es X.env := by rfl) (hpl : (backTo pos (starEach es X.env)).any (·.1) = false := by rfl) : PE X (.Call (.Name x p) (e :: es) [] pos) (tMake C sp [] E0 t) := by
  obtain ⟨f, fd, M, F, h1, h3⟩ := c.ex
  exact pe_make M F hr hg h1 h3 .nil pass0 ha hdb he hpl
end

def iSeq (K : PySem.W.Frag) (tl : TE) : TI := fun σ H R => iList K tl σ H R ∨ iTup K tl σ H R
theorem pi_seq {X : Cx} {tg l : Expr} {tl : TE} (hl : PE X l tl) : PI X tg l (iSeq X.K tl) := by
  intro pins s σ H R I h
  rcases h with h | h
  · exact pi_list hl pins s σ H R I h
  · exact pi_tup hl pins s σ H R I h

theorem blk0 {X : Cx} {sc : Scope} {N' : List Str} {imp : List (Option Nat)} (h1 : sc.kind = .function)
    (h2 : (sc.names.all (fun y => y.2 != .free && y.2 != .cell && (y.2 != .local || sc.names.lookup y.1 == some .local)) && imp.all (·.isNone) && (imp.length == N'.length)) = true) : Blk X sc [] N' imp := by
  simp only [Bool.and_eq_true, List.all_eq_true] at h2
  obtain ⟨⟨h2, h3⟩, h4⟩ := h2
  have nofree : ∀ y ∈ sc.names, y.2 ≠ .free := fun y hy => by
    have := (h2 y hy).1.1
    simpa using this
  have nocell : ∀ y ∈ sc.names, y.2 ≠ .cell := fun y hy => by
    have := (h2 y hy).1.2
    simpa using this
  refine ⟨closureFor_none nofree, h1, nocell, fun y hy hl => ?_, (fun p hp => nomatch hp), fun y hy hk => ?_, by simpa using h4, fun p hp k e => ?_⟩
  · have := (h2 y hy).2
    rw [hl] at this
    simpa using this
  · have : (relabel sc X.env).names = sc.names := by
      unfold relabel
      refine map_eq_self fun x hx => ?_
      obtain ⟨n, q⟩ := x
      have : (q == NameKind.free) = false := by simpa using nofree _ hx
      simp [this]
    rw [this] at hy
    rcases hk with z | z
    · exact absurd z (nocell y hy)
    · exact absurd z (nofree y hy)
  · have := h3 p.1 (List.of_mem_zip hp).1
    rw [e] at this
    cases this

section
variable {K : PySem.W.Frag} {σ : St} {H H1 : Hp} {Q : VK} {i : Nat} {v : V} {ta tb te : TE} {r : R2} {D : Ends} {t u : TS} {c : TT}
theorem rd_var (h : σ[i]? = some (some v)) (q : Q v H) : tVar i σ H Q := ⟨v, h, q⟩
theorem rd_C (q : Q v H) : tC v σ H Q := q
theorem rd_op (q : ta σ H fun x H1 => tb σ H1 fun y H2 => r x y H2 Q) : tOp r ta tb σ H Q := q
theorem rd_un {r : V → Hp → VK → Prop} (q : ta σ H fun x H1 => r x H1 Q) : tUn r ta σ H Q := q
theorem rd_I0 {g : Int → Int → V} {a b : Int} (q : Q (g a b) H) : rI0 g (.int a) (.int b) H Q := ⟨a, b, rfl, rfl, q⟩
theorem rd_I {C : Int → Int → Prop} {g : Int → Int → V} {a b : Int} (h : C a b) (q : Q (g a b) H) : rI C g (.int a) (.int b) H Q := ⟨a, b, rfl, rfl, h, q⟩
theorem rd_U {g : Int → V} {a : Int} (q : Q (g a) H) : rU g (.int a) H Q := ⟨a, rfl, q⟩
theorem rd_addI {a b : Int} (q : Q (.int (a + b)) H) : rAddA K (.int a) (.int b) H Q := .inl ⟨a, b, rfl, rfl, q⟩
theorem rd_eqI {a b : Int} (q : Q (.bl (decide (a = b))) H) : rEqA K (.int a) (.int b) H Q := .inl ⟨rfl, by
  have : decide (V.int a = V.int b) = decide (a = b) := by simp
  rw [this]; exact q⟩
theorem rd_neI {a b : Int} (q : Q (.bl (!decide (a = b))) H) : rNeA K (.int a) (.int b) H Q := .inl ⟨rfl, by
  have : decide (V.int a = V.int b) = decide (a = b) := by simp
  rw [this]; exact q⟩
theorem rd_eqT {a b : Str} (q : Q (.bl (decide (a = b))) H) : rEqA K (.str a) (.str b) H Q := .inl ⟨rfl, by
  have : decide (V.str a = V.str b) = decide (a = b) := by simp
  rw [this]; exact q⟩
theorem rd_neT {a b : Str} (q : Q (.bl (!decide (a = b))) H) : rNeA K (.str a) (.str b) H Q := .inl ⟨rfl, by
  have : decide (V.str a = V.str b) = decide (a = b) := by simp
  rw [this]; exact q⟩
theorem rd_isN {x : V} (q : Q (.bl (decide (x = .non))) H) : rIsN x .non H Q := ⟨rfl, q⟩
theorem rd_notN {x : V} (q : Q (.bl (!decide (x = .non))) H) : rNotN x .non H Q := ⟨rfl, q⟩
theorem rd_max {a b : Int} (q : Q (.int (max a b)) H) : rMax [.int a, .int b] H Q := ⟨a, b, rfl, by
  have e : (if b > a then b else a) = max a b := by rw [Int.max_def]; split <;> split <;> omega
  rw [e]; exact q⟩
theorem rd_min {a b : Int} (q : Q (.int (min a b)) H) : rMin [.int a, .int b] H Q := ⟨a, b, rfl, by
  have e : (if b < a then b else a) = min a b := by rw [Int.min_def]; split <;> split <;> omega
  rw [e]; exact q⟩
theorem rd_tru0 {Qb : Bool → Hp → Prop} (q : ta σ H fun x H1 => ∃ k, TruV K x H1 k ∧ Qb k H1) : tTru K ta σ H Qb := q
theorem rd_fld {f : Str} (q : ta σ H fun x H1 => ∃ a C dx fs v, x = .ref a ∧ H1 a = some (.ins C dx fs) ∧ Cls K C ∧ NoAttr K C f ∧ fs.lookup f = some v ∧ Q v H1) : tFld K ta f σ H Q := q
theorem rd_test {Qb : Bool → Hp → Prop} (q : te σ H fun x H' => ∃ k, x = .bl k ∧ Qb k H') : tTest te σ H Qb := q
theorem rd_tB {Qb : Bool → Hp → Prop} (q : te σ H fun x H' => ∃ k, x = .bl k ∧ Qb k H') : tB te σ H Qb := q
theorem rd_and {c' : TT} {Qb : Bool → Hp → Prop} (q : c σ H fun b H1 => if b = true then c' σ H1 Qb else Qb false H1) : tAnd c c' σ H Qb := q
theorem rd_or {c' : TT} {Qb : Bool → Hp → Prop} (q : c σ H fun b H1 => if b = true then Qb true H1 else c' σ H1 Qb) : tOr c c' σ H Qb := q
theorem rd_not {Qb : Bool → Hp → Prop} (q : c σ H fun b H1 => Qb (!b) H1) : tNot c σ H Qb := q
theorem rd_notV (q : te σ H fun x H1 => ∃ b, x = .bl b ∧ Q (.bl (!b)) H1) : tNotV te σ H Q := q
theorem rd_andV (q : ta σ H fun x H1 => ∃ b, x = .bl b ∧ if b = true then tb σ H1 Q else Q (.bl false) H1) : tAndV ta tb σ H Q := q
theorem rd_orV (q : ta σ H fun x H1 => ∃ b, x = .bl b ∧ if b = true then Q (.bl true) H1 else tb σ H1 Q) : tOrV ta tb σ H Q := q
theorem rd_ifE (q : c σ H fun b H1 => if b = true then ta σ H1 Q else tb σ H1 Q) : tIf c ta tb σ H Q := q
theorem rd_seq (q : t { D with nx := u D } σ H) : tSeq t u D σ H := q
theorem rd_asg {g : TG} (q : te σ H fun x H1 => g x σ H1 D.nx) : tAsg te g D σ H := q
theorem rd_gName {Qs : St → Hp → Prop} (q : Qs (σ.set i (some v)) H) : gName i v σ H Qs := q
theorem rd_ifS (q : c σ H fun b H1 => if b = true then t D σ H1 else u D σ H1) : tIfS c t u D σ H := q
theorem rd_ret (q : te σ H D.rt) : tRet te D σ H := q
theorem rd_drop (q : te σ H fun _ H1 => D.nx σ H1) : tDrop te D σ H := q
theorem rd_next (q : D.nx σ H) : tNext D σ H := q
theorem rd_cons {tr : TA} {Ql : List V → Hp → Prop} (q : ta σ H fun x H1 => tr σ H1 fun xs H2 => Ql (x :: xs) H2) : tCons ta tr σ H Ql := q
theorem rd_nil {Ql : List V → Hp → Prop} (q : Ql [] H) : tNil σ H Ql := q
theorem rd_CB {r : List V → Hp → VK → Prop} {ts : TA} (q : ts σ H fun vs H1 => r vs H1 Q) : tCB r ts σ H Q := q
theorem rd_call {sp : Sp} {E : XK} {ts : TA} (q : ts σ H fun vs H1 => sp vs H1 Q E) : tCall sp [] E ts σ H Q := by
  have e : (fun vs H1 => sp (vs ++ []) H1 Q E) = fun vs H1 => sp vs H1 Q E := by funext vs H1; rw [List.append_nil]
  show ts σ H fun vs H1 => sp (vs ++ []) H1 Q E
  rw [e]; exact q
def AllocT (xs : List V) (H : Hp) (Q : VK) : Prop := xs.length ≤ sizeLine ∧ ∀ p, H p = none → Q (.ref p) (upd H p (.tup xs))
def AllocL (xs : List V) (H : Hp) (Q : VK) : Prop := xs.length ≤ sizeLine ∧ ∀ p, H p = none → Q (.ref p) (upd H p (.lst xs))
theorem rd_tup {ts : TA} (q : ts σ H fun xs H1 => AllocT xs H1 Q) : tTup ts σ H Q := q
theorem rd_lst {ts : TA} (q : ts σ H fun xs H1 => AllocL xs H1 Q) : tLst ts σ H Q := q
theorem al_tup {xs : List V} (hl : xs.length ≤ sizeLine) (q : ∀ p H', H p = none → Same H H' → H' p = some (.tup xs) → Q (.ref p) H') : AllocT xs H Q := ⟨hl, fun p hp => q p _ hp (.new hp) upd_same⟩
theorem rd_lenL {a : Addr} {xs : List V} (h : SqL K H a xs) (q : Q (.int xs.length) H) : rLen K [.ref a] H Q := ⟨_, _, rfl, .inl ⟨xs, h, rfl⟩, q⟩
theorem rd_lenT {a : Addr} {xs : List V} (h : SqT K H a xs) (q : Q (.int xs.length) H) : rLen K [.ref a] H Q := ⟨_, _, rfl, .inr ⟨xs, h, rfl⟩, q⟩
theorem rd_lenS {x : Str} (h : x.length ≤ sizeLine) (q : Q (.int x.length) H) : rLen K [.str x] H Q := ⟨_, _, rfl, ⟨h, rfl⟩, q⟩
theorem rd_tupleL {a : Addr} {xs : List V} (h : SqL K H a xs) (q : ∀ p H', H p = none → Same H H' → H' p = some (.tup xs) → Q (.ref p) H') : rTupleOf K [.ref a] H Q := ⟨a, xs, rfl, .inl ⟨h, fun p hp => q p _ hp (.new hp) upd_same⟩⟩
theorem rd_ixL {a : Addr} {xs : List V} {j : Int} {v : V} (h : SqL K H a xs) (e : atI xs j = some v) (q : Q v H) : rIx K (.ref a) (.int j) H Q := .inl ⟨a, xs, j, v, rfl, rfl, h, e, q⟩
theorem rd_ixT {a : Addr} {xs : List V} {j : Int} {v : V} (h : SqT K H a xs) (e : atI xs j = some v) (q : Q v H) : rIx K (.ref a) (.int j) H Q := .inr (.inl ⟨a, xs, j, v, rfl, rfl, h, e, q⟩)
theorem rd_ixS {z : Str} {j : Int} {c : Nat} (hz : z.length ≤ sizeLine) (e : atI z.cps.toList j = some c) (q : Q (.str ⟨#[c]⟩) H) : rIx K (.str z) (.int j) H Q := .inr (.inr ⟨z, j, c, rfl, rfl, hz, e, q⟩)
theorem rd_bm {T : String} {rm : V → List V → Hp → VK → Prop} {to : TE} {ts : TA} (q : to σ H fun x H1 => tyV K T x H1 ∧ ts σ H1 fun xs H2 => rm x xs H2 Q) : tBM K T rm to ts σ H Q := q
theorem rd_gSub {to ti : TE} {ts : TSet} {Qs : St → Hp → Prop} (q : to σ H fun o H1 => ti σ H1 fun i H2 => ts o i v H2 fun H3 => Qs σ H3) : gSub to ti ts v σ H Qs := q
theorem rd_gTup {a : Addr} {xs : List V} {n : Nat} {ts : TGs} {Qs : St → Hp → Prop} (h : SqT K H a xs) (hl : xs.length = n) (q : ts xs σ H Qs) : gTup K n ts (.ref a) σ H Qs := ⟨a, xs, rfl, h, hl, q⟩
theorem rd_gCons {t : TG} {u : TGs} {x : V} {xs : List V} {Qs : St → Hp → Prop} (q : t x σ H fun σ' H' => u xs σ' H' Qs) : gCons t u (x :: xs) σ H Qs := ⟨x, xs, rfl, q⟩
theorem rd_gNil {Qs : St → Hp → Prop} (q : Qs σ H) : gNil [] σ H Qs := ⟨rfl, q⟩
theorem rd_sFld {f : Str} {tv : TE} (q : tv σ H fun y H1 => ta σ H1 fun x H2 => ∃ a C dx fs, x = .ref a ∧ H2 a = some (.ins C dx fs) ∧ Cls K C ∧ NoAttr K C f ∧ fs.length < 1000 ∧ D.nx σ (upd H2 a (.ins C dx (putF f y fs)))) : sFld K ta tv f D σ H := q
theorem rd_chain {r' : R2} {tc : TE} (q : ta σ H fun x H1 => tb σ H1 fun y H2 => r x y H2 fun z H3 => ∃ k, z = .bl k ∧ (if k = true then tc σ H3 fun w' H4 => r' y w' H4 Q else Q (.bl false) H3)) : tChain r r' ta tb tc σ H Q := q
theorem rd_yes {Qb : Bool → Hp → Prop} (q : Qb true H) : tYes σ H Qb := q
theorem ifd {c A B : Prop} [Decidable c] (h1 : c → A) (h2 : ¬ c → B) : if decide c = true then A else B := by
  by_cases h : c
  · rw [if_pos (decide_eq_true h)]; exact h1 h
  · rw [if_neg (by simpa using h)]; exact h2 h
theorem ifT {b : Bool} {A B : Prop} (e : b = true) (h : A) : if b = true then A else B := by rw [if_pos e]; exact h
theorem ifF {b : Bool} {A B : Prop} (e : b = false) (h : B) : if b = true then A else B := by rw [if_neg (by rw [e]; exact Bool.false_ne_true)]; exact h

theorem rd_forSeq {tl : TE} {g : TG} {a : Addr} {xs : List V} (hx : ∀ R : VK, R (.ref a) H1 → tl σ H R) (hq : SqL K H1 a xs ∨ SqT K H1 a xs) (Pv : Nat → St → Hp → Prop) (h0 : Pv 0 σ H1) (hS : ∀ i σ' H', Pv i σ' H' → Same H1 H')
    (hs : ∀ i x σ' H', xs[i]? = some x → Pv i σ' H' → g x σ' H' fun σ2 H2 => t { D with nx := Pv (i + 1), ct := Pv (i + 1), bk := D.nx } σ2 H2) (hd : ∀ σ' H', Pv xs.length σ' H' → D.nx σ' H') : tFor (iSeq K tl) g t D σ H := by
  rcases hq with hq | hq
  · exact .inl (hx _ ⟨a, rfl, ⟨xs, hq⟩, for_list (xs := xs) Pv h0 (fun i σ' H' _ p => (hS i σ' H' p).seq hq) hs hd⟩)
  · exact .inr (hx _ ⟨a, rfl, ⟨xs, hq⟩, for_tup (xs := xs) Pv h0 (fun i σ' H' _ p => (hS i σ' H' p).seqT hq) hs hd⟩)
theorem comp_go {J : It} {g : TG} {tt : TT} {imp : List (Option Nat)} {n : Nat} (hn : n ≤ sizeLine) (Pv : Nat → List V → St → Hp → Prop) (h0 : Pv 0 [] (impS imp σ) H1) (hy : ∀ i ys σ' H', Pv i ys σ' H' → ys.length ≤ i)
    (hstop : ∀ ys σ' H', Pv n ys σ' H' → J.stop n H') (hgo : ∀ i ys σ' H', i < n → Pv i ys σ' H' → J.go i H')
    (hs : ∀ i ys x σ' H' H2, i < n → J.yld i H' x H2 → Pv i ys σ' H' → g x σ' H2 fun σ2 H3 => tt σ2 H3 fun b H4 => if b = true then te σ2 H4 fun y H5 => Pv (i + 1) (ys ++ [y]) σ2 H5 else Pv (i + 1) ys σ2 H4)
    (hd : ∀ ys σ' H', Pv n ys σ' H' → ∀ p H2, H' p = none → Same H' H2 → H2 p = some (.lst ys) → Q (.ref p) H2) :
    ∃ W : Nat → Nat → List V → St → Hp → Prop, (∃ m, W 0 m [] (impS imp σ) H1) ∧ ∀ i m ys σ' H', W i m ys σ' H' →
      (J.stop i H' ∧ ys.length ≤ sizeLine ∧ ∀ D, H' D = none → Q (.ref D) (upd H' D (.lst ys))) ∨
      (J.go i H' ∧ ys.length < sizeLine ∧ ∃ N : List V → St → Hp → Prop, (∀ ys' σ2 H2, N ys' σ2 H2 → ∃ m', m' < m ∧ W (i + 1) m' ys' σ2 H2) ∧
        ∀ x H2, J.yld i H' x H2 → g x σ' H2 fun σ2 H3 => tt σ2 H3 fun b H4 => if b = true then te σ2 H4 fun y H5 => N (ys ++ [y]) σ2 H5 else N ys σ2 H4) := by
  refine ⟨fun i m ys σ' H' => m = n - i ∧ i ≤ n ∧ Pv i ys σ' H', ⟨n, by simp, Nat.zero_le _, h0⟩, ?_⟩
  rintro i m ys σ' H' ⟨rfl, hi, p⟩
  have hl := hy i ys σ' H' p
  by_cases hlt : i < n
  · exact .inr ⟨hgo i ys σ' H' hlt p, by omega, fun ys' σ2 H2 => Pv (i + 1) ys' σ2 H2, fun ys' σ2 H2 p' => ⟨n - (i + 1), by omega, rfl, hlt, p'⟩, fun x H2 y => hs i ys x σ' H' H2 hlt y p⟩
  · have e : i = n := by omega
    subst e
    exact .inl ⟨hstop ys σ' H' p, by omega, fun q hq => hd ys σ' H' p q _ hq (.new hq) upd_same⟩
theorem rd_compSeq {tl : TE} {g : TG} {tt : TT} {imp : List (Option Nat)} {a : Addr} {xs : List V} (hx : ∀ R : VK, R (.ref a) H1 → tl σ H R) (hq : SqL K H1 a xs ∨ SqT K H1 a xs) (hn : xs.length ≤ sizeLine) (Pv : Nat → List V → St → Hp → Prop)
    (h0 : Pv 0 [] (impS imp σ) H1) (hy : ∀ i ys σ' H', Pv i ys σ' H' → ys.length ≤ i) (hS : ∀ i ys σ' H', Pv i ys σ' H' → Same H1 H')
    (hs : ∀ i ys x σ' H', xs[i]? = some x → Pv i ys σ' H' → g x σ' H' fun σ2 H3 => tt σ2 H3 fun b H4 => if b = true then te σ2 H4 fun y H5 => Pv (i + 1) (ys ++ [y]) σ2 H5 else Pv (i + 1) ys σ2 H4)
    (hd : ∀ ys σ' H', Pv xs.length ys σ' H' → ∀ p H2, H' p = none → Same H' H2 → H2 p = some (.lst ys) → Q (.ref p) H2) : tComp (iSeq K tl) g tt te imp σ H Q := by
  rcases hq with hq | hq
  · refine .inl (hx _ ⟨a, rfl, ⟨xs, hq⟩, comp_go (n := xs.length) hn Pv h0 hy (fun ys σ' H' p => ⟨xs, (hS _ _ _ _ p).seq hq, Nat.le_refl _⟩) (fun i ys σ' H' hi p => ⟨xs, xs[i], (hS _ _ _ _ p).seq hq, by simp [hi]⟩) (fun i ys x σ' H' H2 hi y p => ?_) hd⟩)
    obtain ⟨e, y⟩ := y
    subst e
    exact hs i ys x σ' _ (y xs ((hS _ _ _ _ p).seq hq)) p
  · refine .inr (hx _ ⟨a, rfl, ⟨xs, hq⟩, comp_go (n := xs.length) hn Pv h0 hy (fun ys σ' H' p => ⟨xs, (hS _ _ _ _ p).seqT hq, Nat.le_refl _⟩) (fun i ys σ' H' hi p => ⟨xs, xs[i], (hS _ _ _ _ p).seqT hq, by simp [hi]⟩) (fun i ys x σ' H' H2 hi y p => ?_) hd⟩)
    obtain ⟨e, y⟩ := y
    subst e
    exact hs i ys x σ' _ (y xs ((hS _ _ _ _ p).seqT hq)) p
end
end L2
namespace L2
open PySem PySem.Spec PyProof.Rows
section
variable {X : Cx} {K : PySem.W.Frag} {pos : Pos}
theorem op_addK (hK : X.K = K) : OpR X (binaryOp .Add) (rAddA K) := hK ▸ op_addA
theorem op_eqK (hK : X.K = K) (hu : X.A.units + 64 < cLine) : OpR X (compareOp .Eq) (rEqA K) := hK ▸ op_eqA hu
theorem call_lenK (hK : X.K = K) : CallR X (.builtin "len") (rLen K) := hK ▸ call_lenN
theorem call_tupleK (hK : X.K = K) : CallR X (.type "tuple") (rTupleOf K) := hK ▸ call_tupleN
theorem ix_seqK (hK : X.K = K) : IxR X (rIx K) := hK ▸ ix_seq
theorem pe_fldK {e : Expr} {ta : TE} {f : Str} (hK : X.K = K) (he : PE X e ta) (hb : attributeBase e f X.env (eval e X.env) = eval e X.env) : PE X (.Attribute e f pos) (tFld K ta f) := hK ▸ pe_fld he hb
theorem ps_fldK {o value : Expr} {f : Str} {pos' : Pos} {ta tv : TE} (hK : X.K = K) (ha : PE X o ta) (hv : PE X value tv) (hs : swapsWith value (some (.Attribute o f pos')) pos.line X.env = pure false) : PS X (.Assign [.Attribute o f pos'] value pos) (sFld K ta tv f) := hK ▸ ps_fld ha hv hs
theorem pi_seqK {tg l : Expr} {tl : TE} (hK : X.K = K) (hl : PE X l tl) : PI X tg l (iSeq K tl) := hK ▸ pi_seq hl
theorem pg_tupK {es : List Expr} {k : Nat} {t : TGs} {n : Nat} (hK : X.K = K) (hc : X.calm = true) (h : PGs X es t) (hn : (assignEach es X.env).length = n) (hst : (assignEach es X.env).findIdx? (·.1) = none) : PG X (.Tuple es k pos) (gTup K n t) := hK ▸ pg_tup hc h hn hst
theorem pt_truK {a : Expr} {ta : TE} (hK : X.K = K) (ha : PE X a ta) (he : ∀ whole, isTrue a X.env whole = (do let v ← whole; standAt a.pos; holding [v] (truthy v))) : PT X a (tTru K ta) := hK ▸ pt_tru ha he
theorem pe_bmK {o e : Expr} {es : List Expr} {to : TE} {t : TA} {name : Str} {apos cpos : Pos} {T id : String} {r : V → List V → Hp → VK → Prop} (hK : X.K = K) (pa : PlainAttrs T) (slot : Slot T name id) (hty : typeOf (.builtin id) = pure (.type "method_descriptor")) (hm : MtR X id r) (ho : PE X o to) (ha : PA X (e :: es) t)
    (hbase : attributeBase o name X.env (eval o X.env) = eval o X.env := by rfl)
    (hfew : ((backTo cpos (starEach (e :: es) X.env)).all (fun x => !x.1) && (backToKw cpos (keywordEach [] X.env)).all (fun x => x.1.isSome)
      && decide ((e :: es).length + ([] : List Keyword).length + (if ([] : List Keyword).isEmpty then 0 else 1) < 30)) = true := by rfl)
    (hline : (apos.endLine == cpos.line) = true := by rfl) (hs : starEach (e :: es) X.env = (false, eval e X.env) :: starEach es X.env := by rfl) (hplain : (backTo cpos (starEach es X.env)).any (·.1) = false := by rfl) :
    PE X (.Call (.Attribute o name apos) (e :: es) [] cpos) (tBM K T r to t) := hK ▸ pe_bm pa slot hty hm ho ha hbase hfew hline hs hplain
end
end L2

namespace LR
open PySem L2

theorem sz2 {a b : V} : [a, b].length ≤ sizeLine := by show 2 ≤ sizeLine; decide
theorem tru_bl (K : PySem.W.Frag) (H : Hp) (k : Bool) : TruV K (.bl k) H k := rfl
abbrev Pr := Int × Int
def prD (p : Pr) : PyData := .tuple [.int p.1, .int p.2]
section
variable {K : PySem.W.Frag} {H H' : Hp}
theorem prD_inv {v : V} {p : Pr} (r : Rep K H v (prD p)) : ∃ a, v = .ref a ∧ SqT K H a [.int p.1, .int p.2] := by
  obtain ⟨a, xs, rfl, h, l, q⟩ := r.tupI
  match xs, l, q, h with
  | [x, y], _, q, h =>
    have e1 := (q 0 x (.int p.1) rfl rfl).intI
    have e2 := (q 1 y (.int p.2) rfl rfl).intI
    subst e1 e2
    exact ⟨a, rfl, h⟩
theorem prD_mk {a : Addr} {b n : Int} (h : SqT K H a [.int b, .int n]) : Rep K H (.ref a) (prD (b, n)) := .tupL h (.cons (.int b) (.cons (.int n) .nil))
theorem prD_mk' {a : Addr} {b n : Int} (h : H a = some (.tup [.int b, .int n])) : Rep K H (.ref a) (prD (b, n)) := prD_mk (.of h)
abbrev Prs (K : PySem.W.Frag) (H : Hp) (vs : List V) (ps : List Pr) : Prop := RepL K H vs (ps.map prD)
theorem Prs.len {vs : List V} {ps : List Pr} (r : Prs K H vs ps) : vs.length = ps.length := by have := r.1; rwa [List.length_map] at this
theorem Prs.at {vs : List V} {ps : List Pr} {i : Nat} {v : V} (r : Prs K H vs ps) (e : vs[i]? = some v) : ∃ p a, ps[i]? = some p ∧ v = .ref a ∧ SqT K H a [.int p.1, .int p.2] := by
  obtain ⟨d, h1, h2⟩ := r.get' e
  rw [List.getElem?_map] at h1
  cases hp : ps[i]? with
  | none => rw [hp] at h1; cases h1
  | some p =>
    rw [hp] at h1; cases h1
    obtain ⟨a, e1, e2⟩ := prD_inv h2
    exact ⟨p, a, rfl, e1, e2⟩
theorem Prs.snoc {vs : List V} {ps : List Pr} {v : V} {p : Pr} (r : Prs K H vs ps) (h : Rep K H v (prD p)) : Prs K H (vs ++ [v]) (ps ++ [p]) := by
  show RepL K H _ _
  rw [List.map_append]
  exact RepL.snoc r h
def SeqP (K : PySem.W.Frag) (H : Hp) (v : V) (ps : List Pr) : Prop := ∃ a vs, v = .ref a ∧ (SqL K H a vs ∨ SqT K H a vs) ∧ Prs K H vs ps
end

structure Good (ps : List Pr) : Prop where
  one : ∀ (i : Nat) (p : Pr), ps[i]? = some p → 1 ≤ p.2
  gap : ∀ (i : Nat) (p q : Pr), ps[i]? = some p → ps[i + 1]? = some q → p.1 + p.2 < q.1
theorem Good.nil : Good [] := ⟨fun i p e => by simp at e, fun i p q e => by simp at e⟩
theorem Good.snoc {ps : List Pr} {p : Pr} (g : Good ps) (h1 : 1 ≤ p.2) (h2 : ∀ q, ps[ps.length - 1]? = some q → q.1 + q.2 < p.1) : Good (ps ++ [p]) := by
  refine ⟨fun i q e => ?_, fun i q r e1 e2 => ?_⟩
  · by_cases hi : i < ps.length
    · rw [List.getElem?_append_left hi] at e; exact g.one i q e
    · rw [List.getElem?_append_right (by omega)] at e
      obtain ⟨h3, h4⟩ := List.getElem?_eq_some_iff.mp e
      have : i - ps.length = 0 := by simp at h3; omega
      rw [this] at e; simp at e; subst e; exact h1
  · by_cases hi : i + 1 < ps.length
    · rw [List.getElem?_append_left (by omega)] at e1
      rw [List.getElem?_append_left hi] at e2
      exact g.gap i q r e1 e2
    · rw [List.getElem?_append_right (by omega)] at e2
      obtain ⟨h3, h4⟩ := List.getElem?_eq_some_iff.mp e2
      have h5 : i + 1 - ps.length = 0 := by simp at h3; omega
      rw [h5] at e2; simp at e2; subst e2
      have h6 : i = ps.length - 1 := by omega
      have h7 : i < ps.length := by omega
      rw [List.getElem?_append_left h7] at e1
      rw [h6] at e1
      exact h2 q e1

def rowF (t : Addr) : List (Str × V) := [("stretches", .ref t)]
def RowAt (C : Addr) (K : PySem.W.Frag) (H : Hp) (v : V) (ps : List Pr) : Prop :=
  ∃ x dx t ts, v = .ref x ∧ H x = some (.ins C dx (rowF t)) ∧ H t = some (.tup ts) ∧ Prs K H ts ps
theorem RowAt.mono {C : Addr} {K : PySem.W.Frag} {H H' : Hp} {v : V} {ps : List Pr} (e : Same H H') (r : RowAt C K H v ps) : RowAt C K H' v ps := by
  obtain ⟨x, dx, t, ts, h0, h1, h2, h3⟩ := r
  exact ⟨x, dx, t, ts, h0, e _ _ h1, e _ _ h2, RepL.mono e h3⟩
structure RowC (K : PySem.W.Frag) (C : Addr) : Prop where
  cl : Cls K C
  ns : NoAttr K C "stretches"
theorem rowF_look (t : Addr) : (rowF t).lookup ("stretches" : Str) = some (.ref t) := by
  unfold rowF
  rw [List.lookup_cons]
  have : (("stretches" : Str) == ("stretches" : Str)) = true := by decide +kernel
  rw [this]
theorem putF_row (t : Addr) : putF "stretches" (.ref t) [] = rowF t := rfl

def spCheck (K : PySem.W.Frag) : Sp := fun vs H Q _ => ∃ v ps, vs = [v] ∧ SeqP K H v ps ∧ Good ps ∧ ∀ H', Same H H' → Q .non H'
def spInit (C : Addr) (K : PySem.W.Frag) : Sp := fun vs H Q _ => ∃ x dx v ps, vs = [.ref x, v] ∧ H x = some (.ins C dx []) ∧ SeqP K H v ps ∧ Good ps ∧ ps.length ≤ 30 ∧
  ∀ H' t ts, SameEx x H H' → H' x = some (.ins C dx (rowF t)) → H' t = some (.tup ts) → Prs K H' ts ps → Q .non H'
def MakeR (C : Addr) (sp : Sp) (E : XK) (vs : List V) (H1 : Hp) (Q : VK) : Prop := ∀ x dx, H1 x = none → H1 dx = none → dx ≠ x →
  sp (.ref x :: vs) (upd (upd H1 dx (.own x)) x (.ins C dx [])) (fun v H2 => v = .non ∧ Q (.ref x) H2) E
theorem rd_make {C : Addr} {sp : Sp} {E : XK} {ts : TA} {σ : St} {H : Hp} {Q : VK} (q : ts σ H fun vs H1 => MakeR C sp E vs H1 Q) : tMake C sp [] E ts σ H Q := by
  have e : (fun vs H1 => MakeR C sp E vs H1 Q) = fun vs H1 => ∀ x dx, H1 x = none → H1 dx = none → dx ≠ x → sp (.ref x :: (vs ++ [])) (upd (upd H1 dx (.own x)) x (.ins C dx [])) (fun v H2 => v = .non ∧ Q (.ref x) H2) E := by
    funext vs H1; rw [List.append_nil]; rfl
  show ts σ H _
  rw [← e]; exact q
theorem rd_row {C : Addr} {K : PySem.W.Frag} {H : Hp} {Q : VK} {v : V} {ps : List Pr} {E : XK} (h : SeqP K H v ps) (g : Good ps) (hl : ps.length ≤ 30) (q : ∀ x H', H x = none → Same H H' → RowAt C K H' (.ref x) ps → Q (.ref x) H') : MakeR C (spInit C K) E [v] H Q := by
  intro x dx nx ndx nex
  have s0 : Same H (upd (upd H dx (.own x)) x (.ins C dx [])) := fun b o e => by
    rw [upd_ne (ne_of_none e nx), upd_ne (ne_of_none e ndx)]; exact e
  obtain ⟨a, vs, rfl, hq, hp⟩ := h
  refine ⟨x, dx, _, ps, rfl, upd_same, ⟨a, vs, rfl, hq.imp s0.seq s0.seqT, RepL.mono s0 hp⟩, g, hl, fun H' t ts e h1 h2 h3 => ⟨rfl, q x H' nx (fun b o h => e b o (ne_of_none h nx) (s0 b o h)) ⟨x, dx, t, ts, rfl, h1, h2, h3⟩⟩⟩

def cell (ns : List Int) (k : Int) : Int := ns.getD k.toNat 0
end LR

namespace LR
open PySem L2

theorem cell_out {ns : List Int} {k : Int} (h : ¬ k < (ns.length : Int)) : cell ns k = 0 := by
  unfold cell
  rw [List.getD_eq_getElem?_getD, List.getElem?_eq_none (by omega)]
  rfl
def spr (ns : List Int) (at' span p0 : Int) : Nat → Int × List Pr
  | 0 => (p0, [])
  | i + 1 => ((spr ns at' span p0 i).1 + (1 + cell ns (at' + 1 + 2 * i) % span) + 1 + cell ns (at' + 2 + 2 * i) % span, (spr ns at' span p0 i).2 ++ [((spr ns at' span p0 i).1, 1 + cell ns (at' + 1 + 2 * i) % span)])
theorem spr_len (ns : List Int) (at' span p0 : Int) : ∀ i, (spr ns at' span p0 i).2.length = i
  | 0 => rfl
  | i + 1 => by show (_ ++ [_]).length = _; rw [List.length_append, spr_len ns at' span p0 i]; rfl
theorem spr_good (ns : List Int) (at' span p0 : Int) (hs : 0 < span) : ∀ i, Good (spr ns at' span p0 i).2 ∧ ∀ q, (spr ns at' span p0 i).2[i - 1]? = some q → q.1 + q.2 < (spr ns at' span p0 i).1
  | 0 => ⟨Good.nil, fun q e => by simp [spr] at e⟩
  | i + 1 => by
    obtain ⟨g, h⟩ := spr_good ns at' span p0 hs i
    have m1 := Int.emod_nonneg (cell ns (at' + 1 + 2 * i)) (b := span) (by omega)
    have m2 := Int.emod_nonneg (cell ns (at' + 2 + 2 * i)) (b := span) (by omega)
    refine ⟨g.snoc (by show 1 ≤ 1 + _; omega) (by rw [spr_len]; exact h), fun q e => ?_⟩
    have e' : ((spr ns at' span p0 i).2 ++ [((spr ns at' span p0 i).1, 1 + cell ns (at' + 1 + 2 * i) % span)])[i]? = some q := e
    rw [List.getElem?_append_right (by rw [spr_len]; exact Nat.le_refl _), spr_len] at e'
    simp at e'
    subst e'
    show _ + (1 + _) < _ + (1 + _) + 1 + _
    omega
def behindV (ps : List Pr) : Nat → V
  | 0 => .non
  | i + 1 => match ps[i]? with
    | some p => .int (p.1 + p.2)
    | none => .non
theorem behind_succ {ps : List Pr} {i : Nat} {p : Pr} (e : ps[i]? = some p) : behindV ps (i + 1) = .int (p.1 + p.2) := by
  show (match ps[i]? with | some p => V.int (p.1 + p.2) | none => V.non) = _
  rw [e]
theorem cl_check {K : PySem.W.Frag} {v : V} {ps : List Pr} {H : Hp} {Q : VK} {E : XK} (h : SeqP K H v ps) (g : Good ps) (q : ∀ H', Same H H' → Q .non H') : spCheck K [v] H Q E := ⟨v, ps, rfl, h, g, q⟩
theorem rd_lenSq {K : PySem.W.Frag} {a : Addr} {xs : List V} {H : Hp} {Q : VK} (h : SqL K H a xs ∨ SqT K H a xs) (q : Q (.int xs.length) H) : rLen K [.ref a] H Q := by
  rcases h with h | h
  · exact rd_lenL h q
  · exact rd_lenT h q
theorem SameEx.sqT' {K : PySem.W.Frag} {H H' : Hp} {x a C dx : Addr} {fs : List (Str × V)} {xs : List V} (e : SameEx x H H') (hx : H x = some (.ins C dx fs)) (h : SqT K H a xs) : SqT K H' a xs := by
  rcases h with (h | ⟨o, h⟩) | h
  · exact .inl (.inl (e _ _ (ne_of h hx (by intro z; cases z)) h))
  · exact .inl (.inr ⟨o, e _ _ (ne_of h hx (by intro z; cases z)) h⟩)
  · exact .inr h
theorem Prs.monoIns {K : PySem.W.Frag} {H H' : Hp} {x C dx : Addr} {fs : List (Str × V)} {vs : List V} {ps : List Pr} (e : SameEx x H H') (hx : H x = some (.ins C dx fs)) (r : Prs K H vs ps) : Prs K H' vs ps := by
  refine ⟨r.1, fun i v d h1 h2 => ?_⟩
  obtain ⟨p, a, e1, e2, e3⟩ := r.at h1
  rw [List.getElem?_map, e1] at h2
  cases h2
  subst e2
  exact prD_mk (SameEx.sqT' e hx e3)
def spLaw (K : PySem.W.Frag) : Sp := fun vs H Q _ => ∃ (a : Addr) (ns : List Int), vs = [.ref a] ∧ SqL K H a (ns.map V.int) ∧ ns.length ≤ 63 ∧ ∀ H', Q (.bl true) H'
end LR
namespace LR
open PySem L2
end LR

namespace L2
open PySem PySem.Spec PyProof.Rows

section
variable {X : Cx} {pins : List (Addr × Obj)} {σ : St} {H : Hp} {s : Shared}
theorem iter_walk {A' : Around} {E : Value → Shared → Prop} {Q : Value → Shared → Prop} {a : Addr} {vs : List V} (hh : A'.handled = none) (I : Inv X pins σ H s) (hq : SqL X.K H a vs ∨ SqT X.K H a vs)
    (h : ∀ (its : List Value) (J : Addr) (fp wr : List Addr) (Sx : Nat → Heap → Prop) (s2 : Shared), Vals vs its → Walks X.prog X.w A' J fp wr its.toArray.size (fun i v => its.toArray[i]? = some v) Sx → Sx 0 s2.heap → (∀ b ∈ fp, b < s2.heap.objs.size) →
      (∀ h' tk, (∀ b o, b ∉ wr → s2.heap.get? b = some o → h'.get? b = some o) → Inv X pins σ H { s2 with heap := h', toks := tk }) → Q (.ref J) s2) : wpAny (model X.prog X.w) A' (pyIter (.ref a)) Q E s := by
  have nin : ∀ b o, s.heap.get? b = some o → b ∉ [s.heap.objs.size] := fun b o e z => by
    have : b = s.heap.objs.size := by simpa using z
    exact absurd (Heap.lt_size e) (by rw [this]; exact Nat.lt_irrefl _)
  rcases hq with hq | hq
  · obtain ⟨its, rv, p, hz⟩ := I.list hq
    have hlt : a < s.heap.objs.size := by obtain ⟨_, e, _⟩ := p.isList; exact Heap.lt_size e
    refine wpAny_pyIter_list p.isList ?_
    refine h its _ _ _ _ _ rv (Walks.list hh _ a (Nat.ne_of_lt hlt) its.toArray) ⟨⟨_, Heap.get?_push_size _ rfl, rfl, rfl⟩, p.isList.push _⟩ (fun b hb => ?_) fun h' tk hk => I.kept fun b o e => hk b o (nin b o e) (Heap.get?_push_of_some _ e)
    show b < (s.heap.push _).objs.size
    rw [Heap.size_push]
    rcases List.mem_cons.mp hb with z | z
    · rw [z]; exact Nat.lt_succ_self _
    · have : b = a := by simpa using z
      rw [this]; exact Nat.lt_succ_of_lt hlt
  · obtain ⟨its, rv, p, hz⟩ := I.tuple hq
    have ht : s.heap.IsTuple a its.toArray := p
    have hlt : a < s.heap.objs.size := by obtain ⟨_, e, _⟩ := ht; exact Heap.lt_size e
    refine wpAny_pyIter_tuple ht ?_
    refine h its _ _ _ _ _ rv (Walks.tuple hh _ a (Nat.ne_of_lt hlt) its.toArray) ⟨⟨_, Heap.get?_push_size _ rfl, rfl, rfl⟩, ?_⟩ (fun b hb => ?_) fun h' tk hk => I.kept fun b o e => hk b o (nin b o e) (Heap.get?_push_of_some _ e)
    · obtain ⟨o, e, c⟩ := ht
      exact ⟨o, Heap.get?_push_of_some _ e, c⟩
    · show b < (s.heap.push _).objs.size
      rw [Heap.size_push]
      rcases List.mem_cons.mp hb with z | z
      · rw [z]; exact Nat.lt_succ_self _
      · have : b = a := by simpa using z
        rw [this]; exact Nat.lt_succ_of_lt hlt
end

theorem preSum_list (l : List Int) : ∀ j, j ≤ l.length → preSum (fun i => l.getD i 0) j = (l.take j).sum
  | 0, _ => by simp [preSum]
  | j + 1, h => by
    rw [preSum, preSum_list l j (by omega)]
    have hj : j < l.length := by omega
    rw [List.take_add_one, List.sum_append]
    simp [hj]
section
variable {X : Cx}
def rSum (K : PySem.W.Frag) : List V → Hp → VK → Prop := fun xs H Q => ∃ (a : Addr) (ns : List Int), xs = [.ref a] ∧ (SqL K H a (ns.map V.int) ∨ SqT K H a (ns.map V.int)) ∧ Q (.int ns.sum) H
theorem call_sumN (hc : X.calm = true) : CallR X (.builtin "sum") (rSum X.K) := by
  intro pins s σ H xs us Q I r h
  obtain ⟨a, ns, rfl, hq, q⟩ := h
  obtain ⟨u, rfl, rx⟩ := vals1 r
  cases rx
  refine call_sum_walkG (iter_walk (A' := X.A.in1) (I.ok.hd hc) I hq fun its J fp wr Sx s2 rv W st hfp hI => ?_)
  have hi := intsAre_of rv
  have hl := rv.length
  rw [List.length_map] at hl
  refine ⟨J, fp, wr, _, _, Sx, fun i => ns.getD i 0, rfl, W, st, hfp, fun i v e => ?_, fun h' tk t' hk => ?_⟩
  · have e' : its[i]? = some v := by simpa using e
    obtain ⟨x, e1, e2⟩ := rv.get' e'
    rw [List.getElem?_map] at e1
    cases hn : ns[i]? with
    | none => rw [hn] at e1; cases e1
    | some n =>
      rw [hn] at e1; cases e1
      obtain ⟨t, rfl⟩ := e2
      exact ⟨t, by simp [List.getD_eq_getElem?_getD, hn]⟩
  · refine ⟨.int ns.sum, H, hI h' tk hk, ⟨t', ?_⟩, q⟩
    rw [show its.toArray.size = ns.length by simp [hl], preSum_list ns _ (Nat.le_refl _), List.take_length]
def strI (i : Int) : Str := (toString i : String)
end
section
variable {X : Cx} {K : PySem.W.Frag}
theorem call_sumK (hK : X.K = K) (hc : X.calm = true) : CallR X (.builtin "sum") (rSum K) := hK ▸ call_sumN hc
end
section
variable {K : PySem.W.Frag} {H : Hp} {Q : VK}
end
end L2
namespace L2
open PySem PySem.Spec PyProof.Rows
def AllP {α : Type} (P : α → Prop) : List α → Prop
  | [] => True
  | x :: xs => P x ∧ AllP P xs
theorem AllP.mem {α : Type} {P : α → Prop} : ∀ {l : List α}, AllP P l → ∀ x ∈ l, P x
  | [], _, x, hx => nomatch hx
  | y :: l, h, x, hx => by
    rcases List.mem_cons.mp hx with z | z
    · rw [z]; exact h.1
    · exact AllP.mem h.2 x z
end L2

namespace LR
open PySem L2

def Small (i : Int) : Prop := i.natAbs.log2 < 1920
theorem Small.of {i : Int} (h : i.natAbs < 2 ^ 1920) : Small i := by
  unfold Small
  by_cases h0 : i.natAbs = 0
  · rw [h0]; decide
  · exact (Nat.log2_lt h0).mpr h
end LR

namespace LE
open PySem L2 LR

inductive D where
  | non | bl (b : Bool) | int (i : Int) | str (x : Str) | tup (l : List D) | lst (l : List D) | fz (l : List D) | row (l : List D) | dct (ks : List Int) (l : List D) | dfz (ks : List Int) (l : List D) | exc (n : Str)
def dkO (ks : List Int) (xs : List V) : HO := .dK ((ks.map Sum.inl).zip xs)
def XO (a : Addr) (c : Value) : HO := .ext fun h => ∃ o, h.get? a = some o ∧ o.cls = c ∧ PySem.W.notCls o = true ∧ o.dict = none

section
variable (K : PySem.W.Frag) (C : Addr)
inductive RD (H : Hp) : V → D → Prop
  | non : RD H .non .non
  | bl (b : Bool) : RD H (.bl b) (.bl b)
  | int (i : Int) : RD H (.int i) (.int i)
  | str (x : Str) : RD H (.str x) (.str x)
  | tup {a : Addr} {xs : List V} {ds : List D} : SqT K H a xs → xs.length = ds.length → (∀ (i : Nat) (x : V) (d : D), xs[i]? = some x → ds[i]? = some d → RD H x d) → RD H (.ref a) (.tup ds)
  | lst {a : Addr} {xs : List V} {ds : List D} : H a = some (.lst xs) → xs.length = ds.length → (∀ (i : Nat) (x : V) (d : D), xs[i]? = some x → ds[i]? = some d → RD H x d) → RD H (.ref a) (.lst ds)
  | fz {a : Addr} {xs : List V} {ds : List D} : SqL K H a xs → xs.length = ds.length → (∀ (i : Nat) (x : V) (d : D), xs[i]? = some x → ds[i]? = some d → RD H x d) → RD H (.ref a) (.fz ds)
  | row {x dx t : Addr} {ts : List V} {ds : List D} : H x = some (.ins C dx (rowF t)) → SqT K H t ts → ts.length = ds.length → (∀ (i : Nat) (x : V) (d : D), ts[i]? = some x → ds[i]? = some d → RD H x d) → RD H (.ref x) (.row ds)
  | dct {a : Addr} {ks : List Int} {xs : List V} {ds : List D} : H a = some (dkO ks xs) → ks.length = ds.length → xs.length = ds.length → (∀ (i : Nat) (x : V) (d : D), xs[i]? = some x → ds[i]? = some d → RD H x d) → RD H (.ref a) (.dct ks ds)
  | dfz {a : Addr} {ks : List Int} {xs : List V} {ds : List D} {o : Obj} : H a = some (.frz o (dkO ks xs)) → ks.length = ds.length → xs.length = ds.length → (∀ (i : Nat) (x : V) (d : D), xs[i]? = some x → ds[i]? = some d → RD H x d) → RD H (.ref a) (.dfz ks ds)
  | exc {a c : Addr} {n : Str} : H a = some (XO a (.ref c)) → PySem.W.nsIn K mainGlobals n = some (some (.ref c)) → RD H (.ref a) (.exc n)
def RDL (H : Hp) (xs : List V) (ds : List D) : Prop := xs.length = ds.length ∧ ∀ (i : Nat) (x : V) (d : D), xs[i]? = some x → ds[i]? = some d → RD K C H x d
end

section
variable {K : PySem.W.Frag} {C : Addr} {H H' : Hp}
theorem RD.mono {v : V} {d : D} (e : Same H H') (r : RD K C H v d) : RD K C H' v d := by
  induction r with
  | non => exact .non
  | bl b => exact .bl b
  | int i => exact .int i
  | str x => exact .str x
  | tup h l _ ih => exact .tup (e.seqT h) l ih
  | lst h l _ ih => exact .lst (e _ _ h) l ih
  | fz h l _ ih => exact .fz (e.seq h) l ih
  | row h1 h2 l _ ih => exact .row (e _ _ h1) (e.seqT h2) l ih
  | dct h1 h2 l _ ih => exact .dct (e _ _ h1) h2 l ih
  | dfz h1 h2 l _ ih => exact .dfz (e _ _ h1) h2 l ih
  | exc h1 h2 => exact .exc (e _ _ h1) h2
theorem RDL.mono {xs : List V} {ds : List D} (e : Same H H') (r : RDL K C H xs ds) : RDL K C H' xs ds := ⟨r.1, fun i x d h1 h2 => (r.2 i x d h1 h2).mono e⟩
theorem RDL.nil : RDL K C H [] [] := ⟨rfl, fun i x d e => by simp at e⟩
theorem RDL.cons {x : V} {d : D} {xs : List V} {ds : List D} (h : RD K C H x d) (r : RDL K C H xs ds) : RDL K C H (x :: xs) (d :: ds) := by
  refine ⟨by simp [r.1], fun i y e h1 h2 => ?_⟩
  cases i with
  | zero => simp at h1 h2; subst h1 h2; exact h
  | succ i => exact r.2 i y e (by simpa using h1) (by simpa using h2)
theorem RDL.append {xs ys : List V} {ds es : List D} (r : RDL K C H xs ds) (q : RDL K C H ys es) : RDL K C H (xs ++ ys) (ds ++ es) := by
  refine ⟨by simp [r.1, q.1], fun i x d h1 h2 => ?_⟩
  by_cases hi : i < xs.length
  · rw [List.getElem?_append_left hi] at h1
    rw [List.getElem?_append_left (by rw [← r.1]; exact hi)] at h2
    exact r.2 i x d h1 h2
  · rw [List.getElem?_append_right (by omega)] at h1
    rw [List.getElem?_append_right (by rw [← r.1]; omega)] at h2
    rw [← r.1] at h2
    exact q.2 _ x d h1 h2
theorem RDL.snoc {xs : List V} {ds : List D} {x : V} {d : D} (r : RDL K C H xs ds) (h : RD K C H x d) : RDL K C H (xs ++ [x]) (ds ++ [d]) := r.append (.cons h .nil)
theorem RDL.get {xs : List V} {ds : List D} {i : Nat} {d : D} (r : RDL K C H xs ds) (e : ds[i]? = some d) : ∃ x, xs[i]? = some x ∧ RD K C H x d := by
  have hi := (List.getElem?_eq_some_iff.mp e).1
  have hx : i < xs.length := by rw [r.1]; exact hi
  exact ⟨xs[i], by simp [hx], r.2 i _ d (by simp [hx]) e⟩
theorem RDL.get' {xs : List V} {ds : List D} {i : Nat} {x : V} (r : RDL K C H xs ds) (e : xs[i]? = some x) : ∃ d, ds[i]? = some d ∧ RD K C H x d := by
  have hi := (List.getElem?_eq_some_iff.mp e).1
  have hx : i < ds.length := by rw [← r.1]; exact hi
  exact ⟨ds[i], by simp [hx], r.2 i x _ e (by simp [hx])⟩
theorem RDL.head {x : V} {xs : List V} {d : D} {ds : List D} (r : RDL K C H (x :: xs) (d :: ds)) : RD K C H x d := r.2 0 x d rfl rfl
theorem RDL.tail {x : V} {xs : List V} {d : D} {ds : List D} (r : RDL K C H (x :: xs) (d :: ds)) : RDL K C H xs ds := ⟨by have := r.1; simpa using this, fun i y e h1 h2 => r.2 (i + 1) y e (by simpa using h1) (by simpa using h2)⟩
theorem RDL.take {xs : List V} {ds : List D} (n : Nat) (r : RDL K C H xs ds) : RDL K C H (xs.take n) (ds.take n) := by
  refine ⟨by simp [r.1], fun i x d h1 h2 => ?_⟩
  rw [List.getElem?_take] at h1 h2
  split at h1
  · rw [if_pos (by assumption)] at h2; exact r.2 i x d h1 h2
  · cases h1
theorem RDL.drop {xs : List V} {ds : List D} (n : Nat) (r : RDL K C H xs ds) : RDL K C H (xs.drop n) (ds.drop n) := by
  refine ⟨by simp [r.1], fun i x d h1 h2 => ?_⟩
  rw [List.getElem?_drop] at h1 h2
  exact r.2 _ x d h1 h2
theorem RDL.set {xs : List V} {ds : List D} {v : V} {e : D} (n : Nat) (r : RDL K C H xs ds) (h : RD K C H v e) : RDL K C H (xs.set n v) (ds.set n e) := by
  refine ⟨by simp [r.1], fun i x d h1 h2 => ?_⟩
  rw [List.getElem?_set] at h1 h2
  split at h1
  · rw [if_pos (by assumption)] at h2
    split at h1
    · rw [if_pos (by rw [← r.1]; assumption)] at h2; cases h1; cases h2; exact h
    · cases h1
  · rw [if_neg (by assumption)] at h2; exact r.2 i x d h1 h2
theorem RDL.reverse {xs : List V} {ds : List D} (r : RDL K C H xs ds) : RDL K C H xs.reverse ds.reverse := by
  refine ⟨by simp [r.1], fun i x d h1 h2 => ?_⟩
  have hi : i < xs.length := by have := (List.getElem?_eq_some_iff.mp h1).1; simpa using this
  rw [List.getElem?_reverse hi] at h1
  rw [List.getElem?_reverse (by rw [← r.1]; exact hi)] at h2
  rw [← r.1] at h2
  exact r.2 _ x d h1 h2
theorem RDL.ints : ∀ {xs : List V} {ns : List Int}, RDL K C H xs (ns.map D.int) → xs = ns.map V.int
  | [], [], _ => rfl
  | [], _ :: _, r => by have := r.1; simp at this
  | _ :: _, [], r => by have := r.1; simp at this
  | x :: xs, n :: ns, r => by
    have h := r.head
    cases h
    rw [RDL.ints r.tail]; rfl
theorem RDL.ofInts : ∀ (ns : List Int), RDL K C H (ns.map V.int) (ns.map D.int)
  | [] => .nil
  | n :: ns => .cons (.int n) (RDL.ofInts ns)
theorem RDL.strs : ∀ {xs : List V} {ns : List Str}, RDL K C H xs (ns.map D.str) → xs = ns.map V.str
  | [], [], _ => rfl
  | [], _ :: _, r => by have := r.1; simp at this
  | _ :: _, [], r => by have := r.1; simp at this
  | x :: xs, n :: ns, r => by
    have h := r.head
    cases h
    rw [RDL.strs r.tail]; rfl
theorem RD.mkT {a : Addr} {xs : List V} {ds : List D} (h : SqT K H a xs) (r : RDL K C H xs ds) : RD K C H (.ref a) (.tup ds) := .tup h r.1 r.2
theorem RD.mkL {a : Addr} {xs : List V} {ds : List D} (h : H a = some (.lst xs)) (r : RDL K C H xs ds) : RD K C H (.ref a) (.lst ds) := .lst h r.1 r.2
theorem RD.mkF {a : Addr} {xs : List V} {ds : List D} (h : SqL K H a xs) (r : RDL K C H xs ds) : RD K C H (.ref a) (.fz ds) := .fz h r.1 r.2
theorem RD.tupI {v : V} {ds : List D} (r : RD K C H v (.tup ds)) : ∃ a xs, v = .ref a ∧ SqT K H a xs ∧ RDL K C H xs ds := by
  cases r with
  | tup h l q => exact ⟨_, _, rfl, h, l, q⟩
theorem RD.lstI {v : V} {ds : List D} (r : RD K C H v (.lst ds)) : ∃ a xs, v = .ref a ∧ H a = some (.lst xs) ∧ RDL K C H xs ds := by
  cases r with
  | lst h l q => exact ⟨_, _, rfl, h, l, q⟩
theorem RD.fzI {v : V} {ds : List D} (r : RD K C H v (.fz ds)) : ∃ a xs, v = .ref a ∧ SqL K H a xs ∧ RDL K C H xs ds := by
  cases r with
  | fz h l q => exact ⟨_, _, rfl, h, l, q⟩
theorem RD.rowI {v : V} {ds : List D} (r : RD K C H v (.row ds)) : ∃ x dx t ts, v = .ref x ∧ H x = some (.ins C dx (rowF t)) ∧ SqT K H t ts ∧ RDL K C H ts ds := by
  cases r with
  | row h1 h2 l q => exact ⟨_, _, _, _, rfl, h1, h2, l, q⟩
theorem RD.mkD {a : Addr} {ks : List Int} {xs : List V} {ds : List D} (h : H a = some (dkO ks xs)) (hk : ks.length = ds.length) (r : RDL K C H xs ds) : RD K C H (.ref a) (.dct ks ds) := .dct h hk r.1 r.2
theorem RD.dctI {v : V} {ks : List Int} {ds : List D} (r : RD K C H v (.dct ks ds)) : ∃ a xs, v = .ref a ∧ H a = some (dkO ks xs) ∧ ks.length = ds.length ∧ RDL K C H xs ds := by
  cases r with
  | dct h hk l q => exact ⟨_, _, rfl, h, hk, l, q⟩
theorem RD.dfzI {v : V} {ks : List Int} {ds : List D} (r : RD K C H v (.dfz ks ds)) : ∃ a xs o, v = .ref a ∧ H a = some (.frz o (dkO ks xs)) ∧ ks.length = ds.length ∧ RDL K C H xs ds := by
  cases r with
  | dfz h hk l q => exact ⟨_, _, _, rfl, h, hk, l, q⟩
theorem RD.excI {v : V} {n : Str} (r : RD K C H v (.exc n)) : ∃ a c, v = .ref a ∧ H a = some (XO a (.ref c)) ∧ PySem.W.nsIn K mainGlobals n = some (some (.ref c)) := by
  cases r with
  | exc h1 h2 => exact ⟨_, _, rfl, h1, h2⟩
theorem RD.intI {v : V} {i : Int} (r : RD K C H v (.int i)) : v = .int i := by cases r; rfl
theorem RD.strI {v : V} {i : Str} (r : RD K C H v (.str i)) : v = .str i := by cases r; rfl
theorem RD.blI {v : V} {i : Bool} (r : RD K C H v (.bl i)) : v = .bl i := by cases r; rfl
theorem RD.nonI {v : V} (r : RD K C H v .non) : v = .non := by cases r; rfl
end

mutual
def D.py : D → PyData
  | .non => .none
  | .bl b => .bool b
  | .int i => .int i
  | .str x => .str x
  | .tup l => .tuple (D.pyL l)
  | .lst l => .list (D.pyL l)
  | .fz l => .list (D.pyL l)
  | .row _ => .dict []
  | .dct _ _ => .dict []
  | .dfz _ _ => .dict []
  | .exc _ => .dict []
def D.pyL : List D → List PyData
  | [] => []
  | d :: ds => d.py :: D.pyL ds
end
theorem pyL_map : ∀ ds : List D, D.pyL ds = ds.map D.py
  | [] => rfl
  | d :: ds => by rw [D.pyL, pyL_map ds]; rfl
theorem layAll_mem : ∀ {ds : List PyData}, PyData.canLayAll0 ds = true → ∀ d ∈ ds, d.canLay0 = true
  | [], _, d, hd => nomatch hd
  | x :: ds, h, d, hd => by
    have h' : (PyData.canLay0 x && PyData.canLayAll0 ds) = true := h
    rw [Bool.and_eq_true] at h'
    rcases List.mem_cons.mp hd with z | z
    · rw [z]; exact h'.1
    · exact layAll_mem h'.2 d z
theorem RD.rep {K : PySem.W.Frag} {C : Addr} {H : Hp} {v : V} {d : D} (r : RD K C H v d) : d.py.canLay0 = true → Rep K H v d.py := by
  have all : ∀ {xs : List V} {ds : List D}, xs.length = ds.length → (∀ (i : Nat) (x : V) (d : D), xs[i]? = some x → ds[i]? = some d → d.py.canLay0 = true → Rep K H x d.py) → PyData.canLayAll0 (D.pyL ds) = true → RepL K H xs (D.pyL ds) := by
    intro xs ds l ih hc
    rw [pyL_map] at hc ⊢
    refine ⟨by simpa using l, fun i x d h1 h2 => ?_⟩
    rw [List.getElem?_map] at h2
    cases e : ds[i]? with
    | none => rw [e] at h2; cases h2
    | some q =>
      rw [e] at h2; cases h2
      exact ih i x q h1 e (layAll_mem hc _ (List.mem_map.mpr ⟨q, List.mem_of_getElem? e, rfl⟩))
  induction r with
  | non => intro _; exact .non
  | bl b => intro _; exact .bl b
  | int i => intro _; exact .int i
  | str x => intro _; exact .str x
  | tup h l _ ih => intro hc; exact .tupL h (all l ih hc)
  | lst h l _ ih => intro hc; exact .lstL (.of h) (all l ih hc)
  | fz h l _ ih => intro hc; exact .lstL h (all l ih hc)
  | row h1 h2 l _ ih => intro hc; cases hc
  | dct h1 h2 l _ ih => intro hc; cases hc
  | dfz h1 h2 l _ ih => intro hc; cases hc
  | exc h1 h2 => intro hc; cases hc

inductive Sl where
  | no | sh (d : D) | bo (ds : List D) | own (ds : List D) | bd (ks : List Int) (ds : List D) | od (ks : List Int) (ds : List D)
def isOwn : Sl → Bool
  | .own _ => true
  | .od _ _ => true
  | _ => false
def isBo : Sl → Bool
  | .bo _ => true
  | .bd _ _ => true
  | _ => false

section
variable (K : PySem.W.Frag) (C : Addr)
def RR (Hs H0 H : Hp) (v : V) : Sl → Prop
  | .no => False
  | .sh d => RD K C H0 v d
  | .bo ds => ∃ l xs, v = .ref l ∧ H l = some (.lst xs) ∧ RDL K C H0 xs ds
  | .own ds => ∃ l xs, v = .ref l ∧ H l = some (.lst xs) ∧ H0 l = none ∧ Hs l = none ∧ RDL K C H0 xs ds
  | .bd ks ds => ∃ l xs, v = .ref l ∧ H l = some (dkO ks xs) ∧ ks.length = ds.length ∧ RDL K C H0 xs ds
  | .od ks ds => ∃ l xs, v = .ref l ∧ H l = some (dkO ks xs) ∧ H0 l = none ∧ Hs l = none ∧ ks.length = ds.length ∧ RDL K C H0 xs ds
def RSl (B H0 H : Hp) (v : V) : Sl → Prop
  | .no => True
  | .sh d => RD K C H0 v d
  | .bo ds => ∃ l xs, v = .ref l ∧ B l = some (.lst xs) ∧ RDL K C H0 xs ds
  | .own ds => ∃ l xs, v = .ref l ∧ H l = some (.lst xs) ∧ H0 l = none ∧ B l = none ∧ RDL K C H0 xs ds
  | .bd ks ds => ∃ l xs, v = .ref l ∧ B l = some (dkO ks xs) ∧ ks.length = ds.length ∧ RDL K C H0 xs ds
  | .od ks ds => ∃ l xs, v = .ref l ∧ H l = some (dkO ks xs) ∧ H0 l = none ∧ B l = none ∧ ks.length = ds.length ∧ RDL K C H0 xs ds
structure EnvR (B H0 H : Hp) (σ : St) (E : List Sl) : Prop where
  b : Same B H
  h : Same H0 H
  len : σ.length = E.length
  at' : ∀ (i : Nat) (s : Sl), E[i]? = some s → s = .no ∨ ∃ v, σ[i]? = some (some v) ∧ RSl K C B H0 H v s
  sep : ∀ (i j : Nat) (s t : Sl) (v : V), i ≠ j → E[i]? = some s → E[j]? = some t → isOwn s = true → isOwn t = true → σ[i]? = some (some v) → σ[j]? ≠ some (some v)
end
def isT : HO → Bool
  | .tup _ => true
  | .frz _ (.tup _) => true
  | _ => false
structure Step (Hs H0 H H0' H' : Hp) : Prop where
  h : Same H H'
  z : Same H0 H0'
  n : ∀ a o, H0' a = some o → H0 a = some o ∨ Hs a = none ∨ isT o = true
  i : Same H0' H'
structure SStep (B H0 H0' H' : Hp) : Prop where
  b : Same B H'
  z : Same H0 H0'
  n : ∀ a o, H0' a = some o → H0 a = some o ∨ B a = none ∨ isT o = true
  i : Same H0' H'

section
variable {K : PySem.W.Frag} {C : Addr} {B Hs H0 H H0' H' H0'' H'' : Hp} {σ : St} {E : List Sl} {v : V} {s : Sl}
theorem Step.refl (i : Same H0 H) : Step Hs H0 H H0 H := ⟨Same.refl _, Same.refl _, fun _ _ e => .inl e, i⟩
theorem Step.comp {Hs' : Hp} (s1 : Step Hs H0 H H0' H') (s2 : Step Hs' H0' H' H0'' H'') (w : ∀ a, Hs' a = none → Hs a = none) : Step Hs H0 H H0'' H'' :=
  ⟨s1.h.trans s2.h, s1.z.trans s2.z, fun a o e => (s2.n a o e).elim (fun q => s1.n a o q) fun q => .inr (q.imp (w a) id), s2.i⟩
theorem Step.trans (s1 : Step H H0 H H0' H') (s2 : Step H' H0' H' H0'' H'') : Step H H0 H H0'' H'' := s1.comp s2 fun _ q => Same.free s1.h q
theorem Step.ss (b : Same B H) (s : Step H H0 H H0' H') : SStep B H0 H0' H' := ⟨b.trans s.h, s.z, fun a o e => (s.n a o e).imp id fun q => q.imp (fun q => Same.free b q) id, s.i⟩
theorem SStep.refl (b : Same B H) (i : Same H0 H) : SStep B H0 H0 H := ⟨b, Same.refl _, fun _ _ e => .inl e, i⟩
theorem SStep.trans (s1 : SStep B H0 H0' H') (s2 : SStep B H0' H0'' H'') : SStep B H0 H0'' H'' := ⟨s2.b, s1.z.trans s2.z, fun a o e => (s2.n a o e).elim (fun q => s1.n a o q) .inr, s2.i⟩
theorem RR.step (r : RR K C Hs H0 H v s) (st : Step H H0 H H0' H') : RR K C Hs H0' H' v s := by
  cases s with
  | no => exact r
  | sh d => exact RD.mono st.z r
  | bo ds => obtain ⟨l, xs, e, h, q⟩ := r; exact ⟨l, xs, e, st.h _ _ h, q.mono st.z⟩
  | bd ks ds => obtain ⟨l, xs, e, h, hk, q⟩ := r; exact ⟨l, xs, e, st.h _ _ h, hk, q.mono st.z⟩
  | own ds =>
    obtain ⟨l, xs, e, h, n, m, q⟩ := r
    refine ⟨l, xs, e, st.h _ _ h, ?_, m, q.mono st.z⟩
    cases z : H0' l with
    | none => rfl
    | some o =>
      rcases st.n l o z with y | y | y
      · rw [n] at y; cases y
      · rw [h] at y; cases y
      · have := st.i l o z
        rw [st.h _ _ h] at this
        cases this; cases y
  | od ks ds =>
    obtain ⟨l, xs, e, h, n, m, hk, q⟩ := r
    refine ⟨l, xs, e, st.h _ _ h, ?_, m, hk, q.mono st.z⟩
    cases z : H0' l with
    | none => rfl
    | some o =>
      rcases st.n l o z with y | y | y
      · rw [n] at y; cases y
      · rw [h] at y; cases y
      · have := st.i l o z
        rw [st.h _ _ h] at this
        cases this; cases y
theorem RR.weak {Hs' : Hp} (r : RR K C Hs' H0 H v s) (w : ∀ a, Hs' a = none → Hs a = none) : RR K C Hs H0 H v s := by
  cases s with
  | own ds => obtain ⟨l, xs, e, h, n, m, q⟩ := r; exact ⟨l, xs, e, h, n, w _ m, q⟩
  | od ks ds => obtain ⟨l, xs, e, h, n, m, q⟩ := r; exact ⟨l, xs, e, h, n, w _ m, q⟩
  | _ => exact r
theorem RSl.owned (r : RSl K C B H0 H v s) (o : isOwn s = true) : ∃ l, v = .ref l ∧ H l ≠ none ∧ H0 l = none ∧ B l = none := by
  cases s with
  | own ds => obtain ⟨l, xs, e, h, n, m, q⟩ := r; exact ⟨l, e, (by rw [h]; intro z; cases z), n, m⟩
  | od ks ds => obtain ⟨l, xs, e, h, n, m, q⟩ := r; exact ⟨l, e, (by rw [h]; intro z; cases z), n, m⟩
  | _ => cases o
theorem RR.owned (r : RR K C Hs H0 H v s) (o : isOwn s = true) : ∃ l, v = .ref l ∧ H l ≠ none ∧ H0 l = none ∧ Hs l = none := by
  cases s with
  | own ds => obtain ⟨l, xs, e, h, n, m, q⟩ := r; exact ⟨l, e, (by rw [h]; intro z; cases z), n, m⟩
  | od ks ds => obtain ⟨l, xs, e, h, n, m, q⟩ := r; exact ⟨l, e, (by rw [h]; intro z; cases z), n, m⟩
  | _ => cases o
theorem EnvR.step (I : EnvR K C B H0 H σ E) (st : Step H H0 H H0' H') : EnvR K C B H0' H' σ E := by
  refine ⟨I.b.trans st.h, st.i, I.len, fun i s e => ?_, I.sep⟩
  rcases I.at' i s e with z | ⟨v, h1, h2⟩
  · exact .inl z
  · refine .inr ⟨v, h1, ?_⟩
    cases s with
    | no => trivial
    | sh d => exact RD.mono st.z h2
    | bo ds => obtain ⟨l, xs, e, h, q⟩ := h2; exact ⟨l, xs, e, h, q.mono st.z⟩
    | own ds => exact RR.step (Hs := B) (s := .own ds) h2 st
    | bd ks ds => obtain ⟨l, xs, e, h, hk, q⟩ := h2; exact ⟨l, xs, e, h, hk, q.mono st.z⟩
    | od ks ds => exact RR.step (Hs := B) (s := .od ks ds) h2 st
theorem EnvR.sub {E' : List Sl} (I : EnvR K C B H0 H σ E) (hl : E'.length = E.length) (h : ∀ (i : Nat) (s : Sl), E'[i]? = some s → s = .no ∨ E[i]? = some s) : EnvR K C B H0 H σ E' := by
  refine ⟨I.b, I.h, I.len.trans hl.symm, fun i s e => ?_, fun i j s t v hij e1 e2 o1 o2 => ?_⟩
  · rcases h i s e with z | z
    · exact .inl z
    · exact I.at' i s z
  · rcases h i _ e1 with z | z
    · subst z; cases o1
    · rcases h j _ e2 with y | y
      · subst y; cases o2
      · exact I.sep i j s t v hij z y o1 o2
theorem EnvR.put (I : EnvR K C B H0 H σ E) {i : Nat} (hi : i < E.length) {Hs : Hp} (hB : ∀ a, Hs a = none → B a = none) (hf : ∀ (j : Nat) (t : Sl) (l : Addr), E[j]? = some t → isOwn t = true → σ[j]? = some (some (.ref l)) → Hs l ≠ none) (r : RR K C Hs H0 H v s) (hb : isBo s = false) : EnvR K C B H0 H (σ.set i (some v)) (E.set i s) := by
  refine ⟨I.b, I.h, by simp [I.len], fun j t e => ?_, fun j k s1 s2 u hjk e1 e2 o1 o2 e3 e4 => ?_⟩
  · rw [List.getElem?_set] at e
    by_cases hj : i = j
    · subst hj
      rw [if_pos rfl, if_pos hi] at e
      cases e
      refine .inr ⟨v, by rw [List.getElem?_set]; simp [I.len, hi], ?_⟩
      cases s with
      | no => trivial
      | sh d => exact r
      | bo ds => cases hb
      | own ds => obtain ⟨l, xs, e, h, n, m, q⟩ := r; exact ⟨l, xs, e, h, n, hB _ m, q⟩
      | bd ks ds => cases hb
      | od ks ds => obtain ⟨l, xs, e, h, n, m, q⟩ := r; exact ⟨l, xs, e, h, n, hB _ m, q⟩
    · rw [if_neg hj] at e
      rcases I.at' j t e with z | ⟨u, h1, h2⟩
      · exact .inl z
      · exact .inr ⟨u, by rw [List.getElem?_set, if_neg hj]; exact h1, h2⟩
  · rw [List.getElem?_set] at e1 e2 e3 e4
    by_cases hj : i = j
    · subst hj
      rw [if_neg hjk] at e2 e4
      rw [if_pos rfl, if_pos hi] at e1
      rw [if_pos rfl, if_pos (by rw [I.len]; exact hi)] at e3
      cases e3
      cases e1
      obtain ⟨l, e, _, _, m⟩ := r.owned o1
      subst e
      exact hf k _ l e2 o2 e4 m
    · rw [if_neg hj] at e1 e3
      by_cases hk : i = k
      · subst hk
        rw [if_pos rfl, if_pos hi] at e2
        rw [if_pos rfl, if_pos (by rw [I.len]; exact hi)] at e4
        cases e2
        have e4' : v = u := Option.some.inj (Option.some.inj e4)
        subst e4'
        obtain ⟨l, e, _, _, m⟩ := r.owned o2
        subst e
        exact hf j _ l e1 o1 e3 m
      · rw [if_neg hk] at e2 e4
        exact I.sep j k _ _ u hjk e1 e2 o1 o2 e3 e4
theorem EnvR.ownG (I : EnvR K C B H0 H σ E) {j : Nat} {t : Sl} {l : Addr} (e1 : E[j]? = some t) (ho : isOwn t = true) (e2 : σ[j]? = some (some (.ref l))) : H l ≠ none ∧ H0 l = none ∧ B l = none := by
  rcases I.at' j _ e1 with z | ⟨v, h1, h2⟩
  · subst z; cases ho
  · rw [e2] at h1
    cases h1
    obtain ⟨l', e, h⟩ := h2.owned ho
    cases e
    exact h
theorem EnvR.put' {H1 H01 : Hp} (I : EnvR K C B H0 H σ E) (st : Step H H0 H H01 H1) {i : Nat} (hi : i < E.length) (r : RR K C H H01 H1 v s) (hb : isBo s = false) : EnvR K C B H01 H1 (σ.set i (some v)) (E.set i s) :=
  (I.step st).put hi (fun a q => Same.free I.b q) (fun j t l e1 o1 e2 => (I.ownG e1 o1 e2).1) r hb
def keepT : Option HO → Option HO
  | some o => if isT o = true then some o else none
  | none => none
def frzH (Hs H0 H : Hp) : Hp := fun a => match H0 a with
  | some o => some o
  | none => match Hs a with
    | none => H a
    | some _ => keepT (H a)
theorem keepT_some {o : Option HO} {u : HO} (e : keepT o = some u) : o = some u ∧ isT u = true := by
  cases o with
  | none => cases e
  | some w =>
    unfold keepT at e
    dsimp only at e
    split at e
    · cases e; exact ⟨rfl, by assumption⟩
    · cases e
theorem frz_step (i : Same H0 H) : Step Hs H0 H (frzH Hs H0 H) H := by
  refine ⟨Same.refl _, fun a o e => by unfold frzH; rw [e], fun a o e => ?_, fun a o e => ?_⟩
  · unfold frzH at e
    cases h : H0 a with
    | some u => rw [h] at e; exact .inl e
    | none =>
      rw [h] at e
      cases h2 : Hs a with
      | none => exact .inr (.inl rfl)
      | some u => rw [h2] at e; exact .inr (.inr (keepT_some e).2)
  · unfold frzH at e
    cases h : H0 a with
    | some u => rw [h] at e; cases e; exact i a _ h
    | none =>
      rw [h] at e
      cases h2 : Hs a with
      | none => rw [h2] at e; exact e
      | some u => rw [h2] at e; exact (keepT_some e).1
theorem frz_new {a : Addr} {o : HO} (i : Same H0 H) (n : Hs a = none) (h : H a = some o) : frzH Hs H0 H a = some o := by
  unfold frzH
  cases z : H0 a with
  | some u => rw [i a u z] at h; exact h
  | none => dsimp only; rw [n]; exact h
theorem frz_tup {a : Addr} {o : HO} (i : Same H0 H) (n : isT o = true) (h : H a = some o) : frzH Hs H0 H a = some o := by
  unfold frzH
  cases z : H0 a with
  | some u => rw [i a u z] at h; exact h
  | none =>
    dsimp only
    cases y : Hs a with
    | none => exact h
    | some u => dsimp only; rw [h]; unfold keepT; dsimp only; rw [if_pos n]
theorem frz_sqT {a : Addr} {xs : List V} (i : Same H0 H) (h : SqT K H a xs) : SqT K (frzH Hs H0 H) a xs := by
  rcases h with (h | ⟨o, h⟩) | h
  · exact .inl (.inl (frz_tup i rfl h))
  · exact .inl (.inr ⟨o, frz_tup i rfl h⟩)
  · exact .inr h
def Sl.frz : Sl → Option D
  | .sh d => some d
  | .own ds => some (.lst ds)
  | .od ks ds => some (.dct ks ds)
  | _ => none
theorem RR.frz {d : D} (i : Same H0 H) (r : RR K C Hs H0 H v s) (e : s.frz = some d) : RD K C (frzH Hs H0 H) v d := by
  have st : Step Hs H0 H (frzH Hs H0 H) H := frz_step i
  cases s with
  | no => cases e
  | sh d' => cases e; exact RD.mono st.z r
  | bo ds => cases e
  | own ds =>
    cases e
    obtain ⟨l, xs, e, h, n, m, q⟩ := r
    subst e
    exact .mkL (frz_new i m h) (q.mono st.z)
  | bd ks ds => cases e
  | od ks ds =>
    cases e
    obtain ⟨l, xs, e, h, n, m, hk, q⟩ := r
    subst e
    exact .mkD (frz_new i m h) hk (q.mono st.z)
end
end LE

namespace LE
open PySem L2 LR

abbrev En := List Sl
abbrev Ev := En → Option Sl
section
variable (K : PySem.W.Frag) (C : Addr)
def SE (te : TE) (ev : Ev) : Prop := ∀ (B H0 H : Hp) (σ : St) (E : En) (r : Sl) (Q : VK), EnvR K C B H0 H σ E → ev E = some r →
  (∀ v H0' H', Step H H0 H H0' H' → RR K C H H0' H' v r → Q v H') → te σ H Q
def ST (t : TT) (ev : En → Option Bool) : Prop := ∀ (B H0 H : Hp) (σ : St) (E : En) (r : Bool) (Q : Bool → Hp → Prop), EnvR K C B H0 H σ E → ev E = some r →
  (∀ H0' H', Step H H0 H H0' H' → Q r H') → t σ H Q
inductive RRL (Hs H0 H : Hp) : List V → List Sl → Prop
  | nil : RRL Hs H0 H [] []
  | cons {v : V} {s : Sl} {vs : List V} {ss : List Sl} : RR K C Hs H0 H v s → RRL Hs H0 H vs ss → RRL Hs H0 H (v :: vs) (s :: ss)
def SA (t : TA) (ev : En → Option (List Sl)) : Prop := ∀ (B H0 H : Hp) (σ : St) (E : En) (r : List Sl) (Q : List V → Hp → Prop), EnvR K C B H0 H σ E → ev E = some r →
  (∀ vs H0' H', Step H H0 H H0' H' → RRL K C H H0' H' vs r → Q vs H') → t σ H Q
def OpS (r : R2) (f : Sl → Sl → Option Sl) : Prop := ∀ (Hs H0 H : Hp) (x y : V) (a b c : Sl) (Q : VK), Same H0 H → Same Hs H → RR K C Hs H0 H x a → RR K C Hs H0 H y b → f a b = some c →
  (∀ v H0' H', Step Hs H0 H H0' H' → RR K C Hs H0' H' v c → Q v H') → r x y H Q
def UnS (r : V → Hp → VK → Prop) (f : Sl → Option Sl) : Prop := ∀ (Hs H0 H : Hp) (x : V) (a c : Sl) (Q : VK), Same H0 H → Same Hs H → RR K C Hs H0 H x a → f a = some c →
  (∀ v H0' H', Step Hs H0 H H0' H' → RR K C Hs H0' H' v c → Q v H') → r x H Q
def CallS (r : List V → Hp → VK → Prop) (f : List Sl → Option Sl) : Prop := ∀ (Hs H0 H : Hp) (xs : List V) (as : List Sl) (c : Sl) (Q : VK), Same H0 H → Same Hs H → RRL K C Hs H0 H xs as → f as = some c →
  (∀ v H0' H', Step Hs H0 H H0' H' → RR K C Hs H0' H' v c → Q v H') → r xs H Q
end

def eVar (i : Nat) : Ev := fun E => match E[i]? with
  | some (.sh d) => some (.sh d)
  | some (.bo ds) => some (.bo ds)
  | some (.own ds) => some (.bo ds)
  | some (.bd ks ds) => some (.bd ks ds)
  | some (.od ks ds) => some (.bd ks ds)
  | _ => none
def eC (d : D) : Ev := fun _ => some (.sh d)
def e2 (f : Sl → Sl → Option Sl) (a b : Ev) : Ev := fun E => (a E).bind fun x => (b E).bind fun y => f x y
def e1 (f : Sl → Option Sl) (a : Ev) : Ev := fun E => (a E).bind f
def a0 : En → Option (List Sl) := fun _ => some []
def aC (a : Ev) (as : En → Option (List Sl)) : En → Option (List Sl) := fun E => (a E).bind fun x => (as E).bind fun xs => some (x :: xs)
def eF (f : List Sl → Option Sl) (as : En → Option (List Sl)) : Ev := fun E => (as E).bind f
def bool? : Sl → Option Bool
  | .sh (.bl b) => some b
  | _ => none
def eAnd (a b : Ev) : Ev := fun E => ((a E).bind bool?).bind fun k => if k = true then b E else some (.sh (.bl false))
def eOr (a b : Ev) : Ev := fun E => ((a E).bind bool?).bind fun k => if k = true then some (.sh (.bl true)) else b E
def eNot (a : Ev) : Ev := fun E => ((a E).bind bool?).bind fun k => some (.sh (.bl (!k)))
def eIf (c : En → Option Bool) (a b : Ev) : Ev := fun E => (c E).bind fun k => if k = true then a E else b E
def sh? : Sl → Option D
  | .sh d => some d
  | _ => none
def eChain (f g : Sl → Sl → Option Sl) (a b c : Ev) : Ev := fun E => ((a E).bind sh?).bind fun x => ((b E).bind sh?).bind fun y => ((f (.sh x) (.sh y)).bind bool?).bind fun k => if k = true then ((c E).bind sh?).bind fun z => g (.sh y) (.sh z) else some (.sh (.bl false))
def tB? (a : Ev) : En → Option Bool := fun E => (a E).bind bool?
def tAnd? (a b : En → Option Bool) : En → Option Bool := fun E => (a E).bind fun k => if k = true then b E else some false
def tOr? (a b : En → Option Bool) : En → Option Bool := fun E => (a E).bind fun k => if k = true then some true else b E
def tNot? (a : En → Option Bool) : En → Option Bool := fun E => (a E).bind fun k => some (!k)

section
variable {K : PySem.W.Frag} {C : Addr}
theorem bind_some {α β : Type} {x : Option α} {f : α → Option β} {b : β} (e : x.bind f = some b) : ∃ a, x = some a ∧ f a = some b := by
  cases x with
  | none => cases e
  | some a => exact ⟨a, rfl, e⟩
theorem bool_some {s : Sl} {b : Bool} (e : bool? s = some b) : s = .sh (.bl b) := by
  cases s with
  | sh d => cases d with
    | bl x => cases e; rfl
    | _ => cases e
  | _ => cases e
variable {ta tb tc te : TE} {ea eb ec : Ev}
theorem s_var (i : Nat) : SE K C (tVar i) (eVar i) := by
  intro B H0 H σ E r Q I e q
  unfold eVar at e
  cases h : E[i]? with
  | none => rw [h] at e; cases e
  | some s =>
    rw [h] at e
    rcases I.at' i s h with z | ⟨v, h1, h2⟩
    · subst z; cases e
    · refine ⟨v, h1, q v H0 H (.refl I.h) ?_⟩
      cases s with
      | no => cases e
      | sh d => cases e; exact h2
      | bo ds => cases e; obtain ⟨l, xs, e, hl, r⟩ := h2; exact ⟨l, xs, e, I.b _ _ hl, r⟩
      | own ds => cases e; obtain ⟨l, xs, e, hl, _, _, r⟩ := h2; exact ⟨l, xs, e, hl, r⟩
      | bd ks ds => cases e; obtain ⟨l, xs, e, hl, r⟩ := h2; exact ⟨l, xs, e, I.b _ _ hl, r⟩
      | od ks ds => cases e; obtain ⟨l, xs, e, hl, _, _, r⟩ := h2; exact ⟨l, xs, e, hl, r⟩
theorem s_non : SE K C (tC .non) (eC .non) := fun _ _ _ _ _ _ _ I e q => by cases e; exact q _ _ _ (.refl I.h) .non
theorem s_bl {b : Bool} : SE K C (tC (.bl b)) (eC (.bl b)) := fun _ _ _ _ _ _ _ I e q => by cases e; exact q _ _ _ (.refl I.h) (.bl b)
theorem s_int {i : Int} : SE K C (tC (.int i)) (eC (.int i)) := fun _ _ _ _ _ _ _ I e q => by cases e; exact q _ _ _ (.refl I.h) (.int i)
theorem s_str {x : Str} : SE K C (tC (.str x)) (eC (.str x)) := fun _ _ _ _ _ _ _ I e q => by cases e; exact q _ _ _ (.refl I.h) (.str x)
theorem s_op {r : R2} {f : Sl → Sl → Option Sl} (ho : OpS K C r f) (ha : SE K C ta ea) (hb : SE K C tb eb) : SE K C (tOp r ta tb) (e2 f ea eb) := by
  intro B H0 H σ E c Q I e q
  obtain ⟨a, e1, e⟩ := bind_some e
  obtain ⟨b, e2, e⟩ := bind_some e
  exact ha B H0 H σ E a _ I e1 fun x H1 H1' s1 r1 => hb B H1 H1' σ E b _ (I.step s1) e2 fun y H2 H2' s2 r2 =>
    ho H H2 H2' x y a b c Q s2.i (s1.h.trans s2.h) (r1.step s2) (r2.weak fun a q => Same.free s1.h q) e fun v H3 H3' s3 r3 => q v H3 H3' ((s1.trans s2).comp s3 fun _ z => z) r3
theorem s_un {r : V → Hp → VK → Prop} {f : Sl → Option Sl} (ho : UnS K C r f) (ha : SE K C ta ea) : SE K C (tUn r ta) (e1 f ea) := by
  intro B H0 H σ E c Q I e q
  obtain ⟨a, e1, e⟩ := bind_some e
  exact ha B H0 H σ E a _ I e1 fun x H1 H1' s1 r1 => ho H H1 H1' x a c Q s1.i s1.h r1 e fun v H3 H3' s3 r3 => q v H3 H3' (s1.comp s3 fun _ z => z) r3
theorem s_nil : SA K C tNil a0 := fun _ _ _ _ _ _ _ I e q => by cases e; exact q _ _ _ (.refl I.h) .nil
theorem RRL.step {Hs H0 H H0' H' : Hp} {vs : List V} {ss : List Sl} (r : RRL K C Hs H0 H vs ss) (st : Step H H0 H H0' H') : RRL K C Hs H0' H' vs ss := by
  induction r with
  | nil => exact .nil
  | cons h _ ih => exact .cons (h.step st) ih
theorem RRL.weak {Hs Hs' H0 H : Hp} {vs : List V} {ss : List Sl} (r : RRL K C Hs' H0 H vs ss) (w : ∀ a, Hs' a = none → Hs a = none) : RRL K C Hs H0 H vs ss := by
  induction r with
  | nil => exact .nil
  | cons h _ ih => exact .cons (h.weak w) ih
theorem s_cons {tr : TA} {er : En → Option (List Sl)} (ha : SE K C ta ea) (hr : SA K C tr er) : SA K C (tCons ta tr) (aC ea er) := by
  intro B H0 H σ E c Q I e q
  obtain ⟨a, e1, e⟩ := bind_some e
  obtain ⟨b, e2, e⟩ := bind_some e
  cases e
  exact ha B H0 H σ E a _ I e1 fun x H1 H1' s1 r1 => hr B H1 H1' σ E b _ (I.step s1) e2 fun y H2 H2' s2 r2 =>
    q _ H2 H2' (s1.trans s2) (.cons (r1.step s2) (r2.weak fun a q => Same.free s1.h q))
theorem s_CB {r : List V → Hp → VK → Prop} {t : TA} {ev : En → Option (List Sl)} {f : List Sl → Option Sl} (hc : CallS K C r f) (ha : SA K C t ev) : SE K C (tCB r t) (eF f ev) := by
  intro B H0 H σ E c Q I e q
  obtain ⟨a, e1, e⟩ := bind_some e
  exact ha B H0 H σ E a _ I e1 fun x H1 H1' s1 r1 => hc H H1 H1' x a c Q s1.i s1.h r1 e fun v H3 H3' s3 r3 => q v H3 H3' (s1.comp s3 fun _ z => z) r3
theorem s_and (ha : SE K C ta ea) (hb : SE K C tb eb) : SE K C (tAndV ta tb) (eAnd ea eb) := by
  intro B H0 H σ E c Q I e q
  obtain ⟨k, e1, e⟩ := bind_some e
  obtain ⟨a, e0, e1⟩ := bind_some e1
  refine ha B H0 H σ E a _ I e0 fun x H1 H1' s1 r1 => ?_
  rw [bool_some e1] at r1
  refine ⟨k, RD.blI r1, ?_⟩
  cases k with
  | true => exact hb B H1 H1' σ E c Q (I.step s1) e fun y H2 H2' s2 r2 => q y H2 H2' (s1.trans s2) (r2.weak fun a q => Same.free s1.h q)
  | false => cases e; exact q _ _ _ s1 (RD.bl false)
theorem s_ifE {c : TT} {cv : En → Option Bool} (hc : ST K C c cv) (ha : SE K C ta ea) (hb : SE K C tb eb) : SE K C (tIf c ta tb) (eIf cv ea eb) := by
  intro B H0 H σ E r Q I e q
  obtain ⟨k, e1, e⟩ := bind_some e
  refine hc B H0 H σ E k _ I e1 fun H1 H1' s1 => ?_
  cases k with
  | true => exact ha B H1 H1' σ E r Q (I.step s1) e fun y H2 H2' s2 r2 => q y H2 H2' (s1.trans s2) (r2.weak fun a q => Same.free s1.h q)
  | false => exact hb B H1 H1' σ E r Q (I.step s1) e fun y H2 H2' s2 r2 => q y H2 H2' (s1.trans s2) (r2.weak fun a q => Same.free s1.h q)
theorem s_test (ha : SE K C te ea) : ST K C (tTest te) (tB? ea) := by
  intro B H0 H σ E k Q I e q
  obtain ⟨a, e1, e⟩ := bind_some e
  refine ha B H0 H σ E a _ I e1 fun x H1 H1' s1 r1 => ?_
  rw [bool_some e] at r1
  exact ⟨k, RD.blI r1, q _ _ s1⟩
theorem s_tAnd {c d : TT} {ev ew : En → Option Bool} (hc : ST K C c ev) (hd : ST K C d ew) : ST K C (tAnd c d) (tAnd? ev ew) := by
  intro B H0 H σ E k Q I e q
  obtain ⟨a, e1, e⟩ := bind_some e
  refine hc B H0 H σ E a _ I e1 fun H1 H1' s1 => ?_
  cases a with
  | true => exact hd B H1 H1' σ E k Q (I.step s1) e fun H2 H2' s2 => q H2 H2' (s1.trans s2)
  | false => cases e; exact q _ _ s1
theorem s_tNot {c : TT} {ev : En → Option Bool} (hc : ST K C c ev) : ST K C (tNot c) (tNot? ev) := by
  intro B H0 H σ E k Q I e q
  obtain ⟨a, e1, e⟩ := bind_some e
  cases e
  exact hc B H0 H σ E a _ I e1 fun H1 H1' s1 => q _ _ s1
end

def Sl.m : Sl → Option (List D)
  | .sh (.lst ds) => some ds
  | .bo ds => some ds
  | .own ds => some ds
  | _ => none
def Sl.r : Sl → Option (List D)
  | .sh (.lst ds) => some ds
  | .sh (.fz ds) => some ds
  | .bo ds => some ds
  | .own ds => some ds
  | _ => none
def Sl.q : Sl → Option (List D)
  | .sh (.lst ds) => some ds
  | .sh (.fz ds) => some ds
  | .sh (.tup ds) => some ds
  | .bo ds => some ds
  | .own ds => some ds
  | _ => none
def Sl.d : Sl → Option D
  | .sh d => some d
  | .bo ds => some (.lst ds)
  | .own ds => some (.lst ds)
  | .bd ks ds => some (.dct ks ds)
  | .od ks ds => some (.dct ks ds)
  | .no => none
section
variable {K : PySem.W.Frag} {C : Addr} {Hs H0 H : Hp} {v : V} {s : Sl} {ds : List D} {d : D}
theorem RR.m (r : RR K C Hs H0 H v s) (i : Same H0 H) (e : s.m = some ds) : ∃ l xs, v = .ref l ∧ H l = some (.lst xs) ∧ RDL K C H0 xs ds := by
  cases s with
  | no => cases e
  | bo es => cases e; exact r
  | own es => cases e; obtain ⟨l, xs, h1, h2, _, _, h3⟩ := r; exact ⟨l, xs, h1, h2, h3⟩
  | bd _ _ => cases e
  | od _ _ => cases e
  | sh d => cases d with
    | lst es => cases e; obtain ⟨l, xs, h1, h2, h3⟩ := RD.lstI r; exact ⟨l, xs, h1, i _ _ h2, h3⟩
    | _ => cases e
theorem RR.r (r : RR K C Hs H0 H v s) (i : Same H0 H) (e : s.r = some ds) : ∃ l xs, v = .ref l ∧ SqL K H l xs ∧ RDL K C H0 xs ds := by
  cases s with
  | no => cases e
  | bo es => cases e; obtain ⟨l, xs, h1, h2, h3⟩ := r; exact ⟨l, xs, h1, .of h2, h3⟩
  | own es => cases e; obtain ⟨l, xs, h1, h2, _, _, h3⟩ := r; exact ⟨l, xs, h1, .of h2, h3⟩
  | bd _ _ => cases e
  | od _ _ => cases e
  | sh d => cases d with
    | lst es => cases e; obtain ⟨l, xs, h1, h2, h3⟩ := RD.lstI r; exact ⟨l, xs, h1, .of (i _ _ h2), h3⟩
    | fz es => cases e; obtain ⟨l, xs, h1, h2, h3⟩ := RD.fzI r; exact ⟨l, xs, h1, i.seq h2, h3⟩
    | _ => cases e
theorem RR.q (r : RR K C Hs H0 H v s) (i : Same H0 H) (e : s.q = some ds) : ∃ l xs, v = .ref l ∧ (SqL K H l xs ∨ SqT K H l xs) ∧ RDL K C H0 xs ds := by
  cases s with
  | no => cases e
  | bo es => cases e; obtain ⟨l, xs, h1, h2, h3⟩ := r; exact ⟨l, xs, h1, .inl (.of h2), h3⟩
  | own es => cases e; obtain ⟨l, xs, h1, h2, _, _, h3⟩ := r; exact ⟨l, xs, h1, .inl (.of h2), h3⟩
  | bd _ _ => cases e
  | od _ _ => cases e
  | sh d => cases d with
    | lst es => cases e; obtain ⟨l, xs, h1, h2, h3⟩ := RD.lstI r; exact ⟨l, xs, h1, .inl (.of (i _ _ h2)), h3⟩
    | fz es => cases e; obtain ⟨l, xs, h1, h2, h3⟩ := RD.fzI r; exact ⟨l, xs, h1, .inl (i.seq h2), h3⟩
    | tup es => cases e; obtain ⟨l, xs, h1, h2, h3⟩ := RD.tupI r; exact ⟨l, xs, h1, .inr (i.seqT h2), h3⟩
    | _ => cases e
theorem RR.dat (r : RR K C Hs H0 H v s) (i : Same H0 H) (e : s.d = some d) : RD K C H v d := by
  cases s with
  | no => cases e
  | bo es => cases e; obtain ⟨l, xs, h1, h2, h3⟩ := r; subst h1; exact .mkL h2 (h3.mono i)
  | own es => cases e; obtain ⟨l, xs, h1, h2, _, _, h3⟩ := r; subst h1; exact .mkL h2 (h3.mono i)
  | bd _ _ => cases e; obtain ⟨l, xs, h1, h2, hk, h3⟩ := r; subst h1; exact .mkD h2 hk (h3.mono i)
  | od _ _ => cases e; obtain ⟨l, xs, h1, h2, _, _, hk, h3⟩ := r; subst h1; exact .mkD h2 hk (h3.mono i)
  | sh d' => cases e; exact RD.mono i r
theorem own_new {p : Addr} {xs : List V} {Q : VK} (i : Same H0 H) (hs : Same Hs H) (hp : H p = none) (r : RDL K C H0 xs ds) (q : ∀ v H0' H', Step Hs H0 H H0' H' → RR K C Hs H0' H' v (.own ds) → Q v H') : Q (.ref p) (upd H p (.lst xs)) :=
  q _ H0 _ ⟨.new hp, Same.refl _, fun _ _ e => .inl e, i.trans (.new hp)⟩ ⟨p, xs, rfl, upd_same, Same.free i hp, Same.free hs hp, r⟩
theorem tup_new {p : Addr} {xs : List V} {Q : VK} (i : Same H0 H) (hs : Same Hs H) (hp : H p = none) (r : RDL K C H0 xs ds) (q : ∀ v H0' H', Step Hs H0 H H0' H' → RR K C Hs H0' H' v (.sh (.tup ds)) → Q v H') : Q (.ref p) (upd H p (.tup xs)) := by
  have h0 : H0 p = none := Same.free i hp
  refine q _ (upd H0 p (.tup xs)) _ ⟨.new hp, .new h0, fun a o e => ?_, fun a o e => ?_⟩ ?_
  · by_cases h : a = p
    · subst h; exact .inr (.inl (Same.free hs hp))
    · rw [upd_ne h] at e; exact .inl e
  · by_cases h : a = p
    · subst h; rw [upd_same] at e ⊢; exact e
    · rw [upd_ne h] at e ⊢; exact i a o e
  · exact RD.mkT (.of upd_same) (r.mono (.new h0))
end

def fI (g : Int → Int → D) : Sl → Sl → Option Sl
  | .sh (.int a), .sh (.int b) => some (.sh (g a b))
  | _, _ => none
def fIc (c : Int → Int → Bool) (g : Int → Int → D) : Sl → Sl → Option Sl
  | .sh (.int a), .sh (.int b) => if c a b = true then some (.sh (g a b)) else none
  | _, _ => none
def fCat (x y : Sl) : Option Sl := x.m.bind fun a => y.m.bind fun b => if a.length + b.length ≤ sizeLine then some (.own (a ++ b)) else none
def fAdd : Sl → Sl → Option Sl
  | .sh (.int a), .sh (.int b) => some (.sh (.int (a + b)))
  | .sh (.str a), .sh (.str b) => if a.length + b.length ≤ sizeLine then some (.sh (.str (a ++ b))) else none
  | .sh (.tup a), .sh (.tup b) => if a.isEmpty = false ∧ b.isEmpty = false ∧ a.length + b.length ≤ sizeLine then some (.sh (.tup (a ++ b))) else none
  | .sh (.lst a), y => fCat (.sh (.lst a)) y
  | .bo a, y => fCat (.bo a) y
  | .own a, y => fCat (.own a) y
  | _, _ => none
abbrev fSub := fI fun a b => .int (a - b)
abbrev fLt := fI fun a b => .bl (decide (a < b))
def small64 (a : Int) : Bool := Nat.ble a.natAbs 18446744073709551615
theorem small64_ok {a : Int} : small64 a = true ↔ -18446744073709551616 < a ∧ a < 18446744073709551616 := by
  unfold small64
  rw [Nat.ble_eq]
  omega
def smallP (a : Int) : Bool := Nat.ble a.natAbs 1073741823 && decide (0 < a)
theorem smallP_ok {a : Int} : smallP a = true ↔ 0 < a ∧ a < 1073741824 := by
  unfold smallP
  rw [Bool.and_eq_true, Nat.ble_eq, decide_eq_true_eq]
  omega
abbrev fMul := fIc (fun a b => small64 a || small64 b) fun a b => .int (a * b)
abbrev fMod := fIc (fun _ b => decide (0 < b)) fun a b => .int (a % b)
abbrev fDiv := fIc (fun _ b => smallP b) fun a b => .int (a / b)
abbrev fPow := fIc (fun a b => decide (0 ≤ b) && Nat.ble b.natAbs 1000000 && small64 a) fun a b => .int (a ^ b.toNat)
def fNeg : Sl → Option Sl
  | .sh (.int a) => some (.sh (.int (-a)))
  | _ => none
def eqD (d e : D) : Option Bool := if (d.py.canLay0 && e.py.canLay0 && decide (min d.py.depth e.py.depth ≤ 60)) = true then some (PyData.eqv d.py e.py) else none
def eqA : D → D → Option Bool
  | .int a, .int b => some (decide (a = b))
  | .str a, .str b => some (decide (a = b))
  | .bl a, .bl b => some (decide (a = b))
  | .non, .non => some true
  | .non, .int _ => some false
  | .int _, .non => some false
  | .non, .str _ => some false
  | .str _, .non => some false
  | .non, .bl _ => some false
  | .bl _, .non => some false
  | .int _, .str _ => some false
  | .str _, .int _ => some false
  | d, e => eqD d e
def fEq (x y : Sl) : Option Sl := x.d.bind fun d => y.d.bind fun e => (eqA d e).map fun k => .sh (.bl k)
def fNe (x y : Sl) : Option Sl := x.d.bind fun d => y.d.bind fun e => (eqA d e).map fun k => .sh (.bl (!k))
def D.isNon : D → Bool
  | .non => true
  | _ => false
def fIs : Sl → Sl → Option Sl
  | x, .sh .non => x.d.map fun d => .sh (.bl d.isNon)
  | _, _ => none
def fIsNot : Sl → Sl → Option Sl
  | x, .sh .non => x.d.map fun d => .sh (.bl (!d.isNon))
  | _, _ => none
def fIx : Sl → Sl → Option Sl
  | .sh (.str z), .sh (.int i) => if z.length ≤ sizeLine then (atI z.cps.toList i).map fun c => .sh (.str ⟨#[c]⟩) else none
  | x, .sh (.int i) => x.q.bind fun ds => (atI ds i).map .sh
  | _, _ => none
section
variable {K : PySem.W.Frag} {C : Addr}
theorem o_I {g : Int → Int → V} {g' : Int → Int → D} (h : ∀ i j H, RD K C H (g i j) (g' i j)) : OpS K C (rI0 g) (fI g') := by
  intro Hs H0 H x y a b c Q i hs ra rb e q
  unfold fI at e
  split at e
  · cases e; exact ⟨_, _, RD.intI ra, RD.intI rb, q _ _ _ (.refl i) (h _ _ _)⟩
  · cases e
theorem o_Ic {P : Int → Int → Prop} {c' : Int → Int → Bool} {g : Int → Int → V} {g' : Int → Int → D} (hp : ∀ i j, c' i j = true → P i j) (h : ∀ i j H, RD K C H (g i j) (g' i j)) : OpS K C (rI P g) (fIc c' g') := by
  intro Hs H0 H x y a b c Q i hs ra rb e q
  unfold fIc at e
  split at e
  · split at e
    · cases e; exact ⟨_, _, RD.intI ra, RD.intI rb, hp _ _ (by assumption), q _ _ _ (.refl i) (h _ _ _)⟩
    · cases e
  · cases e
theorem o_sub : OpS K C (rI0 fun i j => .int (i - j)) fSub := o_I fun _ _ _ => .int _
theorem o_lt : OpS K C (rI0 fun i j => .bl (decide (i < j))) fLt := o_I fun _ _ _ => .bl _
theorem o_mul : OpS K C (rI CMul fun i j => .int (i * j)) fMul := o_Ic (fun i j h => by
  simp only [Bool.or_eq_true, small64_ok] at h
  exact h) fun _ _ _ => .int _
theorem o_mod : OpS K C (rI (fun _ j => 0 < j) fun i j => .int (i % j)) fMod := o_Ic (fun i j h => by simpa using h) fun _ _ _ => .int _
theorem o_pow : OpS K C (rI CPow fun i j => .int (i ^ j.toNat)) fPow := o_Ic (fun i j h => by
  simp only [Bool.and_eq_true, decide_eq_true_eq, Nat.ble_eq, small64_ok] at h
  refine ⟨h.1.1, by omega, ?_⟩
  show i.natAbs < 18446744073709551616
  omega) fun _ _ _ => .int _
theorem u_neg : UnS K C (rU fun i => .int (-i)) fNeg := by
  intro Hs H0 H x a c Q i hs ra e q
  unfold fNeg at e
  split at e
  · cases e; exact ⟨_, RD.intI ra, q _ _ _ (.refl i) (RD.int _)⟩
  · cases e
def rAddB (K : PySem.W.Frag) : R2 := fun x y H Q => rAddA K x y H Q ∨ rCatT K x y H Q
theorem op_addB {X : Cx} (hK : X.K = K) : OpR X (binaryOp .Add) (rAddB K) := (op_addK hK).or (hK ▸ op_catT)
theorem o_add : OpS K C (rAddB K) fAdd := by
  intro Hs H0 H x y a b c Q i hs ra rb e q
  have cat : ∀ {a b : Sl}, RR K C Hs H0 H x a → RR K C Hs H0 H y b → fCat a b = some c → rAddB K x y H Q := by
    intro a b ra rb e
    obtain ⟨xs, e1, e⟩ := bind_some e
    obtain ⟨ys, e2, e⟩ := bind_some e
    split at e
    · next hz =>
      cases e
      obtain ⟨l, us, rfl, h1, r1⟩ := ra.m i e1
      obtain ⟨l', ws, rfl, h2, r2⟩ := rb.m i e2
      exact .inl (.inr (.inr ⟨l, l', us, ws, rfl, rfl, h1, h2, by rw [r1.1, r2.1]; exact hz, fun p hp => own_new i hs hp (r1.append r2) q⟩))
    · cases e
  unfold fAdd at e
  split at e
  · cases e; exact .inl (.inl ⟨_, _, RD.intI ra, RD.intI rb, q _ _ _ (.refl i) (RD.int _)⟩)
  · split at e
    · cases e; exact .inl (.inr (.inl ⟨_, _, RD.strI ra, RD.strI rb, by assumption, q _ _ _ (.refl i) (RD.str _)⟩))
    · cases e
  · split at e
    · next hz =>
      cases e
      obtain ⟨l, us, rfl, h1, r1⟩ := RD.tupI ra
      obtain ⟨l', ws, rfl, h2, r2⟩ := RD.tupI rb
      have n1 : us ≠ [] := by rintro rfl; have := r1.1; have z := hz.1; simp at this; rw [List.eq_nil_of_length_eq_zero this.symm] at z; cases z
      have n2 : ws ≠ [] := by rintro rfl; have := r2.1; have z := hz.2.1; simp at this; rw [List.eq_nil_of_length_eq_zero this.symm] at z; cases z
      exact .inr ⟨l, l', us, ws, rfl, rfl, i.seqT h1, i.seqT h2, n1, by rw [r1.1, r2.1]; exact hz.2.2, fun z => absurd z n2, fun _ p hp => tup_new i hs hp (r1.append r2) q⟩
    · cases e
  · exact cat ra rb e
  · exact cat ra rb e
  · exact cat ra rb e
  · cases e
theorem eqD_some {d e : D} {k : Bool} (h : eqD d e = some k) : d.py.canLay0 = true ∧ e.py.canLay0 = true ∧ min d.py.depth e.py.depth ≤ 60 ∧ k = PyData.eqv d.py e.py := by
  unfold eqD at h
  split at h
  · next z =>
    cases h
    simp only [Bool.and_eq_true, decide_eq_true_eq] at z
    exact ⟨z.1.1, z.1.2, z.2, rfl⟩
  · cases h
theorem map_some {α β : Type} {x : Option α} {f : α → β} {b : β} (e : x.map f = some b) : ∃ a, x = some a ∧ f a = b := by
  cases x with
  | none => cases e
  | some a => cases e; exact ⟨a, rfl, rfl⟩
theorem eqA_some {H : Hp} {x y : V} {d e : D} {k : Bool} (h : eqA d e = some k) (rx : RD K C H x d) (ry : RD K C H y e) : (scal x y = true ∧ decide (x = y) = k) ∨ eqD d e = some k := by
  unfold eqA at h
  split at h
  · cases h; rw [RD.intI rx, RD.intI ry]; exact .inl ⟨rfl, by simp⟩
  · cases h; rw [RD.strI rx, RD.strI ry]; exact .inl ⟨rfl, by simp⟩
  · cases h; rw [RD.blI rx, RD.blI ry]; exact .inl ⟨rfl, by simp⟩
  · cases h; rw [RD.nonI rx, RD.nonI ry]; exact .inl ⟨rfl, by simp⟩
  · cases h; rw [RD.nonI rx, RD.intI ry]; exact .inl ⟨rfl, by simp⟩
  · cases h; rw [RD.intI rx, RD.nonI ry]; exact .inl ⟨rfl, by simp⟩
  · cases h; rw [RD.nonI rx, RD.strI ry]; exact .inl ⟨rfl, by simp⟩
  · cases h; rw [RD.strI rx, RD.nonI ry]; exact .inl ⟨rfl, by simp⟩
  · cases h; rw [RD.nonI rx, RD.blI ry]; exact .inl ⟨rfl, by simp⟩
  · cases h; rw [RD.blI rx, RD.nonI ry]; exact .inl ⟨rfl, by simp⟩
  · cases h; rw [RD.intI rx, RD.strI ry]; exact .inl ⟨rfl, by simp⟩
  · cases h; rw [RD.strI rx, RD.intI ry]; exact .inl ⟨rfl, by simp⟩
  · exact .inr h
theorem o_eq : OpS K C (rEqA K) fEq := by
  intro Hs H0 H x y a b c Q i hs ra rb e q
  obtain ⟨d, e1, e⟩ := bind_some e
  obtain ⟨d', e2, e⟩ := bind_some e
  obtain ⟨k, e3, rfl⟩ := map_some e
  have r1 := ra.dat i e1
  have r2 := rb.dat i e2
  rcases eqA_some e3 r1 r2 with ⟨h1, h2⟩ | h
  · exact .inl ⟨h1, by rw [h2]; exact q _ _ _ (.refl i) (RD.bl _)⟩
  · obtain ⟨h1, h2, h3, rfl⟩ := eqD_some h
    exact .inr ⟨_, _, r1.rep h1, r2.rep h2, h1, h2, h3, q _ _ _ (.refl i) (RD.bl _)⟩
theorem isNon_eq {H : Hp} {x : V} {d : D} (r : RD K C H x d) : decide (x = .non) = d.isNon := by
  cases r <;> simp [D.isNon]
theorem o_is : OpS K C rIsN fIs := by
  intro Hs H0 H x y a b c Q i hs ra rb e q
  unfold fIs at e
  split at e
  · obtain ⟨d, e1, rfl⟩ := map_some e
    refine ⟨RD.nonI rb, ?_⟩
    rw [isNon_eq (ra.dat i e1)]
    exact q _ _ _ (.refl i) (RD.bl _)
  · cases e
theorem o_isNot : OpS K C rNotN fIsNot := by
  intro Hs H0 H x y a b c Q i hs ra rb e q
  unfold fIsNot at e
  split at e
  · obtain ⟨d, e1, rfl⟩ := map_some e
    refine ⟨RD.nonI rb, ?_⟩
    rw [isNon_eq (ra.dat i e1)]
    exact q _ _ _ (.refl i) (RD.bl _)
  · cases e
theorem RDL.atI {H : Hp} {xs : List V} {ds : List D} {i : Int} {d : D} (r : RDL K C H xs ds) (e : L2.atI ds i = some d) : ∃ x, L2.atI xs i = some x ∧ RD K C H x d := by
  unfold L2.atI at e ⊢
  rw [r.1]
  obtain ⟨j, e1, e⟩ := bind_some e
  obtain ⟨x, e2, r2⟩ := r.get e
  exact ⟨x, by rw [e1]; exact e2, r2⟩
theorem o_ix : OpS K C (rIx K) fIx := by
  intro Hs H0 H x y a b c Q i hs ra rb e q
  unfold fIx at e
  split at e
  · split at e
    · obtain ⟨z, e1, rfl⟩ := map_some e
      rw [RD.strI ra, RD.intI rb]
      exact rd_ixS (by assumption) e1 (q _ _ _ (.refl i) (RD.str _))
    · cases e
  · obtain ⟨ds, e1, e⟩ := bind_some e
    obtain ⟨d, e2, rfl⟩ := map_some e
    obtain ⟨l, xs, rfl, h, r⟩ := ra.q i e1
    obtain ⟨v, e3, r3⟩ := r.atI e2
    rw [RD.intI rb]
    rcases h with h | h
    · exact rd_ixL h e3 (q _ _ _ (.refl i) r3)
    · exact rd_ixT h e3 (q _ _ _ (.refl i) r3)
  · cases e
end
end LE

namespace LE
open PySem L2 LR

def frzAll : List Sl → Option (List D)
  | [] => some []
  | s :: ss => s.frz.bind fun d => (frzAll ss).bind fun ds => some (d :: ds)
def eTup (as : En → Option (List Sl)) : Ev := fun E => (as E).bind fun ss => (frzAll ss).bind fun ds => if ds.length ≤ 100 then some (.sh (.tup ds)) else none
def eLst (as : En → Option (List Sl)) : Ev := fun E => (as E).bind fun ss => (frzAll ss).bind fun ds => if ds.length ≤ 100 then some (.own ds) else none
section
variable {K : PySem.W.Frag} {C : Addr} {t : TA} {ev : En → Option (List Sl)} {Hs H0 H : Hp} {ta te : TE} {ea : Ev}
theorem RRL.frz {vs : List V} {ss : List Sl} (i : Same H0 H) (r : RRL K C Hs H0 H vs ss) : ∀ {ds : List D}, frzAll ss = some ds → RDL K C (frzH Hs H0 H) vs ds := by
  induction r with
  | nil => intro ds e; cases e; exact .nil
  | cons h _ ih =>
    intro ds e
    obtain ⟨d, e1, e⟩ := bind_some e
    obtain ⟨ds', e2, e⟩ := bind_some e
    cases e
    exact .cons (h.frz i e1) (ih e2)
theorem s_tup (ha : SA K C t ev) : SE K C (tTup t) (eTup ev) := by
  intro B H0 H σ E c Q I e q
  obtain ⟨ss, e1, e⟩ := bind_some e
  obtain ⟨ds, e2, e⟩ := bind_some e
  split at e
  · next hl =>
    cases e
    refine ha B H0 H σ E ss _ I e1 fun vs H1 H1' s1 r1 => ?_
    have f := frz_step (Hs := H) s1.i
    have r2 := r1.frz s1.i e2
    exact ⟨by rw [r2.1]; exact Nat.le_trans hl (by decide), fun p hp => tup_new f.i s1.h hp r2 fun v H2 H2' s2 r2 => q v H2 H2' ((s1.comp f fun _ z => z).comp s2 fun _ z => z) r2⟩
  · cases e
theorem s_lst (ha : SA K C t ev) : SE K C (tLst t) (eLst ev) := by
  intro B H0 H σ E c Q I e q
  obtain ⟨ss, e1, e⟩ := bind_some e
  obtain ⟨ds, e2, e⟩ := bind_some e
  split at e
  · next hl =>
    cases e
    refine ha B H0 H σ E ss _ I e1 fun vs H1 H1' s1 r1 => ?_
    have f := frz_step (Hs := H) s1.i
    have r2 := r1.frz s1.i e2
    exact ⟨by rw [r2.1]; exact Nat.le_trans hl (by decide), fun p hp => own_new f.i s1.h hp r2 fun v H2 H2' s2 r2 => q v H2 H2' ((s1.comp f fun _ z => z).comp s2 fun _ z => z) r2⟩
  · cases e

def Sl.pass : Sl → Option Sl
  | .sh d => some (.sh d)
  | .own ds => some (.sh (.lst ds))
  | .bo ds => some (.bo ds)
  | .bd ks ds => some (.bd ks ds)
  | .od ks ds => some (.sh (.dct ks ds))
  | .no => none
end
def passAll : List Sl → Option (List Sl)
  | [] => some []
  | s :: ss => s.pass.bind fun d => (passAll ss).bind fun ds => some (d :: ds)
def spE (K : PySem.W.Frag) (C : Addr) (n : Nat) (f : List Sl → Option Sl) : Sp := fun vs H Q _ => ∃ H0 as r, Same H0 H ∧ RRL K C H H0 H vs as ∧ as.all (fun s => !isOwn s) = true ∧ as.length = n ∧ f as = some r ∧
  ∀ v H0' H', Step H H0 H H0' H' → RR K C H H0' H' v r → Q v H'
def eU (n : Nat) (f : List Sl → Option Sl) (as : En → Option (List Sl)) : Ev := fun E => (as E).bind fun ss => (passAll ss).bind fun bs => if bs.length = n then f bs else none
section
variable {K : PySem.W.Frag} {C : Addr} {t : TA} {ev : En → Option (List Sl)} {Hs H0 H : Hp} {ta te : TE} {ea : Ev}
theorem RRL.len {vs : List V} {ss : List Sl} (r : RRL K C Hs H0 H vs ss) : vs.length = ss.length := by
  induction r with
  | nil => rfl
  | cons _ _ ih => simp [ih]
theorem spE_len {n : Nat} {f : List Sl → Option Sl} {vs : List V} {Q : VK} {E : XK} (h : spE K C n f vs H Q E) : vs.length = n := by
  obtain ⟨H0, as, r, _, h1, _, h2, _⟩ := h
  rw [h1.len]; exact h2
theorem RR.pass {v : V} {s s' : Sl} (i : Same H0 H) (r : RR K C Hs H0 H v s) (e : s.pass = some s') : RR K C H (frzH Hs H0 H) H v s' ∧ isOwn s' = false := by
  have st : Step Hs H0 H (frzH Hs H0 H) H := frz_step i
  cases s with
  | no => cases e
  | sh d => cases e; exact ⟨RD.mono st.z r, rfl⟩
  | own ds => cases e; exact ⟨RR.frz (s := .own ds) i r rfl, rfl⟩
  | bo ds => cases e; obtain ⟨l, xs, h1, h2, h3⟩ := r; exact ⟨⟨l, xs, h1, h2, h3.mono st.z⟩, rfl⟩
  | od ks ds => cases e; exact ⟨RR.frz (s := .od ks ds) i r rfl, rfl⟩
  | bd ks ds => cases e; obtain ⟨l, xs, h1, h2, hk, h3⟩ := r; exact ⟨⟨l, xs, h1, h2, hk, h3.mono st.z⟩, rfl⟩
theorem RRL.pass {vs : List V} {ss : List Sl} (i : Same H0 H) (r : RRL K C Hs H0 H vs ss) : ∀ {bs : List Sl}, passAll ss = some bs → RRL K C H (frzH Hs H0 H) H vs bs ∧ bs.all (fun s => !isOwn s) = true := by
  induction r with
  | nil => intro bs e; cases e; exact ⟨.nil, rfl⟩
  | cons h _ ih =>
    intro bs e
    obtain ⟨d, e1, e⟩ := bind_some e
    obtain ⟨ds', e2, e⟩ := bind_some e
    cases e
    obtain ⟨h1, h2⟩ := h.pass i e1
    obtain ⟨h3, h4⟩ := ih e2
    exact ⟨.cons h1 h3, by rw [List.all_cons, h2, h4]; rfl⟩
theorem s_call {n : Nat} {f : List Sl → Option Sl} {X : XK} (ha : SA K C t ev) : SE K C (tCall (spE K C n f) [] X t) (eU n f ev) := by
  intro B H0 H σ E c Q I e q
  obtain ⟨ss, e1, e⟩ := bind_some e
  obtain ⟨bs, e2, e⟩ := bind_some e
  split at e
  · next hl =>
    refine rd_call (ha B H0 H σ E ss _ I e1 fun vs H1 H1' s1 r1 => ?_)
    obtain ⟨h1, h2⟩ := r1.pass s1.i e2
    have f := frz_step (Hs := H) s1.i
    exact ⟨_, bs, c, f.i, h1, h2, hl, e, fun v H2 H2' s2 r2 => q v H2 H2' ((s1.comp f fun _ z => z).comp s2 fun a z => Same.free s1.h z) (r2.weak fun a z => Same.free s1.h z)⟩
  · cases e

def prE (p : Pr) : D := .tup [.int p.1, .int p.2]
def unPr : D → Option Pr
  | .tup [.int a, .int b] => some (a, b)
  | _ => none
def unPrs : List D → Option (List Pr)
  | [] => some []
  | d :: ds => (unPr d).bind fun p => (unPrs ds).bind fun ps => some (p :: ps)
end
theorem unPrs_map : ∀ ps : List Pr, unPrs (ps.map prE) = some ps
  | [] => rfl
  | p :: ps => by rw [List.map_cons, unPrs, unPrs_map ps]; rfl
theorem unPr_some {d : D} {p : Pr} (e : unPr d = some p) : d = prE p := by
  unfold unPr at e
  split at e
  · cases e; rfl
  · cases e
theorem unPrs_some : ∀ {ds : List D} {ps : List Pr}, unPrs ds = some ps → ds = ps.map prE
  | [], _, e => by cases e; rfl
  | d :: ds, _, e => by
    obtain ⟨p, e1, e⟩ := bind_some e
    obtain ⟨ps, e2, e⟩ := bind_some e
    cases e
    rw [unPr_some e1, unPrs_some e2]; rfl
def goodB : List Pr → Bool
  | [] => true
  | [p] => decide (1 ≤ p.2)
  | p :: q :: r => decide (1 ≤ p.2) && decide (p.1 + p.2 < q.1) && goodB (q :: r)
theorem goodB_good : ∀ {ps : List Pr}, goodB ps = true → Good ps
  | [], _ => .nil
  | [p], h => ⟨fun i q e => by
      cases i with
      | zero => simp at e; subst e; simpa [goodB] using h
      | succ i => simp at e, fun i q r e1 e2 => by simp at e2⟩
  | p :: q :: r, h => by
    simp only [goodB, Bool.and_eq_true, decide_eq_true_eq] at h
    have g := goodB_good h.2
    refine ⟨fun i x e => ?_, fun i x y e1 e2 => ?_⟩
    · cases i with
      | zero => simp at e; subst e; exact h.1.1
      | succ i => exact g.one i x (by simpa using e)
    · cases i with
      | zero => simp at e1 e2; subst e1 e2; exact h.1.2
      | succ i => exact g.gap i x y (by simpa using e1) (by simpa using e2)
theorem good_goodB : ∀ {ps : List Pr}, Good ps → goodB ps = true
  | [], _ => rfl
  | [p], g => by simpa [goodB] using g.one 0 p rfl
  | p :: q :: r, g => by
    have g' : Good (q :: r) := ⟨fun i x e => g.one (i + 1) x (by simpa using e), fun i x y e1 e2 => g.gap (i + 1) x y (by simpa using e1) (by simpa using e2)⟩
    simp only [goodB, Bool.and_eq_true, decide_eq_true_eq]
    exact ⟨⟨g.one 0 p rfl, g.gap 0 p q rfl rfl⟩, good_goodB g'⟩
def fRow : List Sl → Option Sl
  | [s] => s.q.bind fun ds => (unPrs ds).bind fun ps => if (goodB ps && decide (ps.length ≤ 30)) = true then some (.sh (.row ds)) else none
  | _ => none
def fFld : Sl → Option Sl
  | .sh (.row ds) => some (.sh (.tup ds))
  | _ => none
section
variable {K : PySem.W.Frag} {C : Addr} {t : TA} {ev : En → Option (List Sl)} {Hs H0 H : Hp} {ta te : TE} {ea : Ev}
theorem prs_of {xs : List V} {ps : List Pr} (r : RDL K C H xs (ps.map prE)) : Prs K H xs ps := by
  refine ⟨by rw [r.1]; simp, fun i x d h1 h2 => ?_⟩
  rw [List.getElem?_map] at h2
  cases e : ps[i]? with
  | none => rw [e] at h2; cases h2
  | some p =>
    rw [e] at h2; cases h2
    have h := r.2 i x (prE p) h1 (by rw [List.getElem?_map, e]; rfl)
    exact RD.rep h rfl
theorem of_prs {xs : List V} {ps : List Pr} (i : Same H0 H) (r : Prs K H xs ps) : RDL K C (frzH Hs H0 H) xs (ps.map prE) := by
  refine ⟨by rw [r.len]; simp, fun j x d h1 h2 => ?_⟩
  obtain ⟨p, a, e1, e2, e3⟩ := r.at h1
  rw [List.getElem?_map, e1] at h2
  cases h2
  subst e2
  exact .mkT (frz_sqT i e3) (.cons (.int _) (.cons (.int _) .nil))
theorem s_row {X : XK} (ha : SA K C t ev) : SE K C (tMake C (spInit C K) [] X t) (eF fRow ev) := by
  intro B H0 H σ E c Q I e q
  obtain ⟨ss, e1, e⟩ := bind_some e
  refine LR.rd_make (ha B H0 H σ E ss _ I e1 fun vs H1 H1' s1 r1 => ?_)
  unfold fRow at e
  split at e
  · next s =>
    cases r1 with
    | cons r1 r1' =>
      cases r1'
      obtain ⟨ds, e2, e⟩ := bind_some e
      obtain ⟨ps, e3, e⟩ := bind_some e
      split at e
      · next hg =>
        cases e
        simp only [Bool.and_eq_true, decide_eq_true_eq] at hg
        have e4 := unPrs_some e3
        subst e4
        obtain ⟨l, xs, rfl, hq, r⟩ := r1.q s1.i e2
        refine rd_row ⟨l, xs, rfl, hq, prs_of (r.mono s1.i)⟩ (goodB_good hg.1) hg.2 fun x H2 nx s2 R => ?_
        obtain ⟨x', dx, t', ts, ex, hx, ht, hp⟩ := R
        cases ex
        have i2 : Same H1 H2 := s1.i.trans s2
        have f := frz_step (Hs := H) i2
        refine q _ (frzH H H1 H2) H2 ⟨s1.h.trans s2, s1.z.trans f.z, fun a o e => (f.n a o e).elim (fun z => s1.n a o z) .inr, f.i⟩ ?_
        have ts' := of_prs (Hs := H) (C := C) i2 hp
        exact .row (frz_new i2 (Same.free s1.h nx) hx) (frz_sqT i2 (.of ht)) ts'.1 ts'.2
      · cases e
  · cases e
theorem s_fld {K : PySem.W.Frag} {C : Addr} {ta : TE} {ea : Ev} (T : RowC K C) (ha : SE K C ta ea) : SE K C (tFld K ta "stretches") (e1 fFld ea) := by
  intro B H0 H σ E c Q I e q
  obtain ⟨a, e1, e⟩ := bind_some e
  refine ha B H0 H σ E a _ I e1 fun x H1 H1' s1 r1 => ?_
  unfold fFld at e
  split at e
  · cases e
    obtain ⟨x', dx, t', ts, rfl, hx, ht, hp⟩ := RD.rowI r1
    exact ⟨x', C, dx, _, _, rfl, s1.i _ _ hx, T.cl, T.ns, rowF_look t', q _ _ _ s1 (RD.mkT ht hp)⟩
  · cases e

def ints? : List D → Option (List Int)
  | [] => some []
  | .int i :: ds => (ints? ds).map (i :: ·)
  | _ :: _ => none
end
theorem ints_map : ∀ ns : List Int, ints? (ns.map .int) = some ns
  | [] => rfl
  | n :: ns => by rw [List.map_cons, ints?, ints_map ns]; rfl
theorem ints_some : ∀ {ds : List D} {ns : List Int}, ints? ds = some ns → ds = ns.map .int
  | [], _, e => by cases e; rfl
  | .int i :: ds, _, e => by
    obtain ⟨ns, e1, e2⟩ := map_some (show (ints? ds).map (i :: ·) = _ from e)
    rw [← e2, ints_some e1]; rfl
  | .non :: _, _, e | .bl _ :: _, _, e | .str _ :: _, _, e | .tup _ :: _, _, e | .lst _ :: _, _, e | .fz _ :: _, _, e | .row _ :: _, _, e => by cases e
def fLen : List Sl → Option Sl
  | [.sh (.str x)] => if x.length ≤ sizeLine then some (.sh (.int x.length)) else none
  | [s] => s.q.map fun ds => .sh (.int ds.length)
  | _ => none
def fTuple : List Sl → Option Sl
  | [s] => s.q.map fun ds => .sh (.tup ds)
  | _ => none
def fList : List Sl → Option Sl
  | [s] => s.q.map fun ds => .own ds
  | _ => none
def fSum : List Sl → Option Sl
  | [s] => s.q.bind fun ds => (ints? ds).map fun ns => .sh (.int ns.sum)
  | _ => none
def fMax : List Sl → Option Sl
  | [.sh (.int a), .sh (.int b)] => some (.sh (.int (max a b)))
  | _ => none
def fMin : List Sl → Option Sl
  | [.sh (.int a), .sh (.int b)] => some (.sh (.int (min a b)))
  | _ => none
section
variable {K : PySem.W.Frag} {C : Addr} {Hs H0 H : Hp}
theorem RRL.one {vs : List V} {s : Sl} (r : RRL K C Hs H0 H vs [s]) : ∃ v, vs = [v] ∧ RR K C Hs H0 H v s := by
  cases r with
  | cons h t => cases t; exact ⟨_, rfl, h⟩
theorem RRL.two {vs : List V} {s t : Sl} (r : RRL K C Hs H0 H vs [s, t]) : ∃ v w, vs = [v, w] ∧ RR K C Hs H0 H v s ∧ RR K C Hs H0 H w t := by
  cases r with
  | cons h r => cases r with
    | cons h' r => cases r; exact ⟨_, _, rfl, h, h'⟩
theorem c_len : CallS K C (rLen K) fLen := by
  intro Hs H0 H xs as c Q i hs r e q
  unfold fLen at e
  split at e
  · split at e
    · cases e
      obtain ⟨v, rfl, r0⟩ := r.one
      rw [RD.strI r0]
      exact rd_lenS (by assumption) (q _ _ _ (.refl i) (RD.int _))
    · cases e
  · obtain ⟨v, rfl, r0⟩ := r.one
    obtain ⟨ds, e1, rfl⟩ := map_some e
    obtain ⟨l, xs, rfl, h, r1⟩ := r0.q i e1
    have z := q (.int ds.length) _ _ (.refl i) (RD.int _)
    rw [← r1.1] at z
    exact rd_lenSq h z
  · cases e
theorem c_sum : CallS K C (rSum K) fSum := by
  intro Hs H0 H xs as c Q i hs r e q
  unfold fSum at e
  split at e
  · obtain ⟨v, rfl, r0⟩ := r.one
    obtain ⟨ds, e1, e⟩ := bind_some e
    obtain ⟨ns, e2, rfl⟩ := map_some e
    obtain ⟨l, ys, rfl, h, r1⟩ := r0.q i e1
    rw [ints_some e2] at r1
    have := r1.ints
    subst this
    exact ⟨l, ns, rfl, h, q _ _ _ (.refl i) (RD.int _)⟩
  · cases e
theorem c_max : CallS K C rMax fMax := by
  intro Hs H0 H xs as c Q i hs r e q
  unfold fMax at e
  split at e
  · cases e
    obtain ⟨v, w, rfl, r1, r2⟩ := r.two
    rw [RD.intI r1, RD.intI r2]
    exact rd_max (q _ _ _ (.refl i) (RD.int _))
  · cases e
theorem c_min : CallS K C rMin fMin := by
  intro Hs H0 H xs as c Q i hs r e q
  unfold fMin at e
  split at e
  · cases e
    obtain ⟨v, w, rfl, r1, r2⟩ := r.two
    rw [RD.intI r1, RD.intI r2]
    exact rd_min (q _ _ _ (.refl i) (RD.int _))
  · cases e
end

def truS : Sl → Option Bool
  | .sh .non => some false
  | .sh (.bl b) => some b
  | .sh (.int i) => some (i != 0)
  | .sh (.str y) => if y.length ≤ sizeLine then some ((y.length : Int) != 0) else none
  | s => s.q.map fun ds => !ds.isEmpty
def tTru? (a : Ev) : En → Option Bool := fun E => (a E).bind truS
def tyN : D → Option String
  | .non => some "NoneType"
  | .bl _ => some "bool"
  | .int _ => some "int"
  | .str _ => some "str"
  | .tup _ => some "tuple"
  | .lst _ => some "list"
  | .fz _ => some "list"
  | .row _ => none
  | .dct _ _ => none
  | .dfz _ _ => none
  | .exc _ => none
def kitB (t n : String) : Bool := t == n || (t == "bool" && n == "int")
def eIsi (n : String) (a : Ev) : Ev := fun E => (a E).bind fun s => s.d.bind fun d => (tyN d).map fun t => .sh (.bl (kitB t n))
def D.isRow : D → Bool
  | .row _ => true
  | _ => false
def eIsiR (a : Ev) : Ev := fun E => (a E).bind fun s => s.d.bind fun d => if d.isRow = true then some (.sh (.bl true)) else none
section
variable {K : PySem.W.Frag} {C : Addr} {Hs H0 H : Hp} {te : TE} {ea : Ev}
theorem RDL.empty {xs : List V} {ds : List D} (r : RDL K C H xs ds) : xs.isEmpty = ds.isEmpty := by
  cases xs <;> cases ds <;> first | rfl | (have := r.1; simp at this)
theorem s_tru (ha : SE K C te ea) : ST K C (tTru K te) (tTru? ea) := by
  intro B H0 H σ E k Q I e q
  obtain ⟨a, e1, e⟩ := bind_some e
  refine ha B H0 H σ E a _ I e1 fun x H1 H1' s1 r1 => ?_
  have seq : ∀ {a : Sl}, RR K C H H1 H1' x a → a.q.map (fun ds => !ds.isEmpty) = some k → ∃ k', TruV K x H1' k' ∧ Q k' H1' := fun {a} r1 e => by
    obtain ⟨ds, e2, rfl⟩ := map_some e
    obtain ⟨l, xs, rfl, h, r⟩ := r1.q s1.i e2
    have z := q _ _ s1
    rw [← r.empty] at z
    rcases h with h | h
    · exact ⟨_, .inl ⟨xs, h, rfl⟩, z⟩
    · exact ⟨_, .inr (.inl ⟨xs, h, rfl⟩), z⟩
  unfold truS at e
  split at e
  · cases e; rw [RD.nonI r1]; exact ⟨_, rfl, q _ _ s1⟩
  · cases e; rw [RD.blI r1]; exact ⟨_, rfl, q _ _ s1⟩
  · cases e; rw [RD.intI r1]; exact ⟨_, rfl, q _ _ s1⟩
  · split at e
    · cases e; rw [RD.strI r1]; exact ⟨_, ⟨by assumption, rfl⟩, q _ _ s1⟩
    · cases e
  · exact seq r1 e
theorem RD.ty {x : V} {d : D} {t : String} (r : RD K C H x d) (e : tyN d = some t) : TyS K H x (.type t) := by
  cases r with
  | non => cases e; exact .of .non
  | bl b => cases e; exact .of (.bl b)
  | int i => cases e; exact .of (.int i)
  | str i => cases e; exact .of (.str i)
  | tup h _ _ => cases e; exact .sqT h
  | lst h _ _ => cases e; exact .sqL (.of h)
  | fz h _ _ => cases e; exact .sqL h
  | row _ _ _ _ => cases e
  | dct _ _ _ _ => cases e
  | dfz _ _ _ _ => cases e
  | exc _ _ => cases e
end
end LE

namespace LE
open PySem L2 LR

mutual
inductive Pt where
  | nm (i : Nat)
  | tp (l : Pts)
inductive Pts where
  | nil
  | cons (p : Pt) (l : Pts)
end
mutual
def Pt.bind : Pt → D → En → Option En
  | .nm i, d, E => if i < E.length then some (E.set i (.sh d)) else none
  | .tp l, .tup ds, E => l.bind ds E
  | .tp _, _, _ => none
def Pts.bind : Pts → List D → En → Option En
  | .nil, [], E => some E
  | .cons p l, d :: ds, E => (p.bind d E).bind fun E' => l.bind ds E'
  | _, _, _ => none
end
mutual
def Pt.slots : Pt → List Nat
  | .nm i => [i]
  | .tp l => l.slots
def Pts.slots : Pts → List Nat
  | .nil => []
  | .cons p l => p.slots ++ l.slots
end
mutual
theorem Pt.keep : ∀ {p : Pt} {d : D} {E E' : En}, p.bind d E = some E' → E'.length = E.length ∧ ∀ i, i ∉ p.slots → E'[i]? = E[i]?
  | .nm i, d, E, E', e => by
    unfold Pt.bind at e
    split at e
    · cases e
      refine ⟨by simp, fun j hj => ?_⟩
      rw [List.getElem?_set, if_neg]
      intro z; exact hj (by simp [Pt.slots, z])
    · cases e
  | .tp l, d, E, E', e => by
    cases d with
    | tup ds => exact Pts.keep (p := l) (ds := ds) (by simpa [Pt.bind] using e)
    | _ => simp [Pt.bind] at e
theorem Pts.keep : ∀ {p : Pts} {ds : List D} {E E' : En}, p.bind ds E = some E' → E'.length = E.length ∧ ∀ i, i ∉ p.slots → E'[i]? = E[i]?
  | .nil, [], E, E', e => by simp [Pts.bind] at e; subst e; exact ⟨rfl, fun _ _ => rfl⟩
  | .nil, _ :: _, _, _, e => by simp [Pts.bind] at e
  | .cons _ _, [], _, _, e => by simp [Pts.bind] at e
  | .cons p l, d :: ds, E, E', e => by
    rw [Pts.bind] at e
    obtain ⟨E1, e1, e2⟩ := bind_some e
    obtain ⟨h1, h2⟩ := Pt.keep e1
    obtain ⟨h3, h4⟩ := Pts.keep e2
    refine ⟨h3.trans h1, fun i hi => ?_⟩
    simp [Pts.slots] at hi
    rw [h4 i hi.2, h2 i hi.1]
end
section
variable (K : PySem.W.Frag) (C : Addr)
def SG (g : TG) (p : Pt) : Prop := ∀ (B H0 H : Hp) (σ : St) (E E' : En) (x : V) (d : D) (Q : St → Hp → Prop), EnvR K C B H0 H σ E → RD K C H0 x d → p.bind d E = some E' → (∀ σ', EnvR K C B H0 H σ' E' → Q σ' H) → g x σ H Q
def SGs (g : TGs) (p : Pts) : Prop := ∀ (B H0 H : Hp) (σ : St) (E E' : En) (xs : List V) (ds : List D) (Q : St → Hp → Prop), EnvR K C B H0 H σ E → RDL K C H0 xs ds → p.bind ds E = some E' → (∀ σ', EnvR K C B H0 H σ' E' → Q σ' H) → g xs σ H Q
end
section
variable {K : PySem.W.Frag} {C : Addr}
theorem EnvR.setSh {B H0 H : Hp} {σ : St} {E : En} {i : Nat} {v : V} {d : D} (I : EnvR K C B H0 H σ E) (hi : i < E.length) (r : RD K C H0 v d) : EnvR K C B H0 H (σ.set i (some v)) (E.set i (.sh d)) :=
  I.put' (s := .sh d) (.refl I.h) hi r rfl
theorem g_nm (i : Nat) : SG K C (gName i) (.nm i) := by
  intro B H0 H σ E E' x d Q I r e q
  rw [Pt.bind] at e
  split at e
  · cases e; exact q _ (I.setSh (by assumption) r)
  · cases e
theorem g_nil : SGs K C gNil .nil := by
  intro B H0 H σ E E' xs ds Q I r e q
  cases ds with
  | nil =>
    cases xs with
    | nil => rw [Pts.bind] at e; cases e; exact ⟨rfl, q σ I⟩
    | cons _ _ => have := r.1; simp at this
  | cons _ _ => simp [Pts.bind] at e
theorem g_cons {g : TG} {gs : TGs} {p : Pt} {ps : Pts} (h : SG K C g p) (hs : SGs K C gs ps) : SGs K C (gCons g gs) (.cons p ps) := by
  intro B H0 H σ E E' xs ds Q I r e q
  cases ds with
  | nil => simp [Pts.bind] at e
  | cons d ds =>
    cases xs with
    | nil => have := r.1; simp at this
    | cons x xs =>
      rw [Pts.bind] at e
      obtain ⟨E1, e1, e2⟩ := bind_some e
      exact ⟨x, xs, rfl, h B H0 H σ E E1 x d _ I r.head e1 fun σ1 I1 => hs B H0 H σ1 E1 E' xs ds Q I1 r.tail e2 q⟩
theorem g_tp {n : Nat} {gs : TGs} {ps : Pts} (hn : ∀ (ds : List D) (E E' : En), ps.bind ds E = some E' → ds.length = n) (hs : SGs K C gs ps) : SG K C (gTup K n gs) (.tp ps) := by
  intro B H0 H σ E E' x d Q I r e q
  cases d with
  | tup ds =>
    rw [Pt.bind] at e
    obtain ⟨a, xs, rfl, h, r⟩ := RD.tupI r
    exact ⟨a, xs, rfl, I.h.seqT h, by rw [r.1]; exact hn ds E E' e, hs B H0 H σ E E' xs ds Q I r e q⟩
  | _ => simp [Pt.bind] at e
def Pts.len : Pts → Nat
  | .nil => 0
  | .cons _ l => l.len + 1
theorem Pts.bind_len : ∀ {ps : Pts} {ds : List D} {E E' : En}, ps.bind ds E = some E' → ds.length = ps.len
  | .nil, [], _, _, _ => rfl
  | .nil, _ :: _, _, _, e => by simp [Pts.bind] at e
  | .cons _ _, [], _, _, e => by simp [Pts.bind] at e
  | .cons p l, d :: ds, E, E', e => by
    rw [Pts.bind] at e
    obtain ⟨E1, e1, e2⟩ := bind_some e
    rw [List.length_cons, Pts.bind_len e2]; rfl
theorem g_tup {n : Nat} {gs : TGs} {ps : Pts} (hs : SGs K C gs ps) (hn : ps.len = n) : SG K C (gTup K n gs) (.tp ps) := g_tp (fun _ _ _ e => (Pts.bind_len e).trans hn) hs
end

section
variable (K : PySem.W.Frag) (C : Addr)
def ItOk (A : Hp) (J : It) (ds : List D) (H0 : Hp) : Prop := ∀ H0' H', SStep A H0 H0' H' → (∀ (i : Nat) (d : D), ds[i]? = some d → J.go i H' ∧ ∀ x H2, J.yld i H' x H2 → ∃ H02, Step H' H0' H' H02 H2 ∧ RD K C H02 x d) ∧ J.stop ds.length H'
def SI (m : Bool) (wi : TI) (ev : En → Option (List D)) : Prop := ∀ (B H0 H : Hp) (σ : St) (E : En) (ds : List D) (R : It → Hp → Prop), EnvR K C B H0 H σ E → ev E = some ds →
  (∀ J H0' H', Step H H0 H H0' H' → ItOk K C (if m = true then H' else B) J ds H0' → R J H') → wi σ H R
end
def Sl.it (m : Bool) : Sl → Option (List D)
  | .bo ds => if m = true then some ds else none
  | s => s.q
def iE (m : Bool) (a : Ev) : En → Option (List D) := fun E => (a E).bind (Sl.it m)
def iV (i : Nat) : En → Option (List D) := fun E => match E[i]? with
  | some (.bo ds) => some ds
  | some (.sh d) => (Sl.sh d).q
  | _ => none
def rng (lo : Int) (n : Nat) : List D := (List.range n).map fun (i : Nat) => .int (lo + (i : Int))
def in62 (a : Int) : Bool := Nat.ble a.natAbs 4611686018427387903
def iR1 (as : En → Option (List Sl)) : En → Option (List D) := fun E => (as E).bind fun ss => match ss with
  | [.sh (.int n)] => if in62 n = true then some (rng 0 n.toNat) else none
  | _ => none
def iR2 (as : En → Option (List Sl)) : En → Option (List D) := fun E => (as E).bind fun ss => match ss with
  | [.sh (.int a), .sh (.int b)] => if (in62 a && in62 b) = true then some (rng a (b - a).toNat) else none
  | _ => none
section
variable {K : PySem.W.Frag} {C : Addr} {te : TE} {ea : Ev} {m : Bool}
theorem it_list {A H0 : Hp} {a : Addr} {xs : List V} {ds : List D} (hd : ∀ H0' H', SStep A H0 H0' H' → SqL K H' a xs) (r : RDL K C H0 xs ds) : ItOk K C A (Itl K a) ds H0 := by
  intro H0' H' st
  have hq := hd H0' H' st
  refine ⟨fun i d e => ?_, ⟨xs, hq, by rw [r.1]; exact Nat.le_refl _⟩⟩
  obtain ⟨x, e1, r1⟩ := r.get e
  refine ⟨⟨xs, x, hq, e1⟩, fun y H2 ⟨e2, e3⟩ => ?_⟩
  subst e2
  have := e3 xs hq
  rw [e1] at this
  cases this
  exact ⟨H0', .refl st.i, r1.mono st.z⟩
theorem it_tup {A H0 : Hp} {a : Addr} {xs : List V} {ds : List D} (hd : ∀ H0' H', SStep A H0 H0' H' → SqT K H' a xs) (r : RDL K C H0 xs ds) : ItOk K C A (Itt K a) ds H0 := by
  intro H0' H' st
  have hq := hd H0' H' st
  refine ⟨fun i d e => ?_, ⟨xs, hq, by rw [r.1]; exact Nat.le_refl _⟩⟩
  obtain ⟨x, e1, r1⟩ := r.get e
  refine ⟨⟨xs, x, hq, e1⟩, fun y H2 ⟨e2, e3⟩ => ?_⟩
  subst e2
  have := e3 xs hq
  rw [e1] at this
  cases this
  exact ⟨H0', .refl st.i, r1.mono st.z⟩
theorem s_iE (ha : SE K C te ea) : SI K C m (iSeq K te) (iE m ea) := by
  intro B H0 H σ E ds R I e q
  obtain ⟨s, e1, e⟩ := bind_some e
  cases s with
  | no => cases e
  | bd _ _ => cases e
  | od _ _ => cases e
  | bo es =>
    unfold Sl.it at e
    dsimp only at e
    split at e
    · next hm =>
      cases e
      refine .inl (ha B H0 H σ E _ _ I e1 fun x H1 H1' s1 r1 => ?_)
      obtain ⟨l, xs, rfl, h, r⟩ := r1
      refine ⟨l, rfl, ⟨xs, .of h⟩, q _ _ _ s1 ?_⟩
      rw [if_pos hm]
      exact it_list (fun H0' H' st => .of (st.b _ _ h)) r
    · cases e
  | own es =>
    cases (show some es = some ds from e)
    refine .inl (ha B H0 H σ E _ _ I e1 fun x H1 H1' s1 r1 => ?_)
    have f := frz_step (Hs := H) s1.i
    have r2 := RR.frz s1.i r1 rfl
    obtain ⟨l, xs, rfl, h, r⟩ := RD.lstI r2
    exact ⟨l, rfl, ⟨xs, .of (f.i _ _ h)⟩, q _ _ _ (s1.comp f fun _ z => z) (it_list (fun H0' H' st => .of (st.i _ _ (st.z _ _ h))) r)⟩
  | sh d =>
    cases d with
    | lst es =>
      cases (show some es = some ds from e)
      refine .inl (ha B H0 H σ E _ _ I e1 fun x H1 H1' s1 r1 => ?_)
      obtain ⟨l, xs, rfl, h, r⟩ := RD.lstI r1
      exact ⟨l, rfl, ⟨xs, .of (s1.i _ _ h)⟩, q _ _ _ s1 (it_list (fun H0' H' st => .of (st.i _ _ (st.z _ _ h))) r)⟩
    | fz es =>
      cases (show some es = some ds from e)
      refine .inl (ha B H0 H σ E _ _ I e1 fun x H1 H1' s1 r1 => ?_)
      obtain ⟨l, xs, rfl, h, r⟩ := RD.fzI r1
      exact ⟨l, rfl, ⟨xs, s1.i.seq h⟩, q _ _ _ s1 (it_list (fun H0' H' st => (st.z.trans st.i).seq h) r)⟩
    | tup es =>
      cases (show some es = some ds from e)
      refine .inr (ha B H0 H σ E _ _ I e1 fun x H1 H1' s1 r1 => ?_)
      obtain ⟨l, xs, rfl, h, r⟩ := RD.tupI r1
      exact ⟨l, rfl, ⟨xs, s1.i.seqT h⟩, q _ _ _ s1 (it_tup (fun H0' H' st => (st.z.trans st.i).seqT h) r)⟩
    | _ => cases (show none = some ds from e)
theorem rng_get {lo : Int} {n i : Nat} {d : D} (e : (rng lo n)[i]? = some d) : i < n ∧ d = .int (lo + (i : Int)) := by
  unfold rng at e
  rw [List.getElem?_map] at e
  cases h : (List.range n)[i]? with
  | none => rw [h] at e; cases e
  | some j =>
    rw [h] at e; cases e
    obtain ⟨h1, h2⟩ := List.getElem?_eq_some_iff.mp h
    simp at h1 h2
    subst h2
    exact ⟨h1, rfl⟩
theorem it_rng {A H0 : Hp} {lo : Int} {n : Nat} : ItOk K C A (Itr lo n) (rng lo n) H0 := by
  intro H0' H' st
  refine ⟨fun i d e => ?_, by show n ≤ _; simp [rng]⟩
  obtain ⟨h1, rfl⟩ := rng_get e
  refine ⟨h1, fun x H2 ⟨e1, e2⟩ => ?_⟩
  subst e1 e2
  exact ⟨H0', .refl st.i, .int _⟩
theorem in62_ok {a : Int} (h : in62 a = true) : -(2 ^ 62) ≤ a ∧ a < 2 ^ 62 := by
  unfold in62 at h
  rw [Nat.ble_eq] at h
  omega
theorem s_iR1 {t : TA} {ev : En → Option (List Sl)} (ha : SA K C t ev) : SI K C m (iRng1 t) (iR1 ev) := by
  intro B H0 H σ E ds R I e q
  obtain ⟨ss, e1, e⟩ := bind_some e
  split at e
  · split at e
    · next hn =>
      cases e
      refine ha B H0 H σ E _ _ I e1 fun vs H1 H1' s1 r1 => ?_
      obtain ⟨v, rfl, r⟩ := r1.one
      rw [RD.intI r]
      exact ⟨_, rfl, (in62_ok hn).1, (in62_ok hn).2, q _ _ _ s1 it_rng⟩
    · cases e
  · cases e
end

def yes? : En → Option Bool := fun _ => some true
def impE (imp : List (Option Nat)) (E : En) : En := imp.map fun o => match o with
  | none => .no
  | some k => match E[k]? with
    | some (.own ds) => .bo ds
    | some (.od ks ds) => .bd ks ds
    | some s => s
    | none => .no
def eEach (p : Pt) (c : En → Option Bool) (a : Ev) (E1 : En) : List D → Option (List D)
  | [] => some []
  | d :: ds => (p.bind d E1).bind fun E2 => (c E2).bind fun k => if k = true then (a E2).bind fun s => s.frz.bind fun y => (eEach p c a E1 ds).bind fun ys => some (y :: ys) else eEach p c a E1 ds
def eComp (it : En → Option (List D)) (p : Pt) (c : En → Option Bool) (a : Ev) (imp : List (Option Nat)) : Ev := fun E => (it E).bind fun ds => if ds.length ≤ sizeLine then (eEach p c a (impE imp E) ds).map .own else none
section
variable {K : PySem.W.Frag} {C : Addr}
theorem s_yes : ST K C tYes yes? := fun _ _ _ _ _ _ _ I e q => by cases e; exact q _ _ (.refl I.h)
theorem env_imp {B H0 H : Hp} {σ : St} {E : En} {imp : List (Option Nat)} (I : EnvR K C B H0 H σ E) : EnvR K C H H0 H (impS imp σ) (impE imp E) := by
  have get : ∀ (i : Nat) (s : Sl), (impE imp E)[i]? = some s → s = .no ∨ ∃ v, (impS imp σ)[i]? = some (some v) ∧ RSl K C H H0 H v s ∧ isOwn s = false := fun i s e => by
    unfold impE at e
    unfold impS
    rw [List.getElem?_map] at e ⊢
    cases h : imp[i]? with
    | none => rw [h] at e; cases e
    | some o =>
      rw [h] at e
      cases o with
      | none => cases e; exact .inl rfl
      | some k =>
        have e' : (match E[k]? with | some (.own ds) => Sl.bo ds | some (.od ks ds) => Sl.bd ks ds | some s => s | none => .no) = s := Option.some.inj e
        cases hE : E[k]? with
        | none => rw [hE] at e'; exact .inl e'.symm
        | some s' =>
          rw [hE] at e'
          rcases I.at' k s' hE with z | ⟨v, h1, h2⟩
          · subst z; exact .inl e'.symm
          · have g : (σ[k]?).join = some v := by rw [h1]; rfl
            cases s' with
            | no => exact .inl e'.symm
            | sh d => dsimp only at e'; subst e'; exact .inr ⟨v, by show some ((σ[k]?).join) = _; rw [g], h2, rfl⟩
            | bo ds =>
              dsimp only at e'; subst e'
              obtain ⟨l, xs, q1, q2, q3⟩ := h2
              exact .inr ⟨v, by show some ((σ[k]?).join) = _; rw [g], ⟨l, xs, q1, I.b _ _ q2, q3⟩, rfl⟩
            | own ds =>
              dsimp only at e'; subst e'
              obtain ⟨l, xs, q1, q2, _, _, q3⟩ := h2
              exact .inr ⟨v, by show some ((σ[k]?).join) = _; rw [g], ⟨l, xs, q1, q2, q3⟩, rfl⟩
            | bd ks ds =>
              dsimp only at e'; subst e'
              obtain ⟨l, xs, q1, q2, q3⟩ := h2
              exact .inr ⟨v, by show some ((σ[k]?).join) = _; rw [g], ⟨l, xs, q1, I.b _ _ q2, q3⟩, rfl⟩
            | od ks ds =>
              dsimp only at e'; subst e'
              obtain ⟨l, xs, q1, q2, _, _, q3⟩ := h2
              exact .inr ⟨v, by show some ((σ[k]?).join) = _; rw [g], ⟨l, xs, q1, q2, q3⟩, rfl⟩
  refine ⟨Same.refl _, I.h, by simp [impS, impE], fun i s e => ?_, fun i j s t v hij e1 e2 o1 o2 => ?_⟩
  · rcases get i s e with z | ⟨v, h1, h2, _⟩
    · exact .inl z
    · exact .inr ⟨v, h1, h2⟩
  · rcases get i _ e1 with z | ⟨v, h1, h2, h3⟩
    · subst z; cases o1
    · rw [h3] at o1; cases o1
theorem s_comp {wi : TI} {g : TG} {tt : TT} {te : TE} {imp : List (Option Nat)} {it : En → Option (List D)} {p : Pt} {c : En → Option Bool} {a : Ev} (hi : SI K C true wi it) (hg : SG K C g p) (hc : ST K C tt c) (ha : SE K C te a)
    (hp : (p.slots.all fun i => match imp[i]? with | some none => true | _ => false) = true) : SE K C (tComp wi g tt te imp) (eComp it p c a imp) := by
  intro B H0 H σ E r Q I e q
  obtain ⟨ds, e1, e⟩ := bind_some e
  split at e
  · next hl =>
    obtain ⟨es, e2, rfl⟩ := map_some e
    refine hi B H0 H σ E ds _ I e1 fun J H1 H1' s1 ok => ?_
    rw [if_pos rfl] at ok
    have I1 : EnvR K C H1' H1 H1' (impS imp σ) (impE imp E) := env_imp (I.step s1)
    -- the loop: what was gathered, what comes
    refine ⟨fun i m ys σ' H' => m = ds.length - i ∧ i ≤ ds.length ∧ ∃ H0' gs rs, EnvR K C H1' H0' H' σ' (impE imp E) ∧ Step H1' H1 H1' H0' H' ∧ RDL K C H0' ys gs ∧ eEach p c a (impE imp E) (ds.drop i) = some rs ∧ es = gs ++ rs ∧ gs.length ≤ i,
      ⟨ds.length, by simp, Nat.zero_le _, H1, [], es, I1, .refl s1.i, .nil, e2, rfl, Nat.le_refl _⟩, ?_⟩
    rintro i m ys σ' H' ⟨rfl, hi', H0', gs, rs, I', st, rys, er, ees, hgl⟩
    have stop := ok H0' H' ⟨st.h, st.z, st.n, st.i⟩
    by_cases hlt : i < ds.length
    · have hd : ds[i]? = some ds[i] := by simp [hlt]
      obtain ⟨go, yl⟩ := stop.1 i _ hd
      refine .inr ⟨go, by rw [rys.1]; omega, fun ys' σ2 H2 => ∃ H02 gs rs, EnvR K C H1' H02 H2 σ2 (impE imp E) ∧ Step H1' H1 H1' H02 H2 ∧ RDL K C H02 ys' gs ∧ eEach p c a (impE imp E) (ds.drop (i + 1)) = some rs ∧ es = gs ++ rs ∧ gs.length ≤ i + 1,
        fun ys' σ2 H2 h => ⟨ds.length - (i + 1), by omega, rfl, hlt, h⟩, fun x H2 y => ?_⟩
      obtain ⟨H02, st2, rx⟩ := yl x H2 y
      rw [List.drop_eq_getElem_cons hlt, eEach] at er
      obtain ⟨E2, b1, er⟩ := bind_some er
      obtain ⟨k, b2, er⟩ := bind_some er
      refine hg H1' H02 H2 σ' (impE imp E) E2 x _ _ (I'.step st2) rx b1 fun σ2 I2 => ?_
      have back : ∀ {H03 H3 : Hp}, EnvR K C H1' H03 H3 σ2 E2 → EnvR K C H1' H03 H3 σ2 (impE imp E) := fun {H03 H3} J => by
        obtain ⟨k1, k2⟩ := Pt.keep b1
        refine J.sub k1.symm fun j s ej => ?_
        by_cases hj : j ∈ p.slots
        · have := List.all_eq_true.mp hp j hj
          have ej' := ej
          unfold impE at ej'
          rw [List.getElem?_map] at ej'
          cases hm : imp[j]? with
          | none => rw [hm] at this; cases this
          | some o =>
            rw [hm] at this ej'
            cases o with
            | none => cases ej'; exact .inl rfl
            | some _ => cases this
        · exact .inr (by rw [k2 j hj]; exact ej)
      refine hc H1' H02 H2 σ2 E2 k _ I2 b2 fun H03 H3 st3 => ?_
      have st13 : Step H1' H1 H1' H03 H3 := (st.trans st2).trans st3
      cases k with
      | false =>
        rw [if_neg (by simp)]
        rw [if_neg (by simp)] at er
        exact ⟨H03, gs, rs, back (I2.step st3), st13, rys.mono (st2.z.trans st3.z), er, ees, by omega⟩
      | true =>
        rw [if_pos rfl]
        rw [if_pos rfl] at er
        obtain ⟨s, b3, er⟩ := bind_some er
        obtain ⟨y', b4, er⟩ := bind_some er
        obtain ⟨ws, b5, er⟩ := bind_some er
        cases er
        refine ha H1' H03 H3 σ2 E2 s _ (I2.step st3) b3 fun v H04 H4 st4 r4 => ?_
        have f := frz_step (Hs := H3) st4.i
        have st5 : Step H3 H03 H3 (frzH H3 H04 H4) H4 := st4.comp f fun _ z => z
        exact ⟨_, gs ++ [y'], ws, back ((I2.step st3).step st5), st13.trans st5, (rys.mono ((st2.z.trans st3.z).trans st5.z)).snoc (RR.frz st4.i r4 b4), b5, by rw [ees, List.append_assoc]; rfl, by rw [List.length_append]; simp; exact hgl⟩
    · have e3 : i = ds.length := by omega
      subst e3
      refine .inl ⟨stop.2, by rw [rys.1]; omega, fun p hp => ?_⟩
      rw [List.drop_length, eEach] at er
      cases er
      rw [List.append_nil] at ees
      subst ees
      exact own_new (Hs := H) st.i (s1.h.trans st.h) hp rys fun v H2 H2' s2 r2 => q v H2 H2' ((s1.trans st).comp s2 fun _ z => z) r2
  · cases e
end
end LE

namespace LE
open PySem L2 LR

inductive Out where
  | nx (E : En) | rt (r : Sl) | bk (E : En) | ct (E : En)
abbrev Es := En → Option Out
section
variable (K : PySem.W.Frag) (C : Addr)
def Fin (B H0 : Hp) (D : Ends) : Out → Prop
  | .nx E => ∀ σ' H0' H', SStep B H0 H0' H' → EnvR K C B H0' H' σ' E → D.nx σ' H'
  | .bk E => ∀ σ' H0' H', SStep B H0 H0' H' → EnvR K C B H0' H' σ' E → D.bk σ' H'
  | .ct E => ∀ σ' H0' H', SStep B H0 H0' H' → EnvR K C B H0' H' σ' E → D.ct σ' H'
  | .rt r => ∀ v H0' H', SStep B H0 H0' H' → RR K C B H0' H' v r → D.rt v H'
def SS (ts : TS) (ev : Es) : Prop := ∀ (B H0 H : Hp) (σ : St) (E : En) (o : Out) (D : Ends), EnvR K C B H0 H σ E → ev E = some o → Fin K C B H0 D o → ts D σ H
end
def xNext : Es := fun E => some (.nx E)
def xBreak : Es := fun E => some (.bk E)
def xCont : Es := fun E => some (.ct E)
def seqK (b : Es) : Out → Option Out
  | .nx E => b E
  | .rt r => some (.rt r)
  | .bk E => some (.bk E)
  | .ct E => some (.ct E)
def xSeq (a b : Es) : Es := fun E => (a E).bind (seqK b)
def xIf (c : En → Option Bool) (a b : Es) : Es := fun E => (c E).bind fun k => if k = true then a E else b E
def keep? : Sl → Option Sl
  | .sh d => some (.sh d)
  | .own ds => some (.own ds)
  | .od ks ds => some (.od ks ds)
  | _ => none
def xSet (i : Nat) (a : Ev) : Es := fun E => (a E).bind fun s => (keep? s).bind fun s => if i < E.length then some (.nx (E.set i s)) else none
def xSetZ (i : Nat) (a : Ev) : Es := fun E => (a E).bind fun s => s.frz.bind fun d => if i < E.length then some (.nx (E.set i (.sh d))) else none
def xAsg (p : Pt) (a : Ev) : Es := fun E => (a E).bind fun s => s.frz.bind fun d => (p.bind d E).map .nx
def xDrop (a : Ev) : Es := fun E => (a E).map fun _ => .nx E
def xRet (a : Ev) : Es := fun E => (a E).bind fun s => (keep? s).map .rt
def xRetV (i : Nat) : Es := fun E => match E[i]? with
  | some (.sh d) => some (.rt (.sh d))
  | some (.own ds) => some (.rt (.own ds))
  | some (.od ks ds) => some (.rt (.od ks ds))
  | _ => none
def xRetN : Es := fun _ => some (.rt (.sh .non))
def xNever : Es := fun _ => none
def xApp (i : Nat) (a : Ev) : Es := fun E => match E[i]? with
  | some (.own ds) => (a E).bind fun s => s.frz.bind fun d => if ds.length < sizeLine then some (.nx (E.set i (.own (ds ++ [d])))) else none
  | _ => none
def xExt (i : Nat) (a : Ev) : Es := fun E => match E[i]? with
  | some (.own ds) => (a E).bind fun s => s.m.bind fun es => if ds.length + es.length ≤ sizeLine then some (.nx (E.set i (.own (ds ++ es)))) else none
  | _ => none
def xSetIx (i : Nat) (k a : Ev) : Es := fun E => match E[i]? with
  | some (.own ds) => (a E).bind fun s => s.frz.bind fun d => (k E).bind fun t => match t with
    | .sh (.int z) => (ixN ds.length z).map fun j => .nx (E.set i (.own (ds.set j d)))
    | _ => none
  | _ => none
def xPop (i j : Nat) (f : Sl → Option Sl) : Es := fun E => match E[i]? with
  | some (.own ds) => (ds[ds.length - 1]?).bind fun d => (f (.sh d)).bind fun s => (sh? s).bind fun d' => if j < E.length then some (.nx ((E.set i (.own ds.dropLast)).set j (.sh d'))) else none
  | _ => none
def xAug (f : Int → Int → Int) (i : Nat) (a : Ev) : Es := fun E => match E[i]? with
  | some (.sh (.int x)) => (a E).bind fun s => match s with
    | .sh (.int y) => some (.nx (E.set i (.sh (.int (f x y)))))
    | _ => none
  | _ => none
def frzE (i : Nat) (E : En) : En := match E[i]? with
  | some (.own ds) => E.set i (.sh (.lst ds))
  | some (.od ks ds) => E.set i (.sh (.dct ks ds))
  | _ => E
def xFrz (i : Nat) (a : Es) : Es := fun E => a (frzE i E)
def xLoop (p : Pt) (b : Es) : List D → Es
  | [], E => some (.nx E)
  | d :: ds, E => (p.bind d E).bind fun E1 => (b E1).bind fun o => match o with
    | .nx E2 => xLoop p b ds E2
    | .ct E2 => xLoop p b ds E2
    | .bk E2 => some (.nx E2)
    | .rt r => some (.rt r)
def xFor (it : En → Option (List D)) (p : Pt) (b : Es) : Es := fun E => (it E).bind fun ds => xLoop p b ds E
section
variable {K : PySem.W.Frag} {C : Addr} {B H0 H H0' H' : Hp} {σ : St} {E : En} {D : Ends} {o : Out} {te : TE} {ea : Ev} {t u : TS} {et eu : Es}
theorem Fin.step (st : SStep B H0 H0' H') (f : Fin K C B H0 D o) : Fin K C B H0' D o := by
  cases o with
  | nx E => exact fun σ' H1 H1' s1 I => f σ' H1 H1' (st.trans s1) I
  | bk E => exact fun σ' H1 H1' s1 I => f σ' H1 H1' (st.trans s1) I
  | ct E => exact fun σ' H1 H1' s1 I => f σ' H1 H1' (st.trans s1) I
  | rt r => exact fun v H1 H1' s1 I => f v H1 H1' (st.trans s1) I
theorem EnvR.ss (I : EnvR K C B H0 H σ E) : SStep B H0 H0 H := .refl I.b I.h
theorem x_next : SS K C tNext xNext := fun _ _ _ _ _ _ _ I e f => by cases e; exact f _ _ _ I.ss I
theorem x_seq (ht : SS K C t et) (hu : SS K C u eu) : SS K C (tSeq t u) (xSeq et eu) := by
  intro B H0 H σ E o D I e f
  obtain ⟨o1, e1, e⟩ := bind_some e
  refine ht B H0 H σ E o1 _ I e1 ?_
  cases o1 with
  | nx E1 => exact fun σ1 H1 H1' s1 I1 => hu B H1 H1' σ1 E1 o D I1 e (f.step s1)
  | bk E1 => cases e; exact f
  | ct E1 => cases e; exact f
  | rt r => cases e; exact f
theorem x_if {c : TT} {ec : En → Option Bool} (hc : ST K C c ec) (ht : SS K C t et) (hu : SS K C u eu) : SS K C (tIfS c t u) (xIf ec et eu) := by
  intro B H0 H σ E o D I e f
  obtain ⟨k, e1, e⟩ := bind_some e
  refine hc B H0 H σ E k _ I e1 fun H1 H1' s1 => ?_
  cases k with
  | true => rw [if_pos rfl]; exact ht B H1 H1' σ E o D (I.step s1) e (f.step (s1.ss I.b))
  | false => rw [if_neg (by simp)]; exact hu B H1 H1' σ E o D (I.step s1) e (f.step (s1.ss I.b))
theorem keep_some {s r : Sl} (e : keep? s = some r) : s = r ∧ isBo r = false := by
  cases s <;> cases e <;> exact ⟨rfl, rfl⟩
theorem x_set {i : Nat} (ha : SE K C te ea) : SS K C (tAsg te (gName i)) (xSet i ea) := by
  intro B H0 H σ E o D I e f
  obtain ⟨s, e1, e⟩ := bind_some e
  obtain ⟨s', e2, e⟩ := bind_some e
  obtain ⟨rfl, hb⟩ := keep_some e2
  split at e
  · cases e
    exact ha B H0 H σ E _ _ I e1 fun v H1 H1' s1 r1 => f _ _ _ (s1.ss I.b) (I.put' s1 (by assumption) r1 hb)
  · cases e
theorem x_setZ {i : Nat} (ha : SE K C te ea) : SS K C (tAsg te (gName i)) (xSetZ i ea) := by
  intro B H0 H σ E o D I e f
  obtain ⟨s, e1, e⟩ := bind_some e
  obtain ⟨d, e2, e⟩ := bind_some e
  split at e
  · cases e
    refine ha B H0 H σ E _ _ I e1 fun v H1 H1' s1 r1 => ?_
    have s2 : Step H H0 H (frzH H H1 H1') H1' := s1.comp (frz_step s1.i) fun _ z => z
    exact f _ _ _ (s2.ss I.b) ((I.step s2).setSh (by assumption) (RR.frz s1.i r1 e2))
  · cases e
theorem x_drop (ha : SE K C te ea) : SS K C (tDrop te) (xDrop ea) := by
  intro B H0 H σ E o D I e f
  obtain ⟨s, e1, rfl⟩ := map_some e
  exact ha B H0 H σ E _ _ I e1 fun v H1 H1' s1 r1 => f _ _ _ (s1.ss I.b) (I.step s1)
theorem x_ret (ha : SE K C te ea) : SS K C (tRet te) (xRet ea) := by
  intro B H0 H σ E o D I e f
  obtain ⟨s, e1, e⟩ := bind_some e
  obtain ⟨s', e2, rfl⟩ := map_some e
  obtain ⟨rfl, hb⟩ := keep_some e2
  exact ha B H0 H σ E _ _ I e1 fun v H1 H1' s1 r1 => f _ _ _ (s1.ss I.b) (r1.weak fun a z => Same.free I.b z)
theorem x_retV {i : Nat} : SS K C (tRet (tVar i)) (xRetV i) := by
  intro B H0 H σ E o D I e f
  unfold xRetV at e
  split at e
  · next d h =>
    cases e
    rcases I.at' i _ h with z | ⟨v, h1, h2⟩
    · cases z
    · exact ⟨v, h1, f _ _ _ I.ss h2⟩
  · next d h =>
    cases e
    rcases I.at' i _ h with z | ⟨v, h1, h2⟩
    · cases z
    · exact ⟨v, h1, f _ _ _ I.ss h2⟩
  · next d h =>
    cases e
    rcases I.at' i _ h with z | ⟨v, h1, h2⟩
    · cases z
    · exact ⟨v, h1, f _ _ _ I.ss h2⟩
  · cases e
theorem EnvR.mutG {i : Nat} {l : Addr} {t t' : Sl} {o' : HO} (I : EnvR K C B H0 H σ E) (e1 : E[i]? = some t) (ho : isOwn t = true) (ho' : isOwn t' = true) (e2 : σ[i]? = some (some (.ref l))) (r : RSl K C B H0 (upd H l o') (.ref l) t') :
    EnvR K C B H0 (upd H l o') σ (E.set i t') := by
  obtain ⟨h1, h2, h3⟩ := I.ownG e1 ho e2
  have hi : i < E.length := (List.getElem?_eq_some_iff.mp e1).1
  have nb : ∀ {A : Hp}, A l = none → Same A H → Same A (upd H l o') := fun {A} n s a o e => by rw [upd_ne (ne_of_none e n)]; exact s a o e
  refine ⟨nb h3 I.b, nb h2 I.h, by simp [I.len], fun j s e => ?_, fun j k s1 s2 v hjk a1 a2 p1 p2 a3 => ?_⟩
  · rw [List.getElem?_set] at e
    by_cases hj : i = j
    · subst hj
      rw [if_pos rfl, if_pos hi] at e
      cases e
      exact .inr ⟨_, e2, r⟩
    · rw [if_neg hj] at e
      rcases I.at' j s e with z | ⟨v, q1, q2⟩
      · exact .inl z
      · refine .inr ⟨v, q1, ?_⟩
        cases s with
        | no => trivial
        | sh d => exact q2
        | bo es => exact q2
        | bd ks es => exact q2
        | own es =>
          obtain ⟨l', ys, p1, p2, p3, p4, p5⟩ := q2
          subst p1
          have : l' ≠ l := fun z => by subst z; exact I.sep i j t _ (.ref l') hj e1 e ho rfl e2 q1
          exact ⟨l', ys, rfl, by rw [upd_ne this]; exact p2, p3, p4, p5⟩
        | od ks es =>
          obtain ⟨l', ys, p1, p2, p3, p4, p5⟩ := q2
          subst p1
          have : l' ≠ l := fun z => by subst z; exact I.sep i j t _ (.ref l') hj e1 e ho rfl e2 q1
          exact ⟨l', ys, rfl, by rw [upd_ne this]; exact p2, p3, p4, p5⟩
  · have own : ∀ {j : Nat} {u : Sl}, (E.set i t')[j]? = some u → isOwn u = true → ∃ g, E[j]? = some g ∧ isOwn g = true := fun {j u} a w => by
      rw [List.getElem?_set] at a
      by_cases hj : i = j
      · subst hj; exact ⟨t, e1, ho⟩
      · rw [if_neg hj] at a; exact ⟨_, a, w⟩
    obtain ⟨g1, b1, c1⟩ := own a1 p1
    obtain ⟨g2, b2, c2⟩ := own a2 p2
    exact I.sep j k g1 g2 v hjk b1 b2 c1 c2 a3
theorem EnvR.mut {i : Nat} {l : Addr} {ds ds' : List LE.D} {xs xs' : List V} (I : EnvR K C B H0 H σ E) (e1 : E[i]? = some (.own ds)) (e2 : σ[i]? = some (some (.ref l))) (r : RDL K C H0 xs' ds') :
    EnvR K C B H0 (upd H l (.lst xs')) σ (E.set i (.own ds')) := by
  obtain ⟨_, h2, h3⟩ := I.ownG e1 rfl e2
  exact I.mutG (t' := .own ds') e1 rfl rfl e2 ⟨l, xs', rfl, upd_same, h2, h3, r⟩
theorem EnvR.slot {i : Nat} {ds : List LE.D} (I : EnvR K C B H0 H σ E) (e1 : E[i]? = some (.own ds)) : ∃ l xs, σ[i]? = some (some (.ref l)) ∧ H l = some (.lst xs) ∧ H0 l = none ∧ B l = none ∧ RDL K C H0 xs ds := by
  rcases I.at' i _ e1 with z | ⟨v, h1, l, xs, rfl, h2, h3, h4, h5⟩
  · cases z
  · exact ⟨l, xs, h1, h2, h3, h4, h5⟩
theorem x_app {i : Nat} (ha : SE K C te ea) : SS K C (tDrop (tBM K "list" rAppend (tVar i) (tCons te tNil))) (xApp i ea) := by
  intro B H0 H σ E o D I e f
  unfold xApp at e
  split at e
  · next ds h =>
    obtain ⟨s, e1, e⟩ := bind_some e
    obtain ⟨d, e2, e⟩ := bind_some e
    split at e
    · next hz =>
      cases e
      obtain ⟨l, xs, g1, g2, g3, g4, g5⟩ := I.slot h
      refine ⟨_, g1, .inl ⟨rfl, _, .of g2⟩, ?_⟩
      refine ha B H0 H σ E _ _ I e1 fun v H1 H1' s1 r1 => ?_
      have s2 : Step H H0 H (frzH H H1 H1') H1' := s1.comp (frz_step s1.i) fun _ z => z
      have I2 := I.step s2
      have m := I2.mut (xs := xs) h g1 ((g5.mono s2.z).snoc (RR.frz s1.i r1 e2))
      exact ⟨l, xs, v, rfl, rfl, s2.h _ _ g2, by rw [g5.1]; exact hz, f _ _ _ ⟨m.b, s2.z, (s2.ss I.b).n, m.h⟩ m⟩
    · cases e
  · cases e
theorem x_aug {i : Nat} {g : Int → Int → Int} (ha : SE K C te ea) : SS K C (tAug i te (ipI g)) (xAug g i ea) := by
  intro B H0 H σ E o D I e f
  unfold xAug at e
  split at e
  · next x h =>
    obtain ⟨s, e1, e⟩ := bind_some e
    split at e
    · cases e
      rcases I.at' i _ h with z | ⟨v, h1, h2⟩
      · cases z
      · have hi : i < E.length := (List.getElem?_eq_some_iff.mp h).1
        refine ⟨v, h1, ha B H0 H σ E _ _ I e1 fun w H1 H1' s1 r1 => ⟨_, _, RD.intI h2, RD.intI r1, f _ _ _ (s1.ss I.b) ((I.step s1).setSh hi (.int _))⟩⟩
    · cases e
  · cases e
theorem EnvR.slotD {i : Nat} {ks : List Int} {ds : List LE.D} (I : EnvR K C B H0 H σ E) (e1 : E[i]? = some (.od ks ds)) : ∃ l xs, σ[i]? = some (some (.ref l)) ∧ H l = some (dkO ks xs) ∧ H0 l = none ∧ B l = none ∧ ks.length = ds.length ∧ RDL K C H0 xs ds := by
  rcases I.at' i _ e1 with z | ⟨v, h1, l, xs, rfl, h2, h3, h4, h5⟩
  · cases z
  · exact ⟨l, xs, h1, h2, h3, h4, h5⟩
theorem EnvR.frzG (I : EnvR K C B H0 H σ E) {i : Nat} {t : Sl} {l : Addr} {o : HO} {d : LE.D} (h : E[i]? = some t) (ho : isOwn t = true) (g1 : σ[i]? = some (some (.ref l))) (g2 : H l = some o) (g5 : ∀ H1, Same H0 H1 → H1 l = some o → RD K C H1 (.ref l) d) : ∃ H0', SStep B H0 H0' H ∧ EnvR K C B H0' H σ (E.set i (.sh d)) := by
  obtain ⟨_, g3, g4⟩ := I.ownG h ho g1
  have hi : i < E.length := (List.getElem?_eq_some_iff.mp h).1
  have s0 : Same H0 (upd H0 l o) := .new g3
  have s1 : Same (upd H0 l o) H := fun a o e => by
    by_cases ha : a = l
    · subst ha; rw [upd_same] at e; cases e; exact g2
    · rw [upd_ne ha] at e; exact I.h a o e
  refine ⟨upd H0 l o, ⟨I.b, s0, fun a o e => ?_, s1⟩, I.b, s1, by simp [I.len], fun j s e => ?_, fun j k u1 u2 v hjk a1 a2 w1 w2 a3 => ?_⟩
  · by_cases ha : a = l
    · subst ha; exact .inr (.inl g4)
    · rw [upd_ne ha] at e; exact .inl e
  · rw [List.getElem?_set] at e
    by_cases hj : i = j
    · subst hj
      rw [if_pos rfl, if_pos hi] at e
      cases e
      exact .inr ⟨_, g1, g5 _ s0 upd_same⟩
    · rw [if_neg hj] at e
      rcases I.at' j s e with z | ⟨v, q1, q2⟩
      · exact .inl z
      · refine .inr ⟨v, q1, ?_⟩
        cases s with
        | no => trivial
        | sh d => exact RD.mono s0 q2
        | bo es => obtain ⟨l', ys, p1, p2, p3⟩ := q2; exact ⟨l', ys, p1, p2, p3.mono s0⟩
        | bd ks es => obtain ⟨l', ys, p1, p2, hk, p3⟩ := q2; exact ⟨l', ys, p1, p2, hk, p3.mono s0⟩
        | own es =>
          obtain ⟨l', ys, p1, p2, p3, p4, p5⟩ := q2
          subst p1
          have : l' ≠ l := fun z => by subst z; exact I.sep i j t _ (.ref l') hj h e ho rfl g1 q1
          exact ⟨l', ys, rfl, p2, by rw [upd_ne this]; exact p3, p4, p5.mono s0⟩
        | od ks es =>
          obtain ⟨l', ys, p1, p2, p3, p4, hk, p5⟩ := q2
          subst p1
          have : l' ≠ l := fun z => by subst z; exact I.sep i j t _ (.ref l') hj h e ho rfl g1 q1
          exact ⟨l', ys, rfl, p2, by rw [upd_ne this]; exact p3, p4, hk, p5.mono s0⟩
  · have own : ∀ {j : Nat} {u : Sl}, (E.set i (.sh d))[j]? = some u → isOwn u = true → E[j]? = some u := fun {j u} a w => by
      rw [List.getElem?_set] at a
      by_cases hj : i = j
      · subst hj; rw [if_pos rfl, if_pos hi] at a; cases a; cases w
      · rw [if_neg hj] at a; exact a
    exact I.sep j k u1 u2 v hjk (own a1 w1) (own a2 w2) w1 w2 a3
theorem EnvR.frz (I : EnvR K C B H0 H σ E) (i : Nat) : ∃ H0', SStep B H0 H0' H ∧ EnvR K C B H0' H σ (frzE i E) := by
  unfold frzE
  split
  · next ds h =>
    obtain ⟨l, xs, g1, g2, g3, g4, g5⟩ := I.slot h
    exact I.frzG h rfl g1 g2 fun H1 s0 hl => .mkL hl (g5.mono s0)
  · next ks ds h =>
    obtain ⟨l, xs, g1, g2, g3, g4, hk, g5⟩ := I.slotD h
    exact I.frzG h rfl g1 g2 fun H1 s0 hl => .mkD hl hk (g5.mono s0)
  · exact ⟨H0, I.ss, I⟩
theorem x_for {wi : TI} {g : TG} {it : En → Option (List LE.D)} {p : Pt} (hi : SI K C false wi it) (hg : SG K C g p) (ht : SS K C t et) : SS K C (tFor wi g t) (xFor it p et) := by
  intro B H0 H σ E o D I e f
  obtain ⟨ds, e1, e⟩ := bind_some e
  refine hi B H0 H σ E ds _ I e1 fun J H1 H1' s1 ok => ?_
  rw [if_neg (by simp)] at ok
  refine ⟨fun i m σ' H' => m = ds.length - i ∧ i ≤ ds.length ∧ ∃ H0' E', EnvR K C B H0' H' σ' E' ∧ SStep B H1 H0' H' ∧ xLoop p et (ds.drop i) E' = some o,
    ⟨ds.length, by simp, Nat.zero_le _, H1, E, I.step s1, .refl (I.b.trans s1.h) s1.i, e⟩, ?_⟩
  rintro i m σ' H' ⟨rfl, hi', H0', E', I', st, er⟩
  have stop := ok H0' H' st
  have f' : Fin K C B H0' D o := (f.step (s1.ss I.b)).step st
  by_cases hlt : i < ds.length
  · have hd : ds[i]? = some ds[i] := by simp [hlt]
    obtain ⟨go, yl⟩ := stop.1 i _ hd
    refine .inr ⟨go, fun σ2 H2 => ∃ H02 E2, EnvR K C B H02 H2 σ2 E2 ∧ SStep B H1 H02 H2 ∧ xLoop p et (ds.drop (i + 1)) E2 = some o, fun σ2 H2 h => ⟨ds.length - (i + 1), by omega, rfl, hlt, h⟩, fun x H2 y => ?_⟩
    obtain ⟨H02, st2, rx⟩ := yl x H2 y
    rw [List.drop_eq_getElem_cons hlt, xLoop] at er
    obtain ⟨E1, b1, er⟩ := bind_some er
    obtain ⟨o1, b2, er⟩ := bind_some er
    have ss2 : SStep B H0' H02 H2 := st2.ss I'.b
    refine hg B H02 H2 σ' E' E1 x _ _ (I'.step st2) rx b1 fun σ2 I2 => ?_
    refine ht B H02 H2 σ2 E1 o1 _ I2 b2 ?_
    cases o1 with
    | nx E2 => exact fun σ3 H3 H3' s3 I3 => ⟨H3, E2, I3, (st.trans ss2).trans s3, er⟩
    | ct E2 => exact fun σ3 H3 H3' s3 I3 => ⟨H3, E2, I3, (st.trans ss2).trans s3, er⟩
    | bk E2 => cases er; exact f'.step ss2
    | rt r => cases er; exact f'.step ss2
  · have e3 : i = ds.length := by omega
    subst e3
    rw [List.drop_length, xLoop] at er
    cases er
    exact .inl ⟨stop.2, f' _ _ _ I'.ss I'⟩
end

def endK : Out → Option Sl
  | .nx _ => some (.sh .non)
  | .rt r => some r
  | .bk _ => none
  | .ct _ => none
def fRun (N : Nat) (b : Es) : List Sl → Option Sl := fun as => (b (as ++ List.replicate (N - as.length) .no)).bind endK
section
variable {K : PySem.W.Frag} {C : Addr}
theorem RRL.get {Hs H0 H : Hp} : ∀ {vs : List V} {ss : List Sl} {i : Nat} {s : Sl}, RRL K C Hs H0 H vs ss → ss[i]? = some s → ∃ v, vs[i]? = some v ∧ RR K C Hs H0 H v s
  | _, _, _, _, .nil, e => by simp at e
  | _, _, 0, _, .cons h _, e => by simp at e; subst e; exact ⟨_, rfl, h⟩
  | _, _, i + 1, s, .cons _ t, e => by
    obtain ⟨v, h1, h2⟩ := RRL.get (i := i) (s := s) t (by simpa using e)
    exact ⟨v, by simpa using h1, h2⟩
theorem fn_done {N : List Str} {n : Nat} {b : Es} {ts : TS} {vs : List V} {H : Hp} {Q : VK} {E : XK} (hb : SS K C ts b) (h : spE K C n (fRun N.length b) vs H Q E) : ts { nx := fun _ H' => Q .non H', rt := Q } (L2.start N vs) H := by
  obtain ⟨H0, as, r, i, ra, ho, hl, e, q⟩ := h
  have lens := ra.len
  have noOwn : ∀ (j : Nat) (s : Sl), as[j]? = some s → isOwn s = false := fun j s e => by
    have := List.all_eq_true.mp ho s (List.mem_of_getElem? e)
    simpa using this
  have get : ∀ (j : Nat) (s : Sl), (as ++ List.replicate (N.length - as.length) Sl.no)[j]? = some s → s = .no ∨ as[j]? = some s := fun j s e => by
    by_cases hj : j < as.length
    · rw [List.getElem?_append_left hj] at e; exact .inr e
    · rw [List.getElem?_append_right (by omega), List.getElem?_replicate] at e
      split at e
      · cases e; exact .inl rfl
      · cases e
  have I : EnvR K C H H0 H (L2.start N vs) (as ++ List.replicate (N.length - as.length) .no) := by
    refine ⟨Same.refl _, i, by simp [L2.start, lens], fun j s e => ?_, fun j k s1 s2 v hjk e1 e2 w1 w2 => ?_⟩
    · rcases get j s e with z | z
      · exact .inl z
      · obtain ⟨v, h1, h2⟩ := ra.get z
        refine .inr ⟨v, ?_, ?_⟩
        · unfold L2.start
          rw [List.getElem?_append_left (by have := (List.getElem?_eq_some_iff.mp h1).1; simpa using this), List.getElem?_map, h1]; rfl
        · cases s with
          | no => trivial
          | sh d => exact h2
          | bo ds => exact h2
          | own ds => exact absurd (noOwn j _ z) (by simp [isOwn])
          | bd ks ds => exact h2
          | od ks ds => exact absurd (noOwn j _ z) (by simp [isOwn])
    · rcases get j _ e1 with z | z
      · subst z; cases w1
      · rw [noOwn j _ z] at w1; cases w1
  obtain ⟨o, e1, e⟩ := bind_some e
  refine hb H H0 H _ _ o _ I e1 ?_
  cases o with
  | nx E1 => cases e; exact fun σ' H1 H1' s1 I1 => q _ H1 H1' ⟨s1.b, s1.z, s1.n, s1.i⟩ RD.non
  | rt r' => cases e; exact fun v H1 H1' s1 r1 => q v H1 H1' ⟨s1.b, s1.z, s1.n, s1.i⟩ r1
  | bk _ => cases e
  | ct _ => cases e
theorem law_imp {P : Program} {w : World} {mg : Str → Option Value} {base : Heap} {k : Nat} {f : Addr} {fd : FuncData} {ps : List Str} {ev : List Sl → Option Sl} (F : FnOk P w K mg base CX0 k f fd ps (spE K C 1 ev))
    (h : ∀ ns : List Int, ns.length ≤ 63 → ev [.sh (.fz (ns.map .int))] = some (.sh (.bl true))) : FnOk P w K mg base CX0 k f fd ps (spLaw K) :=
  F.imp fun vs H Q E ⟨a, ns, e, hS, hl, q⟩ => by
    subst e
    exact ⟨H, [.sh (.fz (ns.map .int))], _, Same.refl _, .cons (show RD K C H _ _ from RD.mkF hS (RDL.ofInts ns)) .nil, rfl, rfl, h ns hl, fun v H0' H' _ r => by rw [RD.blI r]; exact q H'⟩
structure RowK (K : PySem.W.Frag) (C : Addr) : Prop where
  t : RowC K C
  k1 : PySem.W.findIn K (.ref C) "__class__" = some (some (.builtin "object.__class__"))
  k2 : PySem.W.specialIn K (.builtin "object.__class__") "__get__" = some (some (.builtin "getset_descriptor.__get__"))
  k3 : PySem.W.takesIn K (.builtin "object.__class__") = some true
  k4 : PySem.W.mroIn K C (.type "object") = some true
end
end LE

namespace L2
open PySem PySem.Spec PyProof.Rows
def cntR (a b c : Int) : Nat := if a < b then ((b - a - 1) / c + 1).toNat else 0
end L2
namespace LE
open PySem L2 LR
def rngS (lo c : Int) (n : Nat) : List D := (List.range n).map fun (i : Nat) => .int (lo + (i : Int) * c)
def in60 (a : Int) : Bool := Nat.ble a.natAbs 1152921504606846975
theorem in60_ok {a : Int} : in60 a = true ↔ -1152921504606846976 < a ∧ a < 1152921504606846976 := by
  unfold in60
  rw [Nat.ble_eq]
  omega
def iR3 (as : En → Option (List Sl)) : En → Option (List D) := fun E => (as E).bind fun ss => match ss with
  | [.sh (.int a), .sh (.int b), .sh (.int c)] => if (in60 a && in60 b && smallP c) = true then some (rngS a c (cntR a b c)) else if (in60 a && in60 b && decide (c = -1)) = true then some (rngS a c (a - b).toNat) else none
  | _ => none
section
variable {K : PySem.W.Frag} {C : Addr} {m : Bool}
def fStr : List Sl → Option Sl
  | [.sh (.int i)] => if i.natAbs.log2 < 1920 then some (.sh (.str (strI i))) else none
  | _ => none
def str? : Sl → Option Str
  | .sh (.str z) => some z
  | _ => none
def eM (f : Str → List Sl → Option Sl) (o : Ev) (as : En → Option (List Sl)) : Ev := fun E => (o E).bind fun a => (str? a).bind fun z => (as E).bind fun xs => f z xs
end
end LE

namespace LE
open PySem L2 LR
def okS (P : En → Prop) : Option Out → Prop
  | some (.nx E) => P E
  | some (.ct E) => P E
  | _ => False
theorem okS_nx {P : En → Prop} {E : En} : okS P (some (.nx E)) = P E := rfl
theorem okS_ct {P : En → Prop} {E : En} : okS P (some (.ct E)) = P E := rfl
theorem okS_some {P : En → Prop} {o : Option Out} (h : okS P o) : ∃ E, (o = some (.nx E) ∨ o = some (.ct E)) ∧ P E := by
  unfold okS at h
  split at h
  · exact ⟨_, .inl rfl, h⟩
  · exact ⟨_, .inr rfl, h⟩
  · exact h.elim
theorem loop_rel {γ α β : Type} {p : Pt} {b : Es} {f : α → D} {k : Out → Option γ} {r : Option γ} (R : List α → β → En → Prop) (g : β → α → β) : ∀ {as : List α} {E : En} (s : β) (h0 : R as s E)
    (h : ∀ a as s E, R (a :: as) s E → okS (R as (g s a)) ((p.bind (f a) E).bind b)) (fin : ∀ E', R [] (as.foldl g s) E' → k (.nx E') = r), (xLoop p b (as.map f) E).bind k = r
  | [], E, s, h0, _, fin => fin E h0
  | a :: as, E, s, h0, h, fin => by
    obtain ⟨E2, e2, r2⟩ := okS_some (h a as s E h0)
    have ih := loop_rel (k := k) (r := r) R g (as := as) (E := E2) (g s a) r2 h fin
    rw [List.map_cons, xLoop]
    cases hp : p.bind (f a) E with
    | none => rw [hp] at e2; rcases e2 with e2 | e2 <;> cases e2
    | some E1 =>
      rw [hp, Option.bind_some] at e2
      rw [Option.bind_some]
      rcases e2 with e2 | e2 <;> (rw [e2, Option.bind_some]; exact ih)
theorem loop_cnt {γ : Type} {p : Pt} {b : Es} {f : Nat → D} {n : Nat} {E : En} {k : Out → Option γ} {r : Option γ} (R : Nat → En → Prop) (h0 : R 0 E)
    (h : ∀ i E, i < n → R i E → okS (R (i + 1)) ((p.bind (f i) E).bind b)) (fin : ∀ E', R n E' → k (.nx E') = r) : (xLoop p b ((List.range n).map f) E).bind k = r := by
  refine loop_rel (fun (as : List Nat) (i : Nat) E => i + as.length = n ∧ as = List.range' i as.length ∧ R i E) (fun i _ => i + 1) 0 ⟨by simp, by simp [List.range_eq_range'], h0⟩ (fun a as i E ⟨hk, e, q⟩ => ?_) fun E' ⟨hk, _, q⟩ => ?_
  · rw [List.length_cons, List.range'_succ] at e
    have e1 : a = i := (List.cons.inj e).1
    subst e1
    obtain ⟨E2, e2, r2⟩ := okS_some (h a E (by rw [List.length_cons] at hk; omega) q)
    have fin2 : (a + 1) + as.length = n ∧ as = List.range' (a + 1) as.length ∧ R (a + 1) E2 := ⟨by rw [List.length_cons] at hk; omega, (List.cons.inj e).2, r2⟩
    rcases e2 with e2 | e2 <;> (rw [e2]; exact fin2)
  · have e3 : (List.range n).foldl (fun i _ => i + 1) 0 = n := by simpa using hk
    rw [e3] at q
    exact fin E' q
theorem each_yes {α : Type} {p : Pt} {a : Ev} {E1 : En} {f g : α → D} : ∀ {xs : List α}, (∀ x ∈ xs, ((p.bind (f x) E1).bind a).bind Sl.frz = some (g x)) → eEach p yes? a E1 (xs.map f) = some (xs.map g)
  | [], _ => rfl
  | x :: xs, h => by
    have h1 := h x List.mem_cons_self
    obtain ⟨s, e1, e2⟩ := bind_some h1
    obtain ⟨E2, e3, e4⟩ := bind_some e1
    rw [List.map_cons, eEach, e3]
    simp only [Option.bind_some, yes?, if_true, e4, e2]
    rw [each_yes fun y hy => h y (List.mem_cons_of_mem _ hy)]
    rfl
theorem rng0 (n : Nat) : rng 0 n = (List.range n).map fun i => .int (i : Int) := by
  unfold rng
  exact List.map_congr_left fun i _ => by rw [Int.zero_add]
theorem size_eq : sizeLine = 16777216 := rfl
theorem atI_map {α β : Type} (f : α → β) (xs : List α) (i : Int) : atI (xs.map f) i = (atI xs i).map f := by
  unfold atI
  rw [List.length_map]
  cases ixN xs.length i with
  | none => rfl
  | some j => simp
theorem atI_nat' {α : Type} {xs : List α} {k : Nat} (h : k < xs.length) : atI xs (k : Int) = some xs[k] := by
  unfold atI ixN
  rw [if_pos (by omega), if_pos (by omega)]
  simp [h]
theorem atI_cell {ns : List Int} {k : Int} (h0 : 0 ≤ k) (h : k < (ns.length : Int)) : atI ns k = some (cell ns k) := by
  obtain ⟨j, rfl⟩ := Int.eq_ofNat_of_zero_le h0
  have hj : j < ns.length := by omega
  rw [atI_nat' hj]
  simp [cell, hj]
structure Kd {α : Type} (f : α → D) (n : Nat) : Prop where
  lay : ∀ a, (f a).py.canLay0 = true
  dep : ∀ a, (f a).py.depth ≤ n
  eqv : ∀ a b, PyData.eqv (f a).py (f b).py = true ↔ a = b
theorem Kd.eq {α : Type} [DecidableEq α] {f : α → D} {n : Nat} (k : Kd f n) (h : n ≤ 60) (a b : α) : eqD (f a) (f b) = some (decide (a = b)) := by
  unfold eqD
  have := k.dep a
  rw [k.lay a, k.lay b, if_pos (by simp; omega)]
  congr 1
  rw [Bool.eq_iff_iff, k.eqv]; simp
theorem kd_int : Kd D.int 1 := ⟨fun _ => rfl, fun _ => by simp [D.py, PyData.depth], fun a b => by show (a == b) = true ↔ _; simp⟩
theorem kd_all {α : Type} {f : α → D} {n : Nat} (k : Kd f n) : (∀ xs : List α, PyData.canLayAll0 (D.pyL (xs.map f)) = true) ∧ (∀ xs : List α, PyData.depthAll (D.pyL (xs.map f)) ≤ n) ∧ ∀ xs ys : List α, PyData.eqvAll (D.pyL (xs.map f)) (D.pyL (ys.map f)) = true ↔ xs = ys := by
  refine ⟨fun xs => ?_, fun xs => ?_, fun xs => ?_⟩
  · induction xs with
    | nil => rfl
    | cons x xs ih => show (PyData.canLay0 _ && PyData.canLayAll0 _) = true; rw [k.lay, ih]; rfl
  · induction xs with
    | nil => simp [D.pyL, PyData.depthAll]
    | cons x xs ih =>
      have := k.dep x
      simp only [List.map_cons, D.pyL, PyData.depthAll]
      omega
  · induction xs with
    | nil => intro ys; cases ys with
      | nil => simp [D.pyL, PyData.eqvAll]
      | cons y ys => simp [D.pyL, PyData.eqvAll]
    | cons x xs ih => intro ys; cases ys with
      | nil => simp [D.pyL, PyData.eqvAll]
      | cons y ys => simp only [List.map_cons, D.pyL, PyData.eqvAll, Bool.and_eq_true, k.eqv, ih, List.cons.injEq]
theorem kd_lst {α : Type} {f : α → D} {n : Nat} (k : Kd f n) : Kd (fun xs : List α => D.lst (xs.map f)) (n + 1) :=
  ⟨fun xs => (kd_all k).1 xs, fun xs => by have := (kd_all k).2.1 xs; simp only [D.py, PyData.depth]; omega, fun xs ys => by simp only [D.py, PyData.eqv]; exact (kd_all k).2.2 xs ys⟩
theorem kd_tup {α : Type} {f : α → D} {n : Nat} (k : Kd f n) : Kd (fun xs : List α => D.tup (xs.map f)) (n + 1) :=
  ⟨fun xs => (kd_all k).1 xs, fun xs => by have := (kd_all k).2.1 xs; simp only [D.py, PyData.depth]; omega, fun xs ys => by simp only [D.py, PyData.eqv]; exact (kd_all k).2.2 xs ys⟩
theorem kd_pr : Kd prE 2 := ⟨fun _ => rfl, fun _ => by simp [prE, D.py, D.pyL, PyData.depth, PyData.depthAll], fun a b => by
  obtain ⟨a1, a2⟩ := a
  obtain ⟨b1, b2⟩ := b
  simp [prE, D.py, D.pyL, PyData.eqv, PyData.eqvAll]⟩
theorem eqD_pr (a b : Pr) : eqD (prE a) (prE b) = some (decide (a = b)) := kd_pr.eq (by decide) a b
theorem eqD_prL (a b : List Pr) : eqD (.lst (a.map prE)) (.lst (b.map prE)) = some (decide (a = b)) := (kd_lst kd_pr).eq (by decide) a b
theorem eqD_prT (a b : List Pr) : eqD (.tup (a.map prE)) (.tup (b.map prE)) = some (decide (a = b)) := (kd_tup kd_pr).eq (by decide) a b
theorem eqD_intL (a b : List Int) : eqD (.lst (a.map .int)) (.lst (b.map .int)) = some (decide (a = b)) := (kd_lst kd_int).eq (by decide) a b
theorem fRow_ok {s : Sl} {ps : List Pr} (e : s.q = some (ps.map prE)) (g : Good ps) (h : ps.length ≤ 30) : fRow [s] = some (.sh (.row (ps.map prE))) := by
  show (s.q.bind _) = _
  rw [e, Option.bind_some, unPrs_map, Option.bind_some, good_goodB g, if_pos (by simp [h])]
section
variable {a b : Int} {xs ys : List D} {d : D} {x y : Str} {E : En} {B : Es} {r : Sl}
theorem seqK_nx : seqK B (.nx E) = B E := rfl
theorem seqK_rt : seqK B (.rt r) = some (.rt r) := rfl
theorem seqK_bk : seqK B (.bk E) = some (.bk E) := rfl
theorem seqK_ct : seqK B (.ct E) = some (.ct E) := rfl
theorem endK_nx : endK (.nx E) = some (.sh .non) := rfl
theorem endK_rt : endK (.rt r) = some r := rfl
theorem fI_ok {g : Int → Int → D} : fI g (.sh (.int a)) (.sh (.int b)) = some (.sh (g a b)) := rfl
theorem fMul_ok (h : (-18446744073709551616 < a ∧ a < 18446744073709551616) ∨ (-18446744073709551616 < b ∧ b < 18446744073709551616)) : fMul (.sh (.int a)) (.sh (.int b)) = some (.sh (.int (a * b))) := by
  show (if _ then _ else _) = _
  rw [if_pos]
  simp only [Bool.or_eq_true, small64_ok]
  exact h
theorem fMod_ok (h : 0 < b) : fMod (.sh (.int a)) (.sh (.int b)) = some (.sh (.int (a % b))) := by
  show (if _ then _ else _) = _
  rw [if_pos (by simpa using h)]
theorem fDiv_ok (h : 0 < b ∧ b < 1073741824) : fDiv (.sh (.int a)) (.sh (.int b)) = some (.sh (.int (a / b))) := by
  show (if _ then _ else _) = _
  rw [if_pos (smallP_ok.mpr h)]
theorem fPow_ok (h : 0 ≤ b ∧ b ≤ 1000000 ∧ -1000 < a ∧ a < 1000) : fPow (.sh (.int a)) (.sh (.int b)) = some (.sh (.int (a ^ b.toNat))) := by
  show (if _ then _ else _) = _
  rw [if_pos]
  simp only [Bool.and_eq_true, decide_eq_true_eq, Nat.ble_eq, small64_ok]
  omega
theorem fNeg_ok : fNeg (.sh (.int a)) = some (.sh (.int (-a))) := rfl
theorem fAdd_ii : fAdd (.sh (.int a)) (.sh (.int b)) = some (.sh (.int (a + b))) := rfl
theorem fAdd_ss (h : x.length + y.length ≤ 16777216) : fAdd (.sh (.str x)) (.sh (.str y)) = some (.sh (.str (x ++ y))) := if_pos h
theorem cat_ok {p q : Sl} (h1 : p.m = some xs) (h2 : q.m = some ys) (h : xs.length + ys.length ≤ 16777216) : fCat p q = some (.own (xs ++ ys)) := by
  unfold fCat
  rw [h1, h2]
  exact if_pos h
theorem fAdd_oo (h : xs.length + ys.length ≤ 16777216) : fAdd (.own xs) (.own ys) = some (.own (xs ++ ys)) := cat_ok rfl rfl h
theorem fAdd_ob (h : xs.length + ys.length ≤ 16777216) : fAdd (.own xs) (.bo ys) = some (.own (xs ++ ys)) := cat_ok rfl rfl h
theorem fAdd_bo (h : xs.length + ys.length ≤ 16777216) : fAdd (.bo xs) (.own ys) = some (.own (xs ++ ys)) := cat_ok rfl rfl h
theorem fAdd_bb (h : xs.length + ys.length ≤ 16777216) : fAdd (.bo xs) (.bo ys) = some (.own (xs ++ ys)) := cat_ok rfl rfl h
theorem fAdd_os (h : xs.length + ys.length ≤ 16777216) : fAdd (.own xs) (.sh (.lst ys)) = some (.own (xs ++ ys)) := cat_ok rfl rfl h
theorem fAdd_so (h : xs.length + ys.length ≤ 16777216) : fAdd (.sh (.lst xs)) (.own ys) = some (.own (xs ++ ys)) := cat_ok rfl rfl h
theorem fAdd_lb (h : xs.length + ys.length ≤ 16777216) : fAdd (.sh (.lst xs)) (.bo ys) = some (.own (xs ++ ys)) := cat_ok rfl rfl h
theorem fAdd_bs (h : xs.length + ys.length ≤ 16777216) : fAdd (.bo xs) (.sh (.lst ys)) = some (.own (xs ++ ys)) := cat_ok rfl rfl h
theorem fAdd_ll (h : xs.length + ys.length ≤ 16777216) : fAdd (.sh (.lst xs)) (.sh (.lst ys)) = some (.own (xs ++ ys)) := cat_ok rfl rfl h
theorem fLen_s (h : x.length ≤ 16777216) : fLen [.sh (.str x)] = some (.sh (.int x.length)) := if_pos h
theorem fLen_l : fLen [.sh (.lst xs)] = some (.sh (.int xs.length)) := rfl
theorem fLen_f : fLen [.sh (.fz xs)] = some (.sh (.int xs.length)) := rfl
theorem fLen_t : fLen [.sh (.tup xs)] = some (.sh (.int xs.length)) := rfl
theorem fLen_b : fLen [.bo xs] = some (.sh (.int xs.length)) := rfl
theorem fLen_o : fLen [.own xs] = some (.sh (.int xs.length)) := rfl
theorem fIx_l : fIx (.sh (.lst xs)) (.sh (.int a)) = (atI xs a).map .sh := rfl
theorem fIx_f : fIx (.sh (.fz xs)) (.sh (.int a)) = (atI xs a).map .sh := rfl
theorem fIx_t : fIx (.sh (.tup xs)) (.sh (.int a)) = (atI xs a).map .sh := rfl
theorem fIx_b : fIx (.bo xs) (.sh (.int a)) = (atI xs a).map .sh := rfl
theorem fIx_o : fIx (.own xs) (.sh (.int a)) = (atI xs a).map .sh := rfl
theorem fStr_ok (h : a.natAbs.log2 < 1920) : fStr [.sh (.int a)] = some (.sh (.str (strI a))) := if_pos h
theorem eqA_ii : eqA (.int a) (.int b) = some (decide (a = b)) := rfl
theorem eqA_ss : eqA (.str x) (.str y) = some (decide (x = y)) := rfl
theorem eqA_bb {p q : Bool} : eqA (.bl p) (.bl q) = some (decide (p = q)) := rfl
theorem eqA_pp (p q : Pr) : eqA (prE p) (prE q) = some (decide (p = q)) := eqD_pr p q
theorem eqA_PP (p q : List Pr) : eqA (.lst (p.map prE)) (.lst (q.map prE)) = some (decide (p = q)) := eqD_prL p q
theorem eqA_TT (p q : List Pr) : eqA (.tup (p.map prE)) (.tup (q.map prE)) = some (decide (p = q)) := eqD_prT p q
theorem eqA_II (p q : List Int) : eqA (.lst (p.map .int)) (.lst (q.map .int)) = some (decide (p = q)) := eqD_intL p q
theorem in62_t (h : -4611686018427387904 < a ∧ a < 4611686018427387904) : in62 a = true := by
  unfold in62
  rw [Nat.ble_eq]
  omega
theorem in60_t (h : -1152921504606846976 < a ∧ a < 1152921504606846976) : in60 a = true := in60_ok.mpr h
theorem smallP_t (h : 0 < a ∧ a < 1073741824) : smallP a = true := smallP_ok.mpr h
theorem fSum_ok {s : Sl} {ns : List Int} (e : s.q = some (ns.map .int)) : fSum [s] = some (.sh (.int ns.sum)) := by
  show (s.q.bind _) = _
  rw [e, Option.bind_some, ints_map]; rfl
theorem Pt_nm {i : Nat} : (Pt.nm i).bind d E = if i < E.length then some (E.set i (.sh d)) else none := by rw [Pt.bind]
theorem Pt_tp {l : Pts} : (Pt.tp l).bind (.tup xs) E = l.bind xs E := by rw [Pt.bind]
theorem Pts_nil : Pts.nil.bind [] E = some E := by rw [Pts.bind]
theorem Pts_cons {q : Pt} {l : Pts} : (Pts.cons q l).bind (d :: xs) E = (q.bind d E).bind fun E' => l.bind xs E' := by rw [Pts.bind]
theorem cst0 : ((0 : Nat) : Int) = 0 := rfl
theorem cst1 : ((1 : Nat) : Int) = 1 := rfl
theorem cst2 : ((2 : Nat) : Int) = 2 := rfl
theorem cst3 : ((3 : Nat) : Int) = 3 := rfl
theorem cst4 : ((4 : Nat) : Int) = 4 := rfl
theorem isNon_non : D.isNon .non = true := rfl
theorem isNon_int : D.isNon (.int a) = false := rfl
theorem isNon_bl {k : Bool} : D.isNon (.bl k) = false := rfl
theorem isNon_str : D.isNon (.str x) = false := rfl
theorem isNon_tup : D.isNon (.tup xs) = false := rfl
theorem isNon_lst : D.isNon (.lst xs) = false := rfl
theorem isNon_fz : D.isNon (.fz xs) = false := rfl
theorem isNon_row : D.isNon (.row xs) = false := rfl
theorem kit_ii : kitB "int" "int" = true := by decide
theorem kit_ib' : kitB "int" "bool" = false := by decide
theorem kit_bb : kitB "bool" "bool" = true := by decide
theorem kit_tt : kitB "tuple" "tuple" = true := by decide
theorem kit_ll : kitB "list" "list" = true := by decide
theorem kit_ss : kitB "str" "str" = true := by decide
end
end LE

namespace HT
open PySem PySem.Spec PyProof.Rows
section
variable {prog : Program} {w : World} {A : Around} {E : Value → Shared → Prop} {s : Shared}
theorem getItem_tuple_all {t sl : Addr} {items : Array Value} {vl vu : Value} {lo hi : Option Int} {Q : Value → Shared → Prop} (ht : IsTup s.heap t items) (hs : s.heap.IsSliceOf sl vl vu .none) (pl : IsPart vl lo) (pu : IsPart vu hi)
    (hw : sIx items.size 0 lo = 0 ∧ sIx items.size items.size hi = items.size) (h : Q (.ref t) s) : wpAny (model prog w) A (getItem (.ref t) (.ref sl)) Q E s := by
  obtain ⟨os, hos, hcs, hds⟩ := id hs
  have hTs : s.TypeIs (.ref sl) "slice" := ⟨os, hos, hcs⟩
  unfold getItem
  try with_reducible refine wpAny_holding ?_
  first | refine wpAny_bind (wpAny_pure ?_) | skip
  refine wpAny_bind (wpAny_sequenceKey ht.typeIs (by decide) ?_)
  refine wpAny_bind (wpAny_callSpecial?_slot (name := Str.ofString "__getitem__") ht.typeIs PyProof.Rows.slot_tuple_getitem
    (wpAny_call_entry PyProof.Rows.slot_tuple_getitem ht.typeIs entry_tuple_getitem ?_ (args_tuple_getitem _ _)))
  show wpAny _ _ (Builtin.Tuple.tupleItemsOf (.ref t) >>= _) _ _ s
  refine wpAny_bind (tupleItemsOf_ ht ?_)
  refine wpAny_bind (wpAny_typeOf hTs ?_)
  rw [if_pos (by decide)]
  refine wpAny_bind (sliceApplied_gen hs pl pu ?_)
  have yes : (((sIx items.size 0 lo : Nat) : Int) == 0 && (1 : Int) == 1 && (sIx items.size items.size hi - sIx items.size 0 lo) == items.size) = true := by
    rw [hw.1, hw.2]; simp
  show wpAny _ _ (if (((sIx items.size 0 lo : Nat) : Int) == 0 && (1 : Int) == 1 && (sIx items.size items.size hi - sIx items.size 0 lo) == items.size) = true then _ else _) _ _ s
  rw [if_pos yes]
  unfold Builtin.Tuple.tupleIsExact
  refine wpAny_bind (wpAny_bind (wpAny_typeOf ht.typeIs (wpAny_pure ?_)))
  rw [if_pos (by decide)]
  refine wpAny_bind (wpAny_rule ?_)
  exact wpAny_pure ⟨_, rfl, wpAny_pure h⟩
end
end HT
namespace L2
open PySem PySem.Spec PyProof.Rows
section
variable {X : Cx} {K : PySem.W.Frag}
def rSlW (K : PySem.W.Frag) : V → Option Int → Option Int → Hp → VK → Prop := fun x lo hi H Q => ∃ a xs, x = .ref a ∧ SqT K H a xs ∧ (HT.sIx xs.length 0 lo = 0 ∧ HT.sIx xs.length xs.length hi = xs.length) ∧ Q (.ref a) H
theorem sl_whole : SlR X (rSlW X.K) := by
  intro pins s σ H x v vl vu lo hi sl Q I rx hs pl pu h
  obtain ⟨a, xs, rfl, hx, hw, q⟩ := h
  cases rx
  obtain ⟨its, r, ht, hz⟩ := I.tuple hx
  have hlen : its.toArray.size = xs.length := by rw [List.size_toArray]; exact r.length.symm
  refine ⟨"tuple", _, PyProof.Rows.slot_tuple_getitem.lookup, ht.typeIs, ?_⟩
  exact HT.getItem_tuple_all ht hs pl pu (by rw [hlen]; exact hw) ⟨.ref a, H, I, rfl, q⟩
def rSlA (K : PySem.W.Frag) : V → Option Int → Option Int → Hp → VK → Prop := fun x lo hi H Q => rSlL K x lo hi H Q ∨ rSlT K x lo hi H Q ∨ rSlW K x lo hi H Q
theorem sl_allK (hK : X.K = K) : SlR X (rSlA K) := by
  subst hK
  exact sl_list.or (sl_tup.or sl_whole)
end
end L2
namespace LE
open PySem L2 LR
def cutD {α : Type} (xs : List α) (lo hi : Option Int) : List α := (xs.drop (HT.sIx xs.length 0 lo)).take (HT.sIx xs.length xs.length hi - HT.sIx xs.length 0 lo)
def fSl (s : Sl) (lo hi : Option Int) : Option Sl := match s with
  | .sh (.tup ds) => some (.sh (.tup (cutD ds lo hi)))
  | s => s.r.map fun ds => .own (cutD ds lo hi)
def ePart (o : Option Ev) : En → Option (Option Int) := fun E => match o with
  | none => some none
  | some a => (a E).bind fun s => match s with
    | .sh (.int i) => some (some i)
    | _ => none
def eSl (a : Ev) (lo hi : Option Ev) : Ev := fun E => (a E).bind fun s => (ePart lo E).bind fun l => (ePart hi E).bind fun h => fSl s l h
section
variable {K : PySem.W.Frag} {C : Addr} {te : TE} {ea : Ev} {tl th : TO} {el eh : Option Ev}
def SP' (K : PySem.W.Frag) (C : Addr) (t : TO) (ev : En → Option (Option Int)) : Prop := ∀ (B H0 H : Hp) (σ : St) (E : En) (r : Option Int) (Q : Option Int → Hp → Prop), EnvR K C B H0 H σ E → ev E = some r →
  (∀ H0' H', Step H H0 H H0' H' → Q r H') → t σ H Q
theorem p_none : SP' K C tNoPart (ePart none) := fun _ _ _ _ _ _ _ I e q => by cases e; exact q _ _ (.refl I.h)
theorem p_some (ha : SE K C te ea) : SP' K C (tPart te) (ePart (some ea)) := by
  intro B H0 H σ E r Q I e q
  obtain ⟨s, e1, e⟩ := bind_some e
  split at e
  · cases e
    exact ha B H0 H σ E _ _ I e1 fun x H1 H1' s1 r1 => ⟨_, RD.intI r1, q _ _ s1⟩
  · cases e
theorem RDL.cut {H : Hp} {xs : List V} {ds : List D} {lo hi : Option Int} (r : RDL K C H xs ds) : RDL K C H (cutV xs lo hi) (cutD ds lo hi) := by
  unfold cutV cutD
  rw [r.1]
  exact (r.drop _).take _
theorem s_sl (ha : SE K C te ea) (hl : SP' K C tl (ePart el)) (hh : SP' K C th (ePart eh)) : SE K C (tSl (rSlA K) te tl th) (eSl ea el eh) := by
  intro B H0 H σ E c Q I e q
  obtain ⟨s, e1, e⟩ := bind_some e
  obtain ⟨l, e2, e⟩ := bind_some e
  obtain ⟨h, e3, e⟩ := bind_some e
  refine ha B H0 H σ E _ _ I e1 fun x H1 H1' s1 r1 => hl B H1 H1' σ E l _ (I.step s1) e2 fun H2 H2' s2 => hh B H2 H2' σ E h _ (I.step (s1.trans s2)) e3 fun H3 H3' s3 => ?_
  have s13 := (s1.trans s2).trans s3
  have r3 := (r1.step s2).step s3
  have lst : ∀ {ds : List D}, s.r = some ds → c = .own (cutD ds l h) → rSlA K x l h H3' Q := fun {ds} er ec => by
    subst ec
    obtain ⟨a, xs, rfl, hq, r⟩ := r3.r s13.i er
    exact .inl ⟨a, xs, rfl, hq, fun p hp => own_new s13.i s13.h hp r.cut fun v H4 H4' s4 r4 => q v H4 H4' (s13.comp s4 fun _ z => z) r4⟩
  unfold fSl at e
  split at e
  · cases e
    obtain ⟨a, xs, rfl, hq, r⟩ := RD.tupI r3
    by_cases hw : HT.sIx xs.length 0 l = 0 ∧ HT.sIx xs.length xs.length h = xs.length
    · refine .inr (.inr ⟨a, xs, rfl, s13.i.seqT hq, hw, q _ _ _ s13 ?_⟩)
      have e5 : cutV xs l h = xs := by unfold cutV; rw [hw.1, hw.2]; simp
      have r5 := r.cut (lo := l) (hi := h)
      rw [e5] at r5
      exact RD.mkT hq r5
    · exact .inr (.inl ⟨a, xs, rfl, s13.i.seqT hq, hw, fun p hp => tup_new s13.i s13.h hp r.cut fun v H4 H4' s4 r4 => q v H4 H4' (s13.comp s4 fun _ z => z) r4⟩)
  · obtain ⟨ds, e4, e5⟩ := map_some e
    exact lst e4 e5.symm
end
end LE

namespace PySem
section
variable {prog : Program} {w : World} {A : Around}
theorem Draws.tup (hh : A.handled = none) (j a : Addr) (ne : a ≠ j) (xs : Array Value) : Draws prog w A j [j, a] xs.size (fun i v => xs[i]? = some v) (fun i h => h.IsTupleIter j a i ∧ h.IsTuple a xs) where
  live := fun _ _ q => let ⟨o, ho, _⟩ := q.1; ⟨o, ho⟩
  frame := fun _ _ _ q k => ⟨q.1.at fun o e => k j (by simp) o e, q.2.at fun o e => k a (by simp) o e⟩
  item := fun i s Q E hi q hQ => by
    obtain ⟨o, ho, hc, hd⟩ := id q.1
    obtain ⟨ol, hol, _, nl, hdl⟩ := id q.2
    have hx : xs[i]? = some xs[i] := by simp [hi]
    unfold Builtin.SmallTypes.nextOf
    refine wpAny_bind (wpAny_callSpecial?_slot (name := Str.ofString "__next__") q.1.typeIs F.slot_tuple_iterator_next (wpAny_call_entry F.slot_tuple_iterator_next q.1.typeIs F.entry_tuple_iterator_next ?_ (F.args_tuple_iterator_next_1 _)))
    show wpAny _ _ (field (.ref j) 0 >>= _) _ _ s
    refine wpAny_bind (wpAny_field ho hd (x := .ref a) rfl ?_)
    show wpAny _ _ (if (Value.ref a == Value.none) = true then _ else _) _ _ s
    rw [if_neg (show ¬ ((Value.ref a == Value.none) = true) from Bool.false_ne_true)]
    show wpAny _ _ (field (.ref j) 1 >>= _) _ _ s
    refine wpAny_bind (wpAny_field ho hd (x := .int i 0) rfl (show wpAny _ _ (seqItems? (.ref a) >>= _) _ _ s from wpAny_bind (wpAny_seqItems hol hdl ?_)))
    simp only [Int.toNat_natCast, hx]
    refine wpAny_bind (wpAny_setField ho hd (by simp) (wpAny_pure ⟨xs[i], rfl, wpAny_pure (hQ _ _ s.toks hx ⟨⟨_, Heap.get?_update_self _ ho (Obj.isFreed_of_fields (Obj.data_mapFields hd _)), (Obj.cls_mapFields ..).trans hc, ?_⟩, q.2.extBut (Heap.SameBut.update ..).extBut ne⟩ (Heap.SameBut.update ..))⟩))
    rw [Obj.data_mapFields hd]; simp [rawInt]
  done := fun s Q E q hE => by
    obtain ⟨o, ho, hc, hd⟩ := id q.1
    obtain ⟨ol, hol, _, nl, hdl⟩ := id q.2
    have hx : xs[xs.size]? = none := by simp
    unfold Builtin.SmallTypes.nextOf
    refine wpAny_bind (wpAny_callSpecial?_slot (name := Str.ofString "__next__") q.1.typeIs F.slot_tuple_iterator_next (wpAny_call_entry F.slot_tuple_iterator_next q.1.typeIs F.entry_tuple_iterator_next ?_ (F.args_tuple_iterator_next_1 _)))
    show wpAny _ _ (field (.ref j) 0 >>= _) _ _ s
    refine wpAny_bind (wpAny_field ho hd (x := .ref a) rfl ?_)
    show wpAny _ _ (if (Value.ref a == Value.none) = true then _ else _) _ _ s
    rw [if_neg (show ¬ ((Value.ref a == Value.none) = true) from Bool.false_ne_true)]
    show wpAny _ _ (field (.ref j) 1 >>= _) _ _ s
    refine wpAny_bind (wpAny_field ho hd (x := .int xs.size 0) rfl (show wpAny _ _ (seqItems? (.ref a) >>= _) _ _ s from wpAny_bind (wpAny_seqItems hol hdl ?_)))
    simp only [Int.toNat_natCast, hx]
    refine wpAny_bind (wpAny_rule (wpAny_bind (wpAny_setField ho hd (by simp) (show wpAny _ _ (newExc (.type "StopIteration") [] >>= _) _ _ _ from wpAny_bind ?_))))
    simp only [newExc, newTuple]
    refine wpAny_bind (wpAny_newObj_type (wpAny_bind (m := firstArgMember _ _) (wpAny_of_eq (a := Value.none) (by first | rfl | (simp only [firstArgMember]; rfl)) (wpAny_newObj_type ?_ (by size_fits)))) (by size_fits))
    simp only [raiseNew]
    refine wpAny_bind (wpAny_handled ?_)
    first | rw [show A.in1.handled = none from hh] | rw [hh]
    refine wpAny_bind (wpAny_pure (wpAny_throw ?_))
    exact hE _ _ (((Heap.SameBut.update ..).extBut.push _).push _) ⟨_, Heap.get?_push_size _ rfl, rfl⟩
end

structure ZA (z TI TO i1 i2 : Addr) (p1 p2 : List Addr) : Prop where
  a1 : TI ≠ z
  a2 : TO ≠ z
  a3 : TI ≠ TO
  m1 : i1 ∈ p1
  m2 : i2 ∈ p2
  z1 : z ∉ p1
  z2 : z ∉ p2
  t1 : TI ∉ p1
  t2 : TI ∉ p2
  o1 : TO ∉ p1
  o2 : TO ∉ p2
  x1 : i1 ∉ p2
  x2 : i2 ∉ p1
section
variable {prog : Program} {w : World} {A : Around} {E : Value → Shared → Prop} {s : Shared} {z TI TO i1 i2 : Addr} {p1 p2 : List Addr} {n1 n2 k : Nat} {P1 P2 : Nat → Value → Prop} {S1 S2 : Nat → Heap → Prop}
theorem zip_itemD {a b : Value} {Q : Value → Shared → Prop} (D : ZA z TI TO i1 i2 p1 p2) (D1 : Draws prog w A i1 p1 n1 P1 S1) (D2 : Draws prog w A i2 p2 n2 P2 S2) (gz : IsZip s.heap z TI TO .none) (gI : IsPair s.heap TI (.ref i1) (.ref i2)) (gO : IsPair s.heap TO a b)
    (st1 : S1 k s.heap) (st2 : S2 k s.heap) (l1 : k < n1) (l2 : k < n2)
    (hQ : ∀ x y h' tk, P1 k x → P2 k y → IsZip h' z TI TO (rawInt s.heap.objs.size) → IsPair h' TI (.ref i1) (.ref i2) → IsPair h' TO x y → S1 (k + 1) h' → S2 (k + 1) h' → IsPair h' s.heap.objs.size x y → h'.objs.size = s.heap.objs.size + 1 →
      (∀ c o, c ≠ z → c ≠ TO → c ≠ i1 → c ≠ i2 → s.heap.get? c = some o → h'.get? c = some o) → Q (.ref s.heap.objs.size) { s with heap := h', toks := tk }) :
    wpAny (model prog w) A (Builtin.«zip.__next__» ⟨[.ref z], []⟩) (fun fin s' => ∃ v, fin = .done (.ret v) ∧ Q v s') E s := by
  obtain ⟨hp, g, d, t0, os⟩ := s
  have zi1 : i1 ≠ z := fun q => D.z1 (q ▸ D.m1)
  have zi2 : i2 ≠ z := fun q => D.z2 (q ▸ D.m2)
  have oi1 : i1 ≠ TO := fun q => D.o1 (q ▸ D.m1)
  have oi2 : i2 ≠ TO := fun q => D.o2 (q ▸ D.m2)
  have ii1 : i1 ≠ TI := fun q => D.t1 (q ▸ D.m1)
  have ii2 : i2 ≠ TI := fun q => D.t2 (q ▸ D.m2)
  have i12 : i1 ≠ i2 := fun q => D.x1 (q ▸ D.m2)
  show wpAny _ _ (field (.ref z) 2 >>= _) _ _ _
  refine wpAny_bind (wpAny_field gz rfl (x := .bool false) rfl (show wpAny _ _ (field (.ref z) 3 >>= _) _ _ _ from wpAny_bind (wpAny_field gz rfl (x := .ref TI) rfl (wpAny_bind (wpAny_seqItems gI rfl ?_)))))
  show wpAny _ _ (Builtin.SmallTypes.ownedTupleIsFree (.ref z) >>= _) _ _ _
  refine wpAny_bind ?_
  unfold Builtin.SmallTypes.ownedTupleIsFree
  refine wpAny_bind (wpAny_field gz rfl (x := .none) rfl (wpAny_pure ?_))
  simp only [if_true]
  refine wpAny_bind (wpAny_rule (wpAny_bind (wpAny_field gz rfl (x := .ref TO) rfl (wpAny_bind (wpAny_setField_rec gz (by simp) fun k1 y1 e1 => ?_)))))
  replace y1 : IsZip k1 z TI TO .ellipsis := y1
  replace e1 : Heap.SameBut z hp k1 := e1
  refine wpAny_bind ?_
  simp only [List.zipIdx_cons, List.zipIdx_nil, List.forIn_cons, List.forIn_nil]
  refine wpAny_bind (wpAny_bind (wpAny_onRaise (show wpAny _ _ (Builtin.SmallTypes.nextOf (.ref i1) >>= _) _ _ _ from wpAny_bind (D1.item k _ _ _ l1 (D1.frame _ _ _ st1 fun b hb o q => e1.extBut b o (fun r => D.z1 (r ▸ hb)) q) fun x k2 t2 px s2 e2 => wpAny_pure ?_))))
  replace e2 : Heap.SameBut i1 k1 k2 := e2
  have O2 : IsPair k2 TO a b := e2.extBut _ _ (Ne.symm oi1) (e1.extBut _ _ D.a2 gO)
  refine wpAny_bind (wpAny_seqItems (s := ⟨k2, g, d, t2, os⟩) O2 rfl (wpAny_bind (wpAny_updateSeq_pair (s := ⟨k2, g, d, t2, os⟩) O2 fun k3 O3 e3 => ?_)))
  replace O3 : IsPair k3 TO x b := O3
  replace e3 : Heap.SameBut TO k2 k3 := e3
  refine wpAny_bind (wpAny_letGo (wpAny_pure ?_))
  have st2' : S2 k k3 := D2.frame _ _ _ st2 fun b hb o q => e3.extBut b o (fun r => D.o2 (r ▸ hb)) (e2.extBut b o (fun r => D.x1 (r ▸ hb)) (e1.extBut b o (fun r => D.z2 (r ▸ hb)) q))
  refine wpAny_bind (wpAny_bind (wpAny_onRaise (show wpAny _ _ (Builtin.SmallTypes.nextOf (.ref i2) >>= _) _ _ _ from wpAny_bind (D2.item k _ _ _ l2 st2' fun y k4 t4 py s4 e4 => wpAny_pure ?_))))
  replace e4 : Heap.SameBut i2 k3 k4 := e4
  have O4 : IsPair k4 TO x b := e4.extBut _ _ (Ne.symm oi2) O3
  refine wpAny_bind (wpAny_seqItems (s := ⟨k4, g, d, t4, os⟩) O4 rfl (wpAny_bind (wpAny_updateSeq_pair (s := ⟨k4, g, d, t4, os⟩) O4 fun k5 O5 e5 => ?_)))
  replace O5 : IsPair k5 TO x y := O5
  replace e5 : Heap.SameBut TO k4 k5 := e5
  refine wpAny_bind (wpAny_letGo (wpAny_pure (wpAny_pure (wpAny_bind (wpAny_seqItems (s := ⟨k5, g, d, t4, os⟩) O5 rfl (wpAny_bind (wpAny_newTuple ?_)))))))
  have hsz : k5.objs.size = hp.objs.size := by rw [e5.1, e4.1, e3.1, e2.1, e1.1]
  have Z5 : IsZip k5 z TI TO .ellipsis := e5.extBut _ _ (Ne.symm D.a2) (e4.extBut _ _ (Ne.symm zi2) (e3.extBut _ _ (Ne.symm D.a2) (e2.extBut _ _ (Ne.symm zi1) y1)))
  have keep5 : ∀ c o, c ≠ z → c ≠ TO → c ≠ i1 → c ≠ i2 → hp.get? c = some o → k5.get? c = some o := fun c o c1 c2 c3 c4 q => e5.extBut _ _ c2 (e4.extBut _ _ c4 (e3.extBut _ _ c2 (e2.extBut _ _ c3 (e1.extBut _ _ c1 q))))
  have T1 : S1 (k + 1) k5 := D1.frame _ _ _ s2 fun b hb o q => e5.extBut b o (fun r => D.o1 (r ▸ hb)) (e4.extBut b o (fun r => D.x2 (r ▸ hb)) (e3.extBut b o (fun r => D.o1 (r ▸ hb)) q))
  have T2 : S2 (k + 1) k5 := D2.frame _ _ _ s4 fun b hb o q => e5.extBut b o (fun r => D.o2 (r ▸ hb)) q
  have zlt : z < k5.objs.size := Heap.lt_size Z5
  show wpAny _ _ (Builtin.SmallTypes.ownedTupleHandOut (.ref z) (.ref k5.objs.size) >>= _) _ _ _
  refine wpAny_bind ?_
  unfold Builtin.SmallTypes.ownedTupleHandOut
  have Z6 : IsZip (k5.push { cls := .type "tuple", data := .seq #[x, y] }) z TI TO .ellipsis := Heap.get?_push_of_some _ Z5
  refine wpAny_bind (wpAny_setField_rec Z6 (by simp) fun k7 Z7 e7 => ?_)
  replace Z7 : IsZip k7 z TI TO (rawInt k5.objs.size) := Z7
  replace e7 : Heap.SameBut z (k5.push { cls := .type "tuple", data := .seq #[x, y] }) k7 := e7
  refine wpAny_setField_rec Z7 (by simp) fun k8 Z8 e8 => ?_
  replace Z8 : IsZip k8 z TI TO (rawInt k5.objs.size) := Z8
  replace e8 : Heap.SameBut z k7 k8 := e8
  have up : ∀ c o, c ≠ z → k5.get? c = some o → k8.get? c = some o := fun c o c1 q => e8.extBut _ _ c1 (e7.extBut _ _ c1 (Heap.get?_push_of_some _ q))
  have N8 : IsPair k8 k5.objs.size x y := e8.extBut _ _ (Nat.ne_of_gt zlt) (e7.extBut _ _ (Nat.ne_of_gt zlt) (Heap.get?_push_size _ rfl))
  have z8 : k8.objs.size = k5.objs.size + 1 := by rw [e8.1, e7.1, Heap.size_push]
  rw [hsz] at Z8 N8 z8
  refine wpAny_pure ⟨_, rfl, ?_⟩
  show Q (.ref k5.objs.size) _
  rw [hsz]
  refine hQ x y k8 t4 px py Z8 (up _ _ D.a1 (keep5 _ _ D.a1 D.a3 (Ne.symm ii1) (Ne.symm ii2) gI)) (up _ _ D.a2 O5) ?_ ?_ N8 z8 fun c o c1 c2 c3 c4 q => up c o c1 (keep5 c o c1 c2 c3 c4 q)
  · exact D1.frame _ _ _ T1 fun b hb o q => up b o (fun r => D.z1 (r ▸ hb)) q
  · exact D2.frame _ _ _ T2 fun b hb o q => up b o (fun r => D.z2 (r ▸ hb)) q
theorem zip_endD {a b : Value} {Q : Fin → Shared → Prop} (D : ZA z TI TO i1 i2 p1 p2) (D1 : Draws prog w A i1 p1 n1 P1 S1) (D2 : Draws prog w A i2 p2 n2 P2 S2) (gz : IsZip s.heap z TI TO .none) (gI : IsPair s.heap TI (.ref i1) (.ref i2)) (gO : IsPair s.heap TO a b)
    (st1 : S1 k s.heap) (st2 : S2 k s.heap) (hend : k = n1 ∨ (k < n1 ∧ k = n2))
    (hE : ∀ h' e tk, (∀ c o, c ≠ z → c ≠ TO → c ≠ i1 → c ≠ i2 → s.heap.get? c = some o → h'.get? c = some o) → (∃ o, h'.get? e = some o ∧ o.cls = .type "StopIteration") → E (.ref e) { s with heap := h', toks := tk }) :
    wpAny (model prog w) A (Builtin.«zip.__next__» ⟨[.ref z], []⟩) Q E s := by
  obtain ⟨hp, g, d, t0, os⟩ := s
  have zi1 : i1 ≠ z := fun q => D.z1 (q ▸ D.m1)
  have zi2 : i2 ≠ z := fun q => D.z2 (q ▸ D.m2)
  have oi1 : i1 ≠ TO := fun q => D.o1 (q ▸ D.m1)
  show wpAny _ _ (field (.ref z) 2 >>= _) _ _ _
  refine wpAny_bind (wpAny_field gz rfl (x := .bool false) rfl (show wpAny _ _ (field (.ref z) 3 >>= _) _ _ _ from wpAny_bind (wpAny_field gz rfl (x := .ref TI) rfl (wpAny_bind (wpAny_seqItems gI rfl ?_)))))
  show wpAny _ _ (Builtin.SmallTypes.ownedTupleIsFree (.ref z) >>= _) _ _ _
  refine wpAny_bind ?_
  unfold Builtin.SmallTypes.ownedTupleIsFree
  refine wpAny_bind (wpAny_field gz rfl (x := .none) rfl (wpAny_pure ?_))
  simp only [if_true]
  refine wpAny_bind (wpAny_rule (wpAny_bind (wpAny_field gz rfl (x := .ref TO) rfl (wpAny_bind (wpAny_setField_rec gz (by simp) fun k1 y1 e1 => ?_)))))
  replace y1 : IsZip k1 z TI TO .ellipsis := y1
  replace e1 : Heap.SameBut z hp k1 := e1
  refine wpAny_bind ?_
  simp only [List.zipIdx_cons, List.zipIdx_nil, List.forIn_cons, List.forIn_nil]
  refine wpAny_bind (wpAny_bind (wpAny_onRaise (show wpAny _ _ (Builtin.SmallTypes.nextOf (.ref i1) >>= _) _ _ _ from wpAny_bind ?_)))
  have q1 : S1 k k1 := D1.frame _ _ _ st1 fun b hb o q => e1.extBut b o (fun r => D.z1 (r ▸ hb)) q
  rcases hend with rfl | ⟨l1, rfl⟩
  · refine D1.done _ _ _ q1 fun k2 e e2 he => ?_
    replace e2 : Heap.ExtBut i1 k1 k2 := e2
    obtain ⟨oe, hoe, hce⟩ := he
    have Z2 : IsZip k2 z TI TO .ellipsis := e2 _ _ (Ne.symm zi1) y1
    have ez : e ≠ z := fun q => by subst q; rw [Z2] at hoe; cases hoe; simp at hce
    exact wpAny_setField_rec Z2 (by simp) fun k3 _ e3 => hE k3 e t0 (fun c o c1 _ c3 _ q => e3.extBut _ _ c1 (e2 _ _ c3 (e1.extBut _ _ c1 q))) ⟨oe, e3.extBut _ _ ez hoe, hce⟩
  · refine D1.item k _ _ _ l1 q1 fun x k2 t2 px s2 e2 => wpAny_pure ?_
    replace e2 : Heap.SameBut i1 k1 k2 := e2
    have O2 : IsPair k2 TO a b := e2.extBut _ _ (Ne.symm oi1) (e1.extBut _ _ D.a2 gO)
    refine wpAny_bind (wpAny_seqItems (s := ⟨k2, g, d, t2, os⟩) O2 rfl (wpAny_bind (wpAny_updateSeq_pair (s := ⟨k2, g, d, t2, os⟩) O2 fun k3 O3 e3 => ?_)))
    replace e3 : Heap.SameBut TO k2 k3 := e3
    refine wpAny_bind (wpAny_letGo (wpAny_pure ?_))
    have st2' : S2 k k3 := D2.frame _ _ _ st2 fun b hb o q => e3.extBut b o (fun r => D.o2 (r ▸ hb)) (e2.extBut b o (fun r => D.x1 (r ▸ hb)) (e1.extBut b o (fun r => D.z2 (r ▸ hb)) q))
    refine wpAny_bind (wpAny_bind (wpAny_onRaise (show wpAny _ _ (Builtin.SmallTypes.nextOf (.ref i2) >>= _) _ _ _ from wpAny_bind (D2.done _ _ _ st2' fun k4 e e4 he => ?_))))
    replace e4 : Heap.ExtBut i2 k3 k4 := e4
    obtain ⟨oe, hoe, hce⟩ := he
    have Z4 : IsZip k4 z TI TO .ellipsis := e4 _ _ (Ne.symm zi2) (e3.extBut _ _ (Ne.symm D.a2) (e2.extBut _ _ (Ne.symm zi1) y1))
    have ez : e ≠ z := fun q => by subst q; rw [Z4] at hoe; cases hoe; simp at hce
    exact wpAny_setField_rec Z4 (by simp) fun k5 _ e5 => hE k5 e t2 (fun c o c1 c2 c3 c4 q => e5.extBut _ _ c1 (e4 _ _ c4 (e3.extBut _ _ c2 (e2.extBut _ _ c3 (e1.extBut _ _ c1 q))))) ⟨oe, e5.extBut _ _ ez hoe, hce⟩
end
end PySem

namespace PySem
def IsSq (b : Bool) (h : Heap) (a : Addr) (xs : Array Value) : Prop := match b with
  | true => h.IsTuple a xs
  | false => h.IsList a xs
def IsItr (b : Bool) (h : Heap) (j a : Addr) (i : Nat) : Prop := match b with
  | true => h.IsTupleIter j a i
  | false => h.IsListIter j a i
def itO (b : Bool) (a : Addr) : Obj := match b with
  | true => { cls := .type "tuple_iterator", data := .fields #[.ref a, .int 0 0] }
  | false => { cls := .type "list_iterator", data := .fields #[.ref a, .int 0 0] }
section
variable {prog : Program} {w : World} {A : Around} {E : Value → Shared → Prop} {s : Shared} {b b1 b2 : Bool} {a a1 a2 : Addr} {xs ys : Array Value}
theorem IsSq.push {h : Heap} (q : IsSq b h a xs) (o : Obj) : IsSq b (h.push o) a xs := by
  cases b with
  | true => exact Heap.IsTuple.push q o
  | false => exact Heap.IsList.push q o
theorem IsSq.lt {h : Heap} (q : IsSq b h a xs) : a < h.objs.size := by
  cases b with
  | true => obtain ⟨o, e, _⟩ := q; exact Heap.lt_size e
  | false => obtain ⟨o, e, _⟩ := q; exact Heap.lt_size e
theorem IsItr.new {h : Heap} (e : h.get? a1 = some (itO b a)) : IsItr b h a1 a 0 := by
  cases b with
  | true => exact ⟨_, e, rfl, rfl⟩
  | false => exact ⟨_, e, rfl, rfl⟩
theorem pyIter_sq {Q : Value → Shared → Prop} (q : IsSq b s.heap a xs) (h : Q (.ref s.heap.objs.size) { s with heap := s.heap.push (itO b a) }) : wpAny (model prog w) A (pyIter (.ref a)) Q E s := by
  cases b with
  | true => exact wpAny_pyIter_tuple q h
  | false => exact wpAny_pyIter_list q h
theorem Draws.sq (hh : A.handled = none) (j : Addr) (ne : a ≠ j) : Draws prog w A j [j, a] xs.size (fun i v => xs[i]? = some v) (fun i h => IsItr b h j a i ∧ IsSq b h a xs) := by
  cases b with
  | true => exact Draws.tup hh j a ne xs
  | false => exact Draws.list hh j a ne xs
abbrev zP1 (h : Heap) (b1 : Bool) (a1 : Addr) : Heap := h.push (itO b1 a1)
abbrev zP2 (h : Heap) (b1 b2 : Bool) (a1 a2 : Addr) : Heap := (zP1 h b1 a1).push (itO b2 a2)
abbrev zP3 (h : Heap) (b1 b2 : Bool) (a1 a2 : Addr) : Heap := (zP2 h b1 b2 a1 a2).push { cls := .type "tuple", data := .seq #[.ref h.objs.size, .ref (zP1 h b1 a1).objs.size] }
abbrev zP4 (h : Heap) (b1 b2 : Bool) (a1 a2 : Addr) : Heap := (zP3 h b1 b2 a1 a2).push { cls := .type "tuple", data := .seq #[.none, .none] }
abbrev zP5 (h : Heap) (b1 b2 : Bool) (a1 a2 : Addr) : Heap := (zP4 h b1 b2 a1 a2).push { cls := .type "zip", data := .fields #[.none, .bool false, .bool false, .ref (zP2 h b1 b2 a1 a2).objs.size, .ref (zP3 h b1 b2 a1 a2).objs.size] }
theorem meets_zipD (b1 b2 : Bool) (a1 a2 : Addr) (xs ys : Array Value) : Meets (Builtin.«zip.__new__» ⟨[.type "zip", .ref a1, .ref a2], []⟩) (fun _ R s => IsSq b1 s.heap a1 xs ∧ IsSq b2 s.heap a2 ys ∧
    R (.ok (.ret (.ref (zP4 s.heap b1 b2 a1 a2).objs.size))) { s with heap := zP5 s.heap b1 b2 a1 a2 }) :=
  .of_wp fun prog w A R s h => by
    obtain ⟨hp, g, d, tk, os⟩ := s; obtain ⟨q1, q2, h⟩ := h
    have hsub := sub_zip
    have r1 : IsSq b1 (Shared.heap ⟨hp, g, d, tk, os⟩) a1 xs := q1
    have r2 : IsSq b2 (Shared.heap ⟨hp.push (itO b1 a1), g, d, tk, os⟩) a2 ys := IsSq.push q2 _
    wp_walk using pyIter_sq r1, pyIter_sq r2
    exact ⟨_, rfl, h⟩
theorem call_zipD {Q : Value → Shared → Prop} (q1 : IsSq b1 s.heap a1 xs) (q2 : IsSq b2 s.heap a2 ys)
    (h : ∀ h', IsZip h' (s.heap.objs.size + 4) (s.heap.objs.size + 2) (s.heap.objs.size + 3) .none → IsPair h' (s.heap.objs.size + 2) (.ref s.heap.objs.size) (.ref (s.heap.objs.size + 1)) → IsPair h' (s.heap.objs.size + 3) .none .none →
      IsItr b1 h' s.heap.objs.size a1 0 → IsItr b2 h' (s.heap.objs.size + 1) a2 0 → (∀ c o, s.heap.get? c = some o → h'.get? c = some o) → Q (.ref (s.heap.objs.size + 4)) { s with heap := h' }) :
    wpAny (model prog w) A (call (.type "zip") [.ref a1, .ref a2]) Q E s := by
  refine callType_new F.called_zip (by decide) (F.typeCall_zip_2 _ _) (F.newCall_zip_2 _ _) (fun obj => F.args_object_init_3 obj _ _) F.entry_zip_new (meets_zipD b1 b2 a1 a2 xs ys) ⟨q1, q2, ?_⟩
  have z1 : (zP1 s.heap b1 a1).objs.size = s.heap.objs.size + 1 := Heap.size_push ..
  have z2 : (zP2 s.heap b1 b2 a1 a2).objs.size = s.heap.objs.size + 2 := by rw [Heap.size_push, z1]
  have z3 : (zP3 s.heap b1 b2 a1 a2).objs.size = s.heap.objs.size + 3 := by rw [Heap.size_push, z2]
  have z4 : (zP4 s.heap b1 b2 a1 a2).objs.size = s.heap.objs.size + 4 := by rw [Heap.size_push, z3]
  have up : ∀ {k : Heap} {c : Addr} {o u : Obj}, k.get? c = some o → (k.push u).get? c = some o := fun q => Heap.get?_push_of_some _ q
  have fi1 : (itO b1 a1).isFreed = false := by cases b1 <;> rfl
  have fi2 : (itO b2 a2).isFreed = false := by cases b2 <;> rfl
  have g5 : (zP5 s.heap b1 b2 a1 a2).get? (zP4 s.heap b1 b2 a1 a2).objs.size = some _ := Heap.get?_push_size _ rfl
  have g4 : (zP5 s.heap b1 b2 a1 a2).get? (zP3 s.heap b1 b2 a1 a2).objs.size = some _ := up (Heap.get?_push_size _ rfl)
  have g3 : (zP5 s.heap b1 b2 a1 a2).get? (zP2 s.heap b1 b2 a1 a2).objs.size = some _ := up (up (Heap.get?_push_size _ rfl))
  have g2 : (zP5 s.heap b1 b2 a1 a2).get? (zP1 s.heap b1 a1).objs.size = some _ := up (up (up (Heap.get?_push_size _ fi2)))
  have g1 : (zP5 s.heap b1 b2 a1 a2).get? s.heap.objs.size = some _ := up (up (up (up (Heap.get?_push_size _ fi1))))
  show _ ∧ _
  rw [z2, z3, z4] at g5
  rw [z1, z2] at g3
  rw [z3] at g4
  rw [z1] at g2
  rw [z4]
  exact ⟨⟨_, g5, rfl⟩, h _ g5 g3 g4 (.new g1) (.new g2) fun c o q => up (up (up (up (up q))))⟩
end
end PySem

namespace L2
open PySem PySem.Spec PyProof.Rows
section
variable {X : Cx} {pins : List (Addr × Obj)} {σ : St} {H : Hp} {s : Shared} {h' : Heap}
theorem Inv.turnedL {t' : Nat} {fp : List Addr} (I : Inv X pins σ H s) (k : ∀ b o, b ∉ fp → s.heap.get? b = some o → h'.get? b = some o) (hf : ∀ b ∈ fp, FpOk X pins H b) : Inv X pins σ H { s with heap := h', toks := t' } := by
  have nit : ∀ b u, H b = some u → b ∉ fp := fun b u e z => by rw [(hf b z).1] at e; cases e
  refine I.step (g' := s.gens) (d' := s.drawn) (ch := fp) (fun b hb => ?_) (fun b o _ _ hc e _ => k b o hc e) (fun b o _ _ hc e _ => ⟨o.slots, k b o hc e⟩) (fun _ _ _ _ n => n)
    (fun b o hc e => ⟨o, k b o hc e⟩) (fun _ _ e => e) (fun _ _ _ e => e) (fun b ps e => ⟨#[], by rw [e]; simp⟩) (fun m hm => ?_) (fun b u e => ?_) I.bare
  · obtain ⟨f0, f1, f2, f3, f4, f5⟩ := hf b hb
    exact ⟨f3, f1, f4, f5⟩
  · obtain ⟨o, es, ep, ho, r⟩ := hm
    exact ⟨o, es, ep, k _ o (fun z => (hf _ z).2.1 rfl) ho, r⟩
  · refine (I.hok b u e).stay (fun c v hc q => k c v ?_ q) (fun _ q => q) fun _ _ q => q
    rcases hc with z | z
    · rw [z]; exact nit b u e
    · exact nit c _ z
def Sq (b : Bool) (K : PySem.W.Frag) (H : Hp) (a : Addr) (xs : List V) : Prop := match b with
  | true => SqT K H a xs
  | false => SqL K H a xs
theorem Sq.heap {b : Bool} {a : Addr} {xs : List V} (I : Inv X pins σ H s) (q : Sq b X.K H a xs) : ∃ its : List Value, Vals xs its ∧ IsSq b s.heap a its.toArray := by
  cases b with
  | true => obtain ⟨its, r, p, _⟩ := I.tuple q; exact ⟨its, r, p⟩
  | false => obtain ⟨its, r, p, _⟩ := I.list q; exact ⟨its, r, p.isList⟩
theorem Sq.inj {b : Bool} {a : Addr} {xs ys : List V} (I : Inv X pins σ H s) (q : Sq b X.K H a xs) (q' : Sq b X.K H a ys) : xs = ys := by
  cases b with
  | true => exact I.tuple_inj q q'
  | false => exact I.list_inj q q'
theorem FpOk.off {b : Bool} {a c : Addr} {xs : List V} (I : Inv X pins σ H s) (q : Sq b X.K H a xs) (f : FpOk X pins H c) : a ≠ c := by
  intro e
  subst e
  have own : ∀ {o : HO}, H a = some o → False := fun h => by rw [f.1] at h; cases h
  have mod : ∀ {o : Obj}, X.K.lookup a = some o → False := fun {o} h => by
    have hb := I.ok.mod.kin a o h
    rcases f.2.2.2.1 with z | z
    · exact I.ok.noex a o hb z
    · exact absurd (Heap.lt_size hb) (Nat.not_lt.mpr (Nat.le_trans I.ok.bsz z))
  cases b with
  | true =>
    rcases q with (h | ⟨o, h⟩) | ⟨o, its, n, h, _⟩
    · exact own h
    · exact own h
    · exact mod h
  | false =>
    rcases q with (h | ⟨o, h⟩) | ⟨o, its, n, h, _⟩
    · exact own h
    · exact own h
    · exact mod h
def Itz (K : PySem.W.Frag) (b1 b2 : Bool) (a1 a2 : Addr) : It :=
  ⟨fun i H => ∃ xs ys x y, Sq b1 K H a1 xs ∧ Sq b2 K H a2 ys ∧ xs[i]? = some x ∧ ys[i]? = some y,
   fun i H x H' => ∃ p u v, x = .ref p ∧ H p = none ∧ H' = upd H p (.tup [u, v]) ∧ ∀ xs ys, Sq b1 K H a1 xs → Sq b2 K H a2 ys → xs[i]? = some u ∧ ys[i]? = some v,
   fun i H => ∃ xs ys, Sq b1 K H a1 xs ∧ Sq b2 K H a2 ys ∧ i = min xs.length ys.length⟩
def ZSt (b1 b2 : Bool) (a1 a2 z TI TO i1 i2 : Addr) (i : Nat) (h : Heap) : Prop := IsZip h z TI TO .none ∧ IsPair h TI (.ref i1) (.ref i2) ∧ (∃ a b, IsPair h TO a b) ∧ IsItr b1 h i1 a1 i ∧ IsItr b2 h i2 a2 i
theorem IsItr.keep {b : Bool} {h h' : Heap} {j a : Addr} {i : Nat} (q : IsItr b h j a i) (k : ∀ o, h.get? j = some o → h'.get? j = some o) : IsItr b h' j a i := by
  cases b with
  | true => obtain ⟨o, e, r⟩ := q; exact ⟨o, k o e, r⟩
  | false => obtain ⟨o, e, r⟩ := q; exact ⟨o, k o e, r⟩
theorem IsItr.obj {b : Bool} {h : Heap} {j a : Addr} {i : Nat} (q : IsItr b h j a i) : ∃ o, h.get? j = some o ∧ ∀ v, o.data ≠ .cell v := by
  cases b with
  | true => obtain ⟨o, e, _, d⟩ := q; exact ⟨o, e, fun v z => by rw [d] at z; cases z⟩
  | false => obtain ⟨o, e, _, d⟩ := q; exact ⟨o, e, fun v z => by rw [d] at z; cases z⟩
end
theorem za_of {X : Cx} {pins : List (Addr × Obj)} {σ : St} {H : Hp} {s : Shared} {b1 b2 : Bool} {a1 a2 z TI TO i1 i2 : Addr} {xs ys : List V} (I : Inv X pins σ H s) (q1 : Sq b1 X.K H a1 xs) (q2 : Sq b2 X.K H a2 ys) (hf : ∀ b ∈ [z, TI, TO, i1, i2], FpOk X pins H b)
    (nd : [z, TI, TO, i1, i2].Nodup) : ZA z TI TO i1 i2 [i1, a1] [i2, a2] := by
  have o1 : ∀ c ∈ [z, TI, TO, i1, i2], a1 ≠ c := fun c hc => FpOk.off I q1 (hf c hc)
  have o2 : ∀ c ∈ [z, TI, TO, i1, i2], a2 ≠ c := fun c hc => FpOk.off I q2 (hf c hc)
  simp only [List.nodup_cons, List.mem_cons, List.mem_nil_iff, or_false, not_or] at nd
  obtain ⟨⟨n1, n2, n3, n4⟩, ⟨n5, n6, n7⟩, ⟨n8, n9⟩, n10, _⟩ := nd
  have c1 := o1 z (by simp)
  have c2 := o1 TI (by simp)
  have c3 := o1 TO (by simp)
  have c4 := o1 i2 (by simp)
  have d1 := o2 z (by simp)
  have d2 := o2 TI (by simp)
  have d3 := o2 TO (by simp)
  have d4 := o2 i1 (by simp)
  refine ⟨Ne.symm n1, Ne.symm n2, n5, by simp, by simp, ?_, ?_, ?_, ?_, ?_, ?_, ?_, ?_⟩ <;> simp only [List.mem_cons, List.mem_nil_iff, or_false, not_or]
  · exact ⟨n3, Ne.symm c1⟩
  · exact ⟨n4, Ne.symm d1⟩
  · exact ⟨n6, Ne.symm c2⟩
  · exact ⟨n7, Ne.symm d2⟩
  · exact ⟨n8, Ne.symm c3⟩
  · exact ⟨n9, Ne.symm d3⟩
  · exact ⟨n10, Ne.symm d4⟩
  · exact ⟨Ne.symm n10, Ne.symm c4⟩
theorem turn_zip {P : Program} {w : World} {K : PySem.W.Frag} {elts : List Expr} {kk : Nat} {pos : Pos} (b1 b2 : Bool) (a1 a2 z TI TO i1 i2 : Addr) (nd : [z, TI, TO, i1, i2].Nodup) :
    Turn P w K (.Tuple elts kk pos) (Itz K b1 b2 a1 a2) [z, TI, TO, i1, i2] z (ZSt b1 b2 a1 a2 z TI TO i1 i2) where
  mem := by simp
  obj := fun i h st b hb => by
    obtain ⟨s1, s2, ⟨u, v, s3⟩, s4, s5⟩ := st
    simp only [List.mem_cons, List.mem_nil_iff, or_false] at hb
    rcases hb with rfl | rfl | rfl | rfl | rfl
    · exact ⟨_, s1, fun v z => nomatch (show Data.fields _ = Data.cell v from z)⟩
    · exact ⟨_, s2, fun v z => nomatch (show Data.seq _ _ = Data.cell v from z)⟩
    · exact ⟨_, s3, fun v z => nomatch (show Data.seq _ _ = Data.cell v from z)⟩
    · exact IsItr.obj (b := b1) s4
    · exact IsItr.obj (b := b2) s5
  keep := fun i h h' st k => by
    obtain ⟨s1, s2, ⟨u, v, s3⟩, s4, s5⟩ := st
    exact ⟨k z (by simp) _ s1, k TI (by simp) _ s2, ⟨u, v, k TO (by simp) _ s3⟩, IsItr.keep (b := b1) s4 fun o e => k i1 (by simp) o e, IsItr.keep (b := b2) s5 fun o e => k i2 (by simp) o e⟩
  item := by
    intro X hP hw hK hc i pins s σ H E I hf st hg
    subst hP hw hK
    obtain ⟨xs, ys, x, y, q1, q2, e1, e2⟩ := hg
    obtain ⟨its, r1, p1⟩ := q1.heap I
    obtain ⟨jts, r2, p2⟩ := q2.heap I
    obtain ⟨s1, s2, ⟨u0, v0, s3⟩, s4, s5⟩ := st
    have Z := za_of I q1 q2 hf nd
    have hh : X.A.in1.handled = none := I.ok.hd hc
    have ne1 : a1 ≠ i1 := FpOk.off I q1 (hf i1 (by simp))
    have ne2 : a2 ≠ i2 := FpOk.off I q2 (hf i2 (by simp))
    have D1 := Draws.sq (prog := X.prog) (w := X.w) (b := b1) (xs := its.toArray) hh i1 ne1
    have D2 := Draws.sq (prog := X.prog) (w := X.w) (b := b2) (xs := jts.toArray) hh i2 ne2
    have hT : s.TypeIs (.ref z) "zip" := ⟨_, s1, rfl⟩
    have l1 : i < its.toArray.size := by have := (List.getElem?_eq_some_iff.mp e1).1; rw [List.size_toArray, ← r1.length]; exact this
    have l2 : i < jts.toArray.size := by have := (List.getElem?_eq_some_iff.mp e2).1; rw [List.size_toArray, ← r2.length]; exact this
    unfold pyNext
    refine wpAny_bind (wpAny_attempt (wpAny_callSpecial?_slot (name := Str.ofString "__next__") hT F.slot_zip_next (wpAny_call_entry F.slot_zip_next hT F.entry_zip_next (zip_itemD Z D1 D2 s1 s2 s3 ⟨s4, p1⟩ ⟨s5, p2⟩ l1 l2 fun u v k tk pu pv t1 t2 t3 t4 t5 t6 t7 t8 => wpAny_pure ?_) (F.args_zip_next_1 _))))
    refine ⟨_, rfl, wpAny_letOwnedTupleGo_zip (s := { s with heap := k, toks := tk }) t1 fun k2 t9 e9 => ?_⟩
    replace e9 : Heap.SameBut z k k2 := e9
    obtain ⟨ux, hx1, rx⟩ := r1.get e1
    obtain ⟨uy, hy1, ry⟩ := r2.get e2
    have eu : u = ux := by
      have pu' : its[i]? = some u := by simpa using pu
      rw [hx1] at pu'; exact (Option.some.inj pu').symm
    have ev : v = uy := by
      have pv' : jts[i]? = some v := by simpa using pv
      rw [hy1] at pv'; exact (Option.some.inj pv').symm
    subst eu ev
    have zlt : ∀ b ∈ [z, TI, TO, i1, i2], b < s.heap.objs.size := fun b hb => by
      simp only [List.mem_cons, List.mem_nil_iff, or_false] at hb
      rcases hb with rfl | rfl | rfl | rfl | rfl
      · exact Heap.lt_size s1
      · exact Heap.lt_size s2
      · exact Heap.lt_size s3
      · obtain ⟨_, e, _⟩ := IsItr.obj (b := b1) s4; exact Heap.lt_size e
      · obtain ⟨_, e, _⟩ := IsItr.obj (b := b2) s5; exact Heap.lt_size e
    have nz : s.heap.objs.size ≠ z := Nat.ne_of_gt (zlt z (by simp))
    -- the pair is laid, then the private objects turn
    have I1 : Inv X pins σ (upd H s.heap.objs.size (.tup [x, y])) { s with heap := s.heap.push { cls := .type "tuple", data := .seq #[u, v] }, toks := s.toks } :=
      I.laid (o := .tup [x, y]) (fun b ob q => Heap.get?_push_of_some _ q) (Nat.le_refl _) ⟨by show 2 ≤ sizeLine; decide, [u, v], .cons rx (.cons ry .nil), ⟨_, Heap.get?_push_size _ rfl, rfl, _, rfl⟩⟩
    have hf1 : ∀ b ∈ [z, TI, TO, i1, i2], FpOk X pins (upd H s.heap.objs.size (.tup [x, y])) b := fun b hb => ⟨by rw [upd_ne (Nat.ne_of_lt (zlt b hb))]; exact (hf b hb).1, (hf b hb).2⟩
    have I2 : Inv X pins σ (upd H s.heap.objs.size (.tup [x, y])) { s with heap := k2, toks := tk } := Inv.turnedL (s := { s with heap := s.heap.push { cls := .type "tuple", data := .seq #[u, v] }, toks := s.toks }) I1 (fun b o hb q => by
      simp only [List.mem_cons, List.mem_nil_iff, or_false, not_or] at hb
      refine e9.extBut b o hb.1 ?_
      by_cases hbs : b = s.heap.objs.size
      · subst hbs
        have q' : (s.heap.push { cls := .type "tuple", data := .seq #[u, v] }).get? s.heap.objs.size = some o := q
        rw [Heap.get?_push_size _ rfl] at q'
        cases q'
        exact t6
      · have q' : s.heap.get? b = some o := by
          have q2 : (s.heap.push { cls := .type "tuple", data := .seq #[u, v] }).get? b = some o := q
          exact (Heap.get?_push_ne s.heap b _ hbs).symm.trans q2
        exact t8 b o hb.1 hb.2.2.1 hb.2.2.2.1 hb.2.2.2.2 q') hf1
    refine ⟨.ref s.heap.objs.size, _, I2, rfl, ⟨_, x, y, rfl, I.hok.fresh (Nat.le_refl _), rfl, fun xs' ys' h1 h2 => ?_⟩, ⟨t9, e9.extBut _ _ Z.a1 t2, ⟨_, _, e9.extBut _ _ Z.a2 t3⟩, ?_, ?_⟩, fun b hb => (hf1 b hb).1⟩
    · rw [Sq.inj I h1 q1, Sq.inj I h2 q2]; exact ⟨e1, e2⟩
    · exact IsItr.keep (b := b1) t4.1 fun o e => e9.extBut _ _ (fun q => Z.z1 (q ▸ Z.m1)) e
    · exact IsItr.keep (b := b2) t5.1 fun o e => e9.extBut _ _ (fun q => Z.z2 (q ▸ Z.m2)) e
  done := by
    intro X hP hw hK hc i pins s σ H E I hf st hg
    subst hP hw hK
    obtain ⟨xs, ys, q1, q2, ei⟩ := hg
    obtain ⟨its, r1, p1⟩ := q1.heap I
    obtain ⟨jts, r2, p2⟩ := q2.heap I
    obtain ⟨s1, s2, ⟨u0, v0, s3⟩, s4, s5⟩ := st
    have Z := za_of I q1 q2 hf nd
    have hh : X.A.in1.handled = none := I.ok.hd hc
    have D1 := Draws.sq (prog := X.prog) (w := X.w) (b := b1) (xs := its.toArray) hh i1 (FpOk.off I q1 (hf i1 (by simp)))
    have D2 := Draws.sq (prog := X.prog) (w := X.w) (b := b2) (xs := jts.toArray) hh i2 (FpOk.off I q2 (hf i2 (by simp)))
    have hT : s.TypeIs (.ref z) "zip" := ⟨_, s1, rfl⟩
    have n1 : its.toArray.size = xs.length := by rw [List.size_toArray, r1.length]
    have n2 : jts.toArray.size = ys.length := by rw [List.size_toArray, r2.length]
    unfold pyNext
    refine wpAny_bind (wpAny_attempt (wpAny_callSpecial?_slot (name := Str.ofString "__next__") hT F.slot_zip_next (wpAny_call_entry F.slot_zip_next hT F.entry_zip_next (zip_endD Z D1 D2 s1 s2 s3 ⟨s4, p1⟩ ⟨s5, p2⟩ (by omega) fun k e tk kk he => ?_) (F.args_zip_next_1 _))))
    obtain ⟨o, ho, hoc⟩ := he
    refine wpAny_bind (wpAny_isInstance (T := "StopIteration") (b := true) ⟨o, ho, hoc⟩ isSubtype_stop (wpAny_pure ⟨rfl, ?_⟩))
    exact I.turnedL (fun b o hb q => by
      simp only [List.mem_cons, List.mem_nil_iff, or_false, not_or] at hb
      exact kk b o hb.1 hb.2.2.1 hb.2.2.2.1 hb.2.2.2.2 q) hf
  self := fun _ _ _ _ _ st h => wpAny_pyIter_zip st.1 h
def iZp (K : PySem.W.Frag) (ta : TA) : TI := fun σ H R => ta σ H fun vs H1 => ∃ (b1 b2 : Bool) (a1 a2 : Addr) (xs ys : List V), vs = [.ref a1, .ref a2] ∧ Sq b1 K H1 a1 xs ∧ Sq b2 K H1 a2 ys ∧ R (Itz K b1 b2 a1 a2) H1
theorem pi_zipK {X : Cx} {K : PySem.W.Frag} {elts : List Expr} {kk : Nat} {tpos : Pos} {a b : Expr} {ta : TA} {p pos : Pos} (hK : X.K = K) (hg : Gl X "zip") (hm : X.mg "zip" = none) (ha : PA X [a, b] ta) (hs : starEach [a, b] X.env = [(false, eval a X.env), (false, eval b X.env)] := by rfl)
    (hs2 : starEach [b] X.env = [(false, eval b X.env)] := by rfl) : PI X (.Tuple elts kk tpos) (.Call (.Name "zip" p) [a, b] [] pos) (iZp K ta) := by
  subst hK
  intro pins s σ H R I h
  refine Call_ (ld_blt I hg hm bt_zip (PyProof.Rows.callWith_type1 (thn (ha pos pins s σ H _ I h) fun us s1 ⟨vs, H1, I1, r1, q1⟩ => ?_) (by rw [hs, hs2]) (by rw [hs2]; rfl)))
  obtain ⟨b1, b2, a1, a2, xs, ys, e, c1, c2, q⟩ := q1
  subst e
  cases r1 with
  | cons r rr =>
  cases rr with
  | cons r' rr =>
  cases rr
  cases r
  cases r'
  obtain ⟨its, w1, p1⟩ := c1.heap I1
  obtain ⟨jts, w2, p2⟩ := c2.heap I1
  refine call_zipD p1 p2 fun h' t1 t2 t3 t4 t5 kp => wpAny_pyIter_zip t1 ?_
  refine ⟨_, [s1.heap.objs.size + 4, s1.heap.objs.size + 2, s1.heap.objs.size + 3, s1.heap.objs.size, s1.heap.objs.size + 1], _, _, H1, rfl, I1.kept (t' := s1.toks) kp, turn_zip b1 b2 a1 a2 _ _ _ _ _ (by simp), ⟨t1, t2, ⟨_, _, t3⟩, t4, t5⟩, fun b hb => ?_, q⟩
  have hle : s1.heap.objs.size ≤ b := by
    simp only [List.mem_cons, List.mem_nil_iff, or_false] at hb
    rcases hb with rfl | rfl | rfl | rfl | rfl <;> first | exact Nat.le_refl _ | exact Nat.le_add_right _ _
  exact I1.fpOk hle (I1.hok.fresh hle)
end L2

namespace LE
open PySem L2 LR
def zipT (ds es : List D) : List D := List.zipWith (fun a b => .tup [a, b]) ds es
def iZip (m : Bool) (as : En → Option (List Sl)) : En → Option (List D) := fun E => (as E).bind fun ss => match ss with
  | [s, t] => (s.it m).bind fun ds => (t.it m).bind fun es => some (zipT ds es)
  | _ => none
section
variable {K : PySem.W.Frag} {C : Addr} {m : Bool}
theorem held {H H1 H1' : Hp} {v : V} {s : Sl} {ds : List D} (r : RR K C H H1 H1' v s) (i : Same H1 H1') (e : s.it m = some ds) :
    ∃ (b : Bool) (a : Addr) (xs : List V), v = .ref a ∧ (∀ A, (m = true → A = H1') → ∀ H0' H', SStep A (frzH H H1 H1') H0' H' → Sq b K H' a xs) ∧ RDL K C (frzH H H1 H1') xs ds := by
  have f := frz_step (Hs := H) i
  have shared : ∀ {d : D}, RD K C (frzH H H1 H1') v d → (Sl.sh d).q = some ds → ∃ (b : Bool) (a : Addr) (xs : List V), v = .ref a ∧ (∀ A, (m = true → A = H1') → ∀ H0' H', SStep A (frzH H H1 H1') H0' H' → Sq b K H' a xs) ∧ RDL K C (frzH H H1 H1') xs ds := fun {d} r e => by
    cases d with
    | lst es => cases e; obtain ⟨l, xs, h1, h2, h3⟩ := RD.lstI r; exact ⟨false, l, xs, h1, fun A _ H0' H' st => SqL.of (st.i _ _ (st.z _ _ h2)), h3⟩
    | fz es => cases e; obtain ⟨l, xs, h1, h2, h3⟩ := RD.fzI r; exact ⟨false, l, xs, h1, fun A _ H0' H' st => (st.z.trans st.i).seq h2, h3⟩
    | tup es => cases e; obtain ⟨l, xs, h1, h2, h3⟩ := RD.tupI r; exact ⟨true, l, xs, h1, fun A _ H0' H' st => (st.z.trans st.i).seqT h2, h3⟩
    | _ => cases e
  cases s with
  | no => cases e
  | sh d => exact shared (RD.mono f.z r) e
  | own es => exact shared (RR.frz (s := .own es) i r rfl) e
  | bd _ _ => cases e
  | od _ _ => cases e
  | bo es =>
    unfold Sl.it at e
    dsimp only at e
    split at e
    · next hm =>
      cases e
      obtain ⟨l, xs, h1, h2, h3⟩ := r
      refine ⟨false, l, xs, h1, fun A hA H0' H' st => ?_, h3.mono f.z⟩
      have := hA hm
      subst this
      exact SqL.of (st.b _ _ h2)
    · cases e
theorem s_iZip {t : TA} {ev : En → Option (List Sl)} (ha : SA K C t ev) : SI K C m (iZp K t) (iZip m ev) := by
  intro B H0 H σ E ds R I e q
  obtain ⟨ss, e1, e⟩ := bind_some e
  split at e
  · next s u =>
    obtain ⟨ds1, e2, e⟩ := bind_some e
    obtain ⟨ds2, e3, e⟩ := bind_some e
    cases e
    refine ha B H0 H σ E _ _ I e1 fun vs H1 H1' s1 r1 => ?_
    obtain ⟨v, w, rfl, ra, rb⟩ := r1.two
    have f := frz_step (Hs := H) s1.i
    obtain ⟨b1, a1, xs, rfl, k1, w1⟩ := held ra s1.i e2
    obtain ⟨b2, a2, ys, rfl, k2, w2⟩ := held rb s1.i e3
    have hA : m = true → (if m = true then H1' else B) = H1' := fun h => if_pos h
    have sA : Same (if m = true then H1' else B) H1' := by
      split
      · exact Same.refl _
      · exact I.b.trans s1.h
    have st0 : SStep (if m = true then H1' else B) (frzH H H1 H1') (frzH H H1 H1') H1' := ⟨sA, Same.refl _, fun _ _ e => .inl e, f.i⟩
    refine ⟨b1, b2, a1, a2, xs, ys, rfl, k1 _ hA _ _ st0, k2 _ hA _ _ st0, q _ _ _ (s1.comp f fun _ z => z) ?_⟩
    intro H0' H' st
    have q1 := k1 _ hA _ _ st
    have q2 := k2 _ hA _ _ st
    refine ⟨fun i d e => ?_, ⟨xs, ys, q1, q2, by unfold zipT; rw [List.length_zipWith, w1.1, w2.1]⟩⟩
    unfold zipT at e
    rw [List.getElem?_zipWith] at e
    cases g1 : ds1[i]? with
    | none => rw [g1] at e; cases e
    | some d1 =>
      cases g2 : ds2[i]? with
      | none => rw [g1, g2] at e; cases e
      | some d2 =>
        rw [g1, g2] at e
        cases e
        obtain ⟨x, x1, x2⟩ := w1.get g1
        obtain ⟨y, y1, y2⟩ := w2.get g2
        refine ⟨⟨xs, ys, x, y, q1, q2, x1, y1⟩, ?_⟩
        rintro z H2 ⟨p, u', v', rfl, hp, rfl, hv⟩
        obtain ⟨h1, h2⟩ := hv xs ys q1 q2
        rw [x1] at h1; cases h1
        rw [y1] at h2; cases h2
        have h0 : H0' p = none := Same.free st.i hp
        refine ⟨upd H0' p (.tup [x, y]), ⟨.new hp, .new h0, fun a o e => ?_, fun a o e => ?_⟩, ?_⟩
        · by_cases h : a = p
          · subst h; exact .inr (.inl hp)
          · rw [upd_ne h] at e; exact .inl e
        · by_cases h : a = p
          · subst h; rw [upd_same] at e ⊢; exact e
          · rw [upd_ne h] at e ⊢; exact st.i a o e
        · exact .mkT (.of upd_same) (.cons (x2.mono (st.z.trans (.new h0))) (.cons (y2.mono (st.z.trans (.new h0))) .nil))
  · cases e
theorem zip_map {α β : Type} (f : α → D) (g : β → D) (xs : List α) (ys : List β) : zipT (xs.map f) (ys.map g) = (List.zip xs ys).map fun p => .tup [f p.1, g p.2] := by
  unfold zipT
  induction xs generalizing ys with
  | nil => rfl
  | cons x xs ih => cases ys with
    | nil => rfl
    | cons y ys => simp [ih]
end
end LE

namespace PySem
namespace F
theorem rv_own : Manifest.owners.lookup (String.ofList ['d', 'e', 's', 'r', 'e', 'v', 'e', 'r'].reverse) = some Manifest.sig_reversed := by kernel_rfl
theorem rv_slot_init : Slot "reversed" "__init__" "object.__init__" :=
  .of (owner := "object") (n := "__init__") (by rw [typeLookup_type, builtinLookup_eq_fast]; kernel_rfl) (by decide +kernel) (by decide +kernel) (by decide +kernel) (by first | exact .inl (by decide +kernel) | exact .inr (by decide +kernel)) (by rw [isSubtype_type]; kernel_rfl)
theorem rv_slot_next : Slot "reversed" "__next__" "reversed.__next__" :=
  .of (owner := "reversed") (n := "__next__") (by rw [typeLookup_type, builtinLookup_eq_fast]; kernel_rfl) (by decide +kernel) (by decide +kernel) (by decide +kernel) (by first | exact .inl (by decide +kernel) | exact .inr (by decide +kernel)) (by rw [isSubtype_type]; kernel_rfl)
theorem rv_slot_iter : Slot "reversed" "__iter__" "reversed.__iter__" :=
  .of (owner := "reversed") (n := "__iter__") (by rw [typeLookup_type, builtinLookup_eq_fast]; kernel_rfl) (by decide +kernel) (by decide +kernel) (by decide +kernel) (by first | exact .inl (by decide +kernel) | exact .inr (by decide +kernel)) (by rw [isSubtype_type]; kernel_rfl)
theorem rv_args_next (a : Value) : argsOk "reversed.__next__" ⟨[a], []⟩ := by
  unfold argsOk; rw [signature?_of (id := "reversed.__next__") (n := ['_', '_', 't', 'x', 'e', 'n', '_', '_']) (o := ['d', 'e', 's', 'r', 'e', 'v', 'e', 'r']) (by kernel_rfl) rv_own]; kernel_rfl
theorem rv_args_iter (a : Value) : argsOk "reversed.__iter__" ⟨[a], []⟩ := by
  unfold argsOk; rw [signature?_of (id := "reversed.__iter__") (n := ['_', '_', 'r', 'e', 't', 'i', '_', '_']) (o := ['d', 'e', 's', 'r', 'e', 'v', 'e', 'r']) (by kernel_rfl) rv_own]; kernel_rfl
theorem rv_entry_next : entryFor table "reversed.__next__" = some Builtin.«reversed.__next__» := entryFor_of_tree (by kernel_rfl)
theorem rv_entry_iter : entryFor table "reversed.__iter__" = some Builtin.«dict_keyiterator.__iter__» :=
  entryFor_alias (id' := "dict_keyiterator.__iter__") (by kernel_rfl) (by first | rfl | decide +kernel | (unfold String.splitOn; simp +decide [String.splitOnAux])) (by decide +kernel) (by kernel_rfl)
theorem rv_called : TypeCalled "reversed" "reversed.__new__" "object.__init__" :=
  ⟨by decide +kernel, by decide +kernel, ⟨_, _, mro_reversed⟩, made_reversed, by decide +kernel, sub_reversed_self, rv_slot_init⟩
theorem rv_tuple_none : typeLookup (.type "tuple") "__reversed__" = pure none := by rw [typeLookup_type, builtinLookup_eq_fast]; kernel_rfl
theorem rv_tuple_dict : isSubtype (.type "tuple") (.type "dict") = pure false := by rw [isSubtype_type]; kernel_rfl
end F
abbrev IsRv (h : Heap) (r a : Addr) (i : Int) : Prop := h.get? r = some { cls := .type "reversed", dict := none, data := .fields #[.ref a, rawInt i], slots := #[] }
section
variable {prog : Program} {w : World} {A : Around} {E : Value → Shared → Prop} {s : Shared} {a r : Addr} {xs : Array Value}
theorem meets_rv (a : Addr) (xs : Array Value) : Meets (Builtin.«reversed.__new__» ⟨[.type "reversed", .ref a], []⟩) (fun _ R s => s.heap.IsTuple a xs ∧ (xs.size : Int) < 2 ^ 63 ∧
    R (.ok (.ret (.ref s.heap.objs.size))) { s with heap := s.heap.push { cls := .type "reversed", data := .fields #[.ref a, rawInt ((xs.size : Int) - 1)] }, toks := s.toks + 1 + 1 }) :=
  .of_wp fun prog w A R s h => by
    obtain ⟨hp, g, d, tk, os⟩ := s; obtain ⟨q1, q2, h⟩ := h
    have hT : (⟨hp, g, d, tk, os⟩ : Shared).TypeIs (.ref a) "tuple" := q1.typeIs
    unfold Builtin.«reversed.__new__»
    refine wpAny_bind (wpAny_of_eq (newClass_reversed _) ?_)
    try dsimp only
    refine wpAny_bind (wpAny_of_eq (a := ()) (by first | rfl | kernel_rfl) ?_)
    refine wpAny_bind (wpAny_of_eq (a := ()) (by first | rfl | kernel_rfl) ?_)
    try dsimp only
    refine wpAny_bind (wpAny_specialOf hT F.rv_tuple_none ?_)
    try dsimp only
    refine wpAny_bind ?_
    refine wpAny_bind (m := isInstance (.ref a) (.type "dict")) (wpAny_isInstance hT F.rv_tuple_dict ?_)
    refine wpAny_bind (wpAny_specialOf hT PyProof.Rows.slot_tuple_getitem.lookup ?_)
    refine wpAny_pure ?_
    refine wpAny_bind (PyProof.Rows.len_tuple (s := ⟨hp, g, d, tk, os⟩) q1 q2 ?_)
    refine wpAny_bind (wpAny_of_eq (a := some (xs.size : Int)) rfl ?_)
    try dsimp only
    refine wpAny_bind ?_
    show wpAny _ _ (newObj (.type "reversed") (.fields #[.ref a, rawInt ((xs.size : Int) - 1)])) _ _ _
    exact wpAny_newObj_type (wpAny_pure ⟨_, rfl, h⟩) (by size_fits)
theorem call_rv {Q : Value → Shared → Prop} (q1 : s.heap.IsTuple a xs) (q2 : (xs.size : Int) < 2 ^ 63)
    (h : ∀ h' tk, IsRv h' s.heap.objs.size a ((xs.size : Int) - 1) → (∀ c o, s.heap.get? c = some o → h'.get? c = some o) → Q (.ref s.heap.objs.size) { s with heap := h', toks := tk }) :
    wpAny (model prog w) A (call (.type "reversed") [.ref a]) Q E s := by
  refine callType_new F.rv_called (by decide) (F.typeCall_reversed_1 _) (F.newCall_reversed_1 _) (fun obj => F.args_object_init_2 obj _) F.entry_reversed_new (meets_rv a xs) ⟨q1, q2, ?_⟩
  exact ⟨⟨_, Heap.get?_push_size _ rfl, rfl⟩, h _ _ (Heap.get?_push_size _ rfl) fun c o q => Heap.get?_push_of_some _ q⟩
theorem next_rv {i : Nat} {x : Value} {Q : Option Value → Shared → Prop} (hit : IsRv s.heap r a (i : Int)) (hl : s.heap.IsTuple a xs) (hb : (i : Int) < 2 ^ 63) (hx : xs[i]? = some x)
    (hQ : ∀ h' tk, IsRv h' r a ((i : Int) - 1) → Heap.SameBut r s.heap h' → Q (some x) { s with heap := h', toks := tk }) : wpAny (model prog w) A (pyNext (.ref r)) Q E s := by
  have hT : s.TypeIs (.ref r) "reversed" := ⟨_, hit, rfl⟩
  have hi : i < xs.size := by
    by_cases z : i < xs.size
    · exact z
    · rw [Array.getElem?_eq_none (by omega)] at hx; cases hx
  unfold pyNext
  refine wpAny_bind (wpAny_attempt (wpAny_callSpecial?_slot (name := Str.ofString "__next__") hT F.rv_slot_next
    (wpAny_call_entry F.rv_slot_next hT F.rv_entry_next ?_ (F.rv_args_next _))))
  unfold Builtin.«reversed.__next__»
  refine wpAny_bind (wpAny_of_eq (a := (Value.ref r, [])) rfl ?_)
  try dsimp only
  refine wpAny_bind (wpAny_field hit rfl (x := .ref a) rfl ?_)
  refine wpAny_bind (wpAny_field hit rfl (x := rawInt (i : Int)) rfl ?_)
  show wpAny _ _ (if (i : Int) < 0 then _ else _) _ _ s
  rw [if_neg (by omega)]
  show wpAny _ _ (specialOf (.ref a) _ >>= _) _ _ s
  refine wpAny_bind (wpAny_specialOf hl.typeIs PyProof.Rows.slot_tuple_getitem.lookup ?_)
  show wpAny _ _ (mkInt (i : Int) >>= _) _ _ s
  refine wpAny_bind (wpAny_mkInt ?_)
  refine wpAny_bind (wpAny_attempt (PyProof.Rows.getItem_tuple (s := { s with toks := s.toks + 1 }) hl (by omega) hb (j := i) (by simp [seqIndex?]; omega) hx ?_))
  show wpAny _ _ (field (.ref r) 1 >>= _) _ _ _
  refine wpAny_bind (wpAny_field hit rfl (x := rawInt (i : Int)) rfl ?_)
  show wpAny _ _ (setField (.ref r) 1 (rawInt ((i : Int) - 1)) >>= _) _ _ _
  refine wpAny_bind (wpAny_setField_rec hit (by simp) fun k1 y1 e1 => ?_)
  exact wpAny_pure ⟨x, rfl, wpAny_pure (hQ k1 _ y1 e1)⟩
theorem end_rv {Q : Option Value → Shared → Prop} (hh : A.handled = none) (hit : IsRv s.heap r a (-1))
    (hQ : ∀ h', Heap.ExtBut r s.heap h' → Q none { s with heap := h' }) : wpAny (model prog w) A (pyNext (.ref r)) Q E s := by
  have hT : s.TypeIs (.ref r) "reversed" := ⟨_, hit, rfl⟩
  unfold pyNext
  refine wpAny_bind (wpAny_attempt (wpAny_callSpecial?_slot (name := Str.ofString "__next__") hT F.rv_slot_next
    (wpAny_call_entry F.rv_slot_next hT F.rv_entry_next ?_ (F.rv_args_next _))))
  unfold Builtin.«reversed.__next__»
  refine wpAny_bind (wpAny_of_eq (a := (Value.ref r, [])) rfl ?_)
  try dsimp only
  refine wpAny_bind (wpAny_field hit rfl (x := .ref a) rfl ?_)
  refine wpAny_bind (wpAny_field hit rfl (x := rawInt (-1)) rfl ?_)
  show wpAny _ _ (if (-1 : Int) < 0 then _ else _) _ _ s
  rw [if_pos (by decide)]
  refine wpAny_bind (wpAny_rule ?_)
  refine wpAny_bind ?_
  refine wpAny_bind (m := setField (.ref r) 1 (rawInt (-1))) (wpAny_setField_rec hit (by simp) fun k1 y1 e1 => ?_)
  refine wpAny_setField_rec (s := { s with heap := k1 }) y1 (by simp) fun k2 y2 e2 => ?_
  refine wpAny_bind ?_
  show wpAny _ _ (newExc (.type "StopIteration") [] >>= _) _ _ _
  refine wpAny_bind ?_
  simp only [newExc, newTuple]
  refine wpAny_bind (wpAny_newObj_type ?_ (by size_fits))
  refine wpAny_bind (m := firstArgMember _ _) (wpAny_of_eq (a := Value.none) (by first | rfl | (simp only [firstArgMember]; rfl)) ?_)
  refine wpAny_newObj_type ?_ (by size_fits)
  simp only [raiseNew]
  refine wpAny_bind (wpAny_handled ?_)
  first | rw [show A.in1.handled = none from hh] | rw [hh]
  refine wpAny_bind (wpAny_pure (wpAny_throw ?_))
  refine wpAny_bind (wpAny_isInstance (T := "StopIteration") (b := true) ⟨_, Heap.get?_push_size _ rfl, rfl⟩ isSubtype_stop ?_)
  replace e1 : Heap.SameBut r s.heap k1 := e1
  replace e2 : Heap.SameBut r k1 k2 := e2
  refine wpAny_pure (hQ _ ?_)
  exact (Heap.ExtBut.push (Heap.ExtBut.push (fun b o hb q => e2.extBut b o hb (e1.extBut b o hb q)) _) _)
theorem iter_rv {i : Int} {Q : Value → Shared → Prop} (hit : IsRv s.heap r a i) (h : Q (.ref r) s) : wpAny (model prog w) A (pyIter (.ref r)) Q E s := by
  have hT : s.TypeIs (.ref r) "reversed" := ⟨_, hit, rfl⟩
  refine wpAny_pyIter_slot hT F.rv_slot_iter (wpAny_call_entry F.rv_slot_iter hT F.rv_entry_iter ?_ (F.rv_args_iter _))
  show wpAny _ _ (ret (.ref r)) _ _ s
  exact wpAny_pure ⟨_, rfl, "reversed", _, hT, F.rv_slot_next.lookup, h⟩
end
end PySem
namespace L2
open PySem PySem.Spec PyProof.Rows
def Itv (K : PySem.W.Frag) (b : Bool) (a : Addr) (n : Nat) : It :=
  ⟨fun i H => i < n ∧ ∃ xs, Sq b K H a xs ∧ xs.length = n, fun i H x H' => H' = H ∧ ∀ xs, Sq b K H a xs → xs[n - 1 - i]? = some x, fun i _ => i = n⟩
def RvSt (b : Bool) (r a : Addr) (i : Int) (h : Heap) : Prop := match b with
  | true => IsRv h r a i
  | false => h.IsRevIter r a i
theorem turn_rv {P : Program} {w : World} {K : PySem.W.Frag} {tg : Expr} (b : Bool) (a r : Addr) (n : Nat) (hn : n ≤ sizeLine) : Turn P w K tg (Itv K b a n) [r] r (fun i h => RvSt b r a ((n : Int) - 1 - (i : Int)) h) where
  mem := by simp
  obj := fun i h st c hc => by
    have e : c = r := by simpa using hc
    subst e
    cases b with
    | true => exact ⟨_, st, fun v z => nomatch (show Data.fields _ = Data.cell v from z)⟩
    | false => obtain ⟨o, e, _, d⟩ := st; exact ⟨o, e, fun v z => by rw [d] at z; cases z⟩
  keep := fun i h h' st k => by
    cases b with
    | true => exact k r (by simp) _ st
    | false => exact Heap.IsRevIter.at st fun o e => k r (by simp) o e
  item := by
    intro X hP hw hK hc i pins s σ H E I hf st hg
    subst hP hw hK
    obtain ⟨hi, xs, hq, hlen⟩ := hg
    obtain ⟨f0, f1, f2, f3, f4, f5⟩ := hf r (by simp)
    obtain ⟨its, rv, p⟩ := hq.heap I
    obtain ⟨x, hx⟩ : ∃ x, xs[n - 1 - i]? = some x := ⟨xs[n - 1 - i]'(by omega), by simp⟩
    obtain ⟨u, hu, ru⟩ := rv.get hx
    have e : (n : Int) - 1 - (i : Int) = ((n - 1 - i : Nat) : Int) := by omega
    have e2 : ((n - 1 - i : Nat) : Int) - 1 = (n : Int) - 1 - ((i + 1 : Nat) : Int) := by omega
    rw [e] at st
    have hz : sizeLine < 2 ^ 63 := by decide
    cases b with
    | true =>
      refine next_rv (s := s) st p (by omega) (x := u) (by simpa using hu) fun h' tk st' sb => ?_
      replace sb : Heap.SameBut r s.heap h' := sb
      have I1 : Inv X pins σ H { s with heap := h', toks := tk } := I.turned (fun b o hb e => (sb.2 b hb).trans e) f0 f1 f3 f4 f5
      rw [e2] at st'
      exact ⟨u, rfl, go_of (s := { s with heap := h', toks := tk }) st' rfl rfl (by decide) ⟨x, H, I1, ru, ⟨rfl, fun ys hy => by rw [Sq.inj I hy hq]; exact hx⟩, st', fun b hb => (hf b hb).1⟩⟩
    | false =>
      refine wpAny_pyNext_rev_item (s := s) st p (x := u) (by simpa using hu) fun h' st' sb => ?_
      have I1 : Inv X pins σ H { s with heap := h' } := I.turned (t' := s.toks) (fun b o hb e => (sb.2 b hb).trans e) f0 f1 f3 f4 f5
      rw [e2] at st'
      obtain ⟨o, eo, co, d⟩ := id st'
      exact ⟨u, rfl, go_of (s := { s with heap := h' }) eo co d (by decide) ⟨x, H, I1, ru, ⟨rfl, fun ys hy => by rw [Sq.inj I hy hq]; exact hx⟩, st', fun b hb => (hf b hb).1⟩⟩
  done := by
    intro X hP hw hK hc i pins s σ H E I hf st hg
    subst hP hw hK
    obtain ⟨f0, f1, f2, f3, f4, f5⟩ := hf r (by simp)
    replace hg : i = n := hg
    have e : (n : Int) - 1 - (i : Int) = -1 := by omega
    rw [e] at st
    cases b with
    | true => exact end_rv (s := s) (a := a) (I.ok.hd hc) st fun h' eb => ⟨rfl, I.turned (t' := s.toks) (fun b o hb e => eb b o hb e) f0 f1 f3 f4 f5⟩
    | false => exact wpAny_pyNext_rev_end (s := s) (I.ok.hd hc) st fun h' eb => ⟨rfl, I.turned (t' := s.toks) (fun b o hb e => eb b o hb e) f0 f1 f3 f4 f5⟩
  self := fun _ i s _ _ st h => by
    cases b with
    | true => exact iter_rv (s := s) st h
    | false => exact wpAny_pyIter_revIter (s := s) st h
def iRv (K : PySem.W.Frag) (ta : TA) : TI := fun σ H R => ta σ H fun vs H1 => ∃ (b : Bool) (a : Addr) (xs : List V), vs = [.ref a] ∧ Sq b K H1 a xs ∧ R (Itv K b a xs.length) H1
theorem pi_revK {X : Cx} {K : PySem.W.Frag} {tg : Expr} {a : Expr} {ta : TA} {p pos : Pos} (hK : X.K = K) (hg : Gl X "reversed") (hm : X.mg "reversed" = none) (ha : PA X [a] ta) (hs : starEach [a] X.env = [(false, eval a X.env)] := by rfl)
    : PI X tg (.Call (.Name "reversed" p) [a] [] pos) (iRv K ta) := by
  subst hK
  intro pins s σ H R I h
  refine Call_ (ld_blt I hg hm bt_reversed (PyProof.Rows.callWith_type1 (thn (ha pos pins s σ H _ I h) fun us s1 ⟨vs, H1, I1, r1, q1⟩ => ?_) (by rw [hs]; rfl) (by rfl)))
  obtain ⟨b, a, xs, e, c1, q⟩ := q1
  subst e
  cases r1 with
  | cons r rr =>
  cases rr
  cases r
  have fresh : ∀ c ∈ [s1.heap.objs.size], FpOk X pins H1 c := fun c hc => by
    have e : c = s1.heap.objs.size := by simpa using hc
    subst e
    exact I1.fpOk (Nat.le_refl _) (I1.hok.fresh (Nat.le_refl _))
  have hz : sizeLine < 2 ^ 63 := by decide
  cases b with
  | true =>
    obtain ⟨its, rv, p1, sz⟩ := I1.tuple c1
    have hl := rv.length
    refine call_rv (s := s1) (xs := its.toArray) p1 (by rw [List.size_toArray]; omega) fun h' tk t1 kp => iter_rv (s := { s1 with heap := h', toks := tk }) t1 ?_
    refine ⟨_, [s1.heap.objs.size], _, _, H1, rfl, I1.kept (t' := tk) kp, turn_rv true a _ xs.length sz, ?_, fresh, q⟩
    show IsRv h' s1.heap.objs.size a _
    have e : (its.toArray.size : Int) - 1 = (xs.length : Int) - 1 - ((0 : Nat) : Int) := by rw [List.size_toArray, ← hl]; simp
    rw [← e]
    exact t1
  | false =>
    obtain ⟨its, rv, p1, sz⟩ := I1.list c1
    have hl := rv.length
    refine call_reversed_list (s := s1) p1.isList (wpAny_pyIter_revIter (l := a) (i := ((its.toArray.size : Int) - 1)) ⟨_, Heap.get?_push_size _ rfl, rfl, rfl⟩ ?_)
    refine ⟨_, [s1.heap.objs.size], _, _, H1, rfl, I1.kept (t' := s1.toks) fun b o e => Heap.get?_push_of_some _ e, turn_rv false a _ xs.length sz, ?_, fresh, q⟩
    refine ⟨_, Heap.get?_push_size _ rfl, rfl, ?_⟩
    have e : (its.toArray.size : Int) - 1 = (xs.length : Int) - 1 - ((0 : Nat) : Int) := by rw [List.size_toArray, ← hl]; simp
    rw [e]
    rfl
end L2
namespace LE
open PySem L2 LR
def iRev (m : Bool) (as : En → Option (List Sl)) : En → Option (List D) := fun E => (as E).bind fun ss => match ss with
  | [s] => (s.it m).map List.reverse
  | _ => none
section
variable {K : PySem.W.Frag} {C : Addr} {m : Bool}
theorem s_iRev {t : TA} {ev : En → Option (List Sl)} (ha : SA K C t ev) : SI K C m (iRv K t) (iRev m ev) := by
  intro B H0 H σ E ds R I e q
  obtain ⟨ss, e1, e⟩ := bind_some e
  split at e
  · next s =>
    obtain ⟨ds1, e2, e⟩ := Option.map_eq_some_iff.mp e
    subst e
    refine ha B H0 H σ E _ _ I e1 fun vs H1 H1' s1 r1 => ?_
    obtain ⟨v, rfl, ra⟩ := r1.one
    have f := frz_step (Hs := H) s1.i
    obtain ⟨b1, a1, xs, rfl, k1, w1⟩ := held ra s1.i e2
    have hA : m = true → (if m = true then H1' else B) = H1' := fun h => if_pos h
    have sA : Same (if m = true then H1' else B) H1' := by
      split
      · exact Same.refl _
      · exact I.b.trans s1.h
    have st0 : SStep (if m = true then H1' else B) (frzH H H1 H1') (frzH H H1 H1') H1' := ⟨sA, Same.refl _, fun _ _ e => .inl e, f.i⟩
    refine ⟨b1, a1, xs, rfl, k1 _ hA _ _ st0, q _ _ _ (s1.comp f fun _ z => z) ?_⟩
    intro H0' H' st
    have q1 := k1 _ hA _ _ st
    refine ⟨fun i d e => ?_, by rw [List.length_reverse, w1.1]; rfl⟩
    have hi : i < ds1.length := by have := (List.getElem?_eq_some_iff.mp e).1; rwa [List.length_reverse] at this
    rw [List.getElem?_reverse hi, ← w1.1] at e
    obtain ⟨x, x1, x2⟩ := w1.get e
    refine ⟨⟨by rw [w1.1]; exact hi, xs, q1, rfl⟩, ?_⟩
    rintro z H2 ⟨rfl, hv⟩
    have h1 := hv xs q1
    rw [x1] at h1; cases h1
    exact ⟨H0', .refl st.i, x2.mono st.z⟩
  · cases e
end
end LE

namespace PySem
open AutoSeq1 (wpAny_loadPart')
section
variable {prog : Program} {w : World} {A : Around} {E : Value → Shared → Prop} {s : Shared} {b : Bool} {a e it : Addr} {xs : Array Value}
end
end PySem
namespace L2
open PySem PySem.Spec PyProof.Rows
end L2
namespace LE
open PySem L2 LR
def enumT (ds : List D) : List D := ds.mapIdx fun i d => .tup [.int i, d]
def iEnum (m : Bool) (as : En → Option (List Sl)) : En → Option (List D) := fun E => (as E).bind fun ss => match ss with
  | [s] => (s.it m).map enumT
  | _ => none
section
variable {K : PySem.W.Frag} {C : Addr} {m : Bool}
end
end LE

namespace L2
open PySem PySem.Spec PyProof.Rows
def sortZ (ns : List Int) : List Int := ns.mergeSort (fun a b => decide (a ≤ b))
section
variable {X : Cx}
end
end L2
namespace LE
open PySem L2 LR
def fSorted : List Sl → Option Sl
  | [s] => s.r.bind fun ds => (ints? ds).bind fun ns => if ns.length < 64 then some (.own ((sortZ ns).map .int)) else none
  | _ => none
def fIn (x y : Sl) : Option Sl := match x with
  | .sh (.int i) => y.q.bind fun ds => (ints? ds).map fun ns => .sh (.bl (decide (i ∈ ns)))
  | _ => none
def fNotIn (x y : Sl) : Option Sl := match x with
  | .sh (.int i) => y.q.bind fun ds => (ints? ds).map fun ns => .sh (.bl (!decide (i ∈ ns)))
  | _ => none
def xRem (i : Nat) (a : Ev) : Es := fun E => match E[i]? with
  | some (.own ds) => (a E).bind fun s => match s with
    | .sh (.int z) => (ints? ds).bind fun ns => if z ∈ ns then some (.nx (E.set i (.own ((ns.erase z).map .int)))) else none
    | _ => none
  | _ => none
section
variable {K : PySem.W.Frag} {C : Addr}
end
end LE

namespace PySem
namespace F
end F
section
variable {prog : Program} {w : World} {A : Around} {E : Value → Shared → Prop} {s : Shared} {l : Addr} {lo hi : Int} {t u v : Tok}
end
end PySem
namespace L2
open PySem PySem.Spec PyProof.Rows
end L2
namespace LE
open PySem L2 LR
def iRevR (as : En → Option (List Sl)) : En → Option (List D) := fun E => (as E).bind fun ss => match ss with
  | [.sh (.int a), .sh (.int b)] => if (in60 a && in60 b && decide (a ≤ b)) = true then some (rngS (b - 1) (-1) (b - a).toNat) else none
  | _ => none
section
variable {K : PySem.W.Frag} {C : Addr} {m : Bool}
end
end LE

namespace PySem
namespace F
end F
structure ZB (z TI TO i1 i2 i3 : Addr) (p1 p2 p3 : List Addr) : Prop where
  a1 : TI ≠ z
  a2 : TO ≠ z
  a3 : TI ≠ TO
  m1 : i1 ∈ p1
  m2 : i2 ∈ p2
  m3 : i3 ∈ p3
  z1 : z ∉ p1
  z2 : z ∉ p2
  z3 : z ∉ p3
  t1 : TI ∉ p1
  t2 : TI ∉ p2
  t3 : TI ∉ p3
  o1 : TO ∉ p1
  o2 : TO ∉ p2
  o3 : TO ∉ p3
  x12 : i1 ∉ p2
  x13 : i1 ∉ p3
  x21 : i2 ∉ p1
  x23 : i2 ∉ p3
  x31 : i3 ∉ p1
  x32 : i3 ∉ p2
section
variable {prog : Program} {w : World} {A : Around} {E : Value → Shared → Prop} {s : Shared} {z TI TO i1 i2 i3 : Addr} {p1 p2 p3 : List Addr} {n1 n2 n3 k : Nat} {P1 P2 P3 : Nat → Value → Prop} {S1 S2 S3 : Nat → Heap → Prop}
end
end PySem

namespace PySem
section
variable {prog : Program} {w : World} {A : Around} {E : Value → Shared → Prop} {s : Shared} {b1 b2 b3 : Bool} {a1 a2 a3 : Addr} {xs ys zs : Array Value}
end
end PySem
namespace L2
open PySem PySem.Spec PyProof.Rows
end L2
namespace LE
open PySem L2 LR
def zipT3 : List D → List D → List D → List D
  | a :: as, b :: bs, c :: cs => .tup [a, b, c] :: zipT3 as bs cs
  | _, _, _ => []
def iZip3 (m : Bool) (as : En → Option (List Sl)) : En → Option (List D) := fun E => (as E).bind fun ss => match ss with
  | [s, t, u] => (s.it m).bind fun ds => (t.it m).bind fun es => (u.it m).bind fun fs => some (zipT3 ds es fs)
  | _ => none
section
variable {K : PySem.W.Frag} {C : Addr} {m : Bool}
end
end LE

namespace L2
open PySem PySem.Spec PyProof.Rows
section
variable {X : Cx}
end
end L2
namespace LE
open PySem L2 LR
def fSortedR : List Sl → Option Sl
  | [s] => s.r.bind fun ds => (ints? ds).bind fun ns => if ns.length < 64 then some (.own ((sortZ ns).reverse.map .int)) else none
  | _ => none
section
variable {K : PySem.W.Frag} {C : Addr}
end
end LE

namespace PySem

section
variable {prog : Program} {w : World} {A : Around} {R : Result → Shared → Prop} {I : Addr} {fp wr : List Addr} {n : Nat} {P : Nat → Value → Prop} {St : Nat → Heap → Prop}
end
section
variable {prog : Program} {w : World} {A : Around} {E : Value → Shared → Prop} {s : Shared} {l : Addr} {xs : Array (Int × Tok)}
end

section
variable {prog : Program} {w : World} {A : Around} {R : Result → Shared → Prop} {I : Addr} {fp wr : List Addr} {n : Nat} {P : Nat → Value → Prop} {St : Nat → Heap → Prop}
end
section
variable {prog : Program} {w : World} {A : Around} {E : Value → Shared → Prop} {s : Shared} {l : Addr} {xs : Array (Int × Tok)}
end

end PySem

namespace L2
open PySem PySem.Spec PyProof.Rows

section
variable {X : Cx}
end
section
variable {X : Cx}
end
end L2
namespace LE
open PySem L2 LR

def fMinD : List Sl → Option Sl
  | [s] => s.r.bind fun ds => (ints? ds).map fun ns => match ns.min? with
    | some m => .sh (.int m)
    | none => .sh .non
  | _ => none
def fMaxD : List Sl → Option Sl
  | [s] => s.r.bind fun ds => (ints? ds).map fun ns => match ns.max? with
    | some m => .sh (.int m)
    | none => .sh .non
  | _ => none
end LE

namespace LE
open PySem L2 LR

def look {α : Type} : List Int → List α → Int → Option α
  | k :: ks, d :: ds, n => if k = n then some d else look ks ds n
  | _, _, _ => none
def hasK (ks : List Int) (n : Int) : Bool := ks.any fun k => decide (k = n)
def putKs (ks : List Int) (n : Int) : List Int := if hasK ks n = true then ks else ks ++ [n]
def setK {α : Type} : List Int → List α → Int → α → List α
  | k :: ks, d :: ds, n, v => (if k = n then v else d) :: setK ks ds n v
  | _, ds, _, _ => ds
def putDs {α : Type} (ks : List Int) (ds : List α) (n : Int) (v : α) : List α := if hasK ks n = true then setK ks ds n v else ds ++ [v]
section
variable {K : PySem.W.Frag} {C : Addr} {Hs H0 H : Hp}
theorem RDL.look : ∀ {ks : List Int} {xs : List V} {ds : List D} {n : Int}, RDL K C H xs ds → (LE.look ks xs n = none ∧ LE.look ks ds n = none) ∨ ∃ x d, LE.look ks xs n = some x ∧ LE.look ks ds n = some d ∧ RD K C H x d
  | [], _, _, _, _ => .inl ⟨rfl, rfl⟩
  | _ :: _, [], [], _, _ => .inl ⟨rfl, rfl⟩
  | _ :: _, [], _ :: _, _, h => by have := h.1; simp at this
  | _ :: _, _ :: _, [], _, h => by have := h.1; simp at this
  | k :: ks, x :: xs, d :: ds, n, h => by
    simp only [LE.look]
    by_cases e : k = n
    · rw [if_pos e, if_pos e]; exact .inr ⟨x, d, rfl, rfl, h.head⟩
    · rw [if_neg e, if_neg e]; exact RDL.look h.tail
theorem RDL.setK {n : Int} {v : V} {e : D} (r : RD K C H v e) : ∀ {ks : List Int} {xs : List V} {ds : List D}, RDL K C H xs ds → RDL K C H (LE.setK ks xs n v) (LE.setK ks ds n e)
  | [], _, _, h => h
  | _ :: _, [], [], _ => .nil
  | _ :: _, [], _ :: _, h => by have := h.1; simp at this
  | _ :: _, _ :: _, [], h => by have := h.1; simp at this
  | k :: ks, x :: xs, d :: ds, h => by
    simp only [LE.setK]
    refine .cons ?_ (RDL.setK r h.tail)
    split
    · exact r
    · exact h.head
theorem RDL.putDs {n : Int} {v : V} {e : D} {ks : List Int} {xs : List V} {ds : List D} (h : RDL K C H xs ds) (r : RD K C H v e) : RDL K C H (LE.putDs ks xs n v) (LE.putDs ks ds n e) := by
  unfold LE.putDs
  split
  · exact RDL.setK r h
  · exact h.snoc r
end
def Sl.dk : Sl → Option (List Int × List D)
  | .sh (.dct ks ds) => some (ks, ds)
  | .sh (.dfz ks ds) => some (ks, ds)
  | .bd ks ds => some (ks, ds)
  | .od ks ds => some (ks, ds)
  | _ => none
def int? : Sl → Option Int
  | .sh (.int i) => some i
  | _ => none
def eDict : Ev := fun _ => some (.od [] [])
def eDIx (a k : Ev) : Ev := fun E => (a E).bind fun s => s.dk.bind fun p => ((k E).bind int?).bind fun n => (look p.1 p.2 n).map .sh
def eDGet1 (a k : Ev) : Ev := fun E => (a E).bind fun s => s.dk.bind fun p => ((k E).bind int?).bind fun n => some (.sh ((look p.1 p.2 n).getD .non))
def eDGet2 (a k x : Ev) : Ev := fun E => (a E).bind fun s => s.dk.bind fun p => ((k E).bind int?).bind fun n => ((x E).bind sh?).bind fun d => some (.sh ((look p.1 p.2 n).getD d))
def eDIn (k a : Ev) : Ev := fun E => ((k E).bind int?).bind fun n => (a E).bind fun s => s.dk.bind fun p => some (.sh (.bl (look p.1 p.2 n).isSome))
def eDNotIn (k a : Ev) : Ev := fun E => ((k E).bind int?).bind fun n => (a E).bind fun s => s.dk.bind fun p => some (.sh (.bl (!(look p.1 p.2 n).isSome)))
def xDPut (i : Nat) (k a : Ev) : Es := fun E => match E[i]? with
  | some (.od ks ds) => (a E).bind fun s => s.frz.bind fun d => ((k E).bind int?).bind fun n => if ks.length < sizeLine then some (.nx (E.set i (.od (putKs ks n) (putDs ks ds n d)))) else none
  | _ => none
section
variable {K : PySem.W.Frag} {C : Addr} {Hs H0 H : Hp} {td ty tx te : TE} {ed ek ex ea : Ev}
theorem RR.dk {v : V} {s : Sl} {p : List Int × List D} (r : RR K C Hs H0 H v s) (i : Same H0 H) (e : s.dk = some p) : ∃ l xs, v = .ref l ∧ Rd H l (dkO p.1 xs) ∧ p.1.length = p.2.length ∧ RDL K C H0 xs p.2 := by
  cases s with
  | bd ks ds => cases e; obtain ⟨l, xs, h1, h2, h3⟩ := r; exact ⟨l, xs, h1, .inl h2, h3⟩
  | od ks ds => cases e; obtain ⟨l, xs, h1, h2, _, _, h3⟩ := r; exact ⟨l, xs, h1, .inl h2, h3⟩
  | sh d => cases d with
    | dct ks ds => cases e; obtain ⟨l, xs, h1, h2, h3⟩ := RD.dctI r; exact ⟨l, xs, h1, .inl (i _ _ h2), h3⟩
    | dfz ks ds => cases e; obtain ⟨l, xs, o, h1, h2, h3⟩ := RD.dfzI r; exact ⟨l, xs, h1, .inr ⟨o, i _ _ h2⟩, h3⟩
    | _ => cases e
  | _ => cases e
end

section
variable {K : PySem.W.Frag} {C : Addr} {H : Hp}
theorem RDL.rep {xs : List V} {ds : List D} (r : RDL K C H xs ds) : ∀ k : Nat, RDL K C H (List.replicate k xs).flatten (List.replicate k ds).flatten
  | 0 => .nil
  | k + 1 => by
    rw [List.replicate_succ, List.replicate_succ, List.flatten_cons, List.flatten_cons]
    exact r.append (RDL.rep r k)
end
end LE

namespace L2
open PySem PySem.Spec PyProof.Rows
theorem KV.get {κ : Type} : ∀ {kvs : List (κ × V)} {vs : List (κ × Value)} {i : Nat} {p : κ × V}, KV kvs vs → kvs[i]? = some p → ∃ u, vs[i]? = some (p.1, u) ∧ RelV p.2 u
  | _, _, 0, p, .cons h _, e => by
    simp at e; subst e
    obtain ⟨h1, h2⟩ := h
    rename_i q _ _
    exact ⟨_, by simp; exact Prod.ext h1.symm rfl, h2⟩
  | _, _, i + 1, p, .cons _ t, e => by
    obtain ⟨u, h1, h2⟩ := KV.get (i := i) t (by simpa using e)
    exact ⟨u, by simpa using h1, h2⟩
  | _, _, _, _, .nil, e => by simp at e
end L2
namespace LE
open PySem L2 LR
def xFrzD (i : Nat) (b : Es) : Es := fun E => match E[i]? with
  | some (.od ks ds) => b (E.set i (.sh (.dfz ks ds)))
  | _ => none
def itmT : List Int → List D → List D := List.zipWith fun k d => .tup [.int k, d]
def iItems (a : Ev) : En → Option (List D) := fun E => (a E).bind fun s => match s with
  | .sh (.dfz ks ds) => some (itmT ks ds)
  | _ => none
section
variable {K : PySem.W.Frag} {C : Addr} {m : Bool} {t : TS} {et : Es} {td : TE} {ed : Ev}
end
end LE

namespace L2
open PySem PySem.Spec PyProof.Rows
section
variable {prog : Program} {w : World} {A : Around} {E : Value → Shared → Prop} {s : Shared} {T : String} {r d : Addr} {n : Nat} {P : Nat → Value → Prop} {OK : Heap → Prop}
end
end L2
namespace LE
open PySem L2 LR
def eSortK (a : Ev) : Ev := fun E => (a E).bind fun s => s.dk.bind fun p => if p.1.length < 64 then some (.own ((sortZ p.1).map .int)) else none
def eListK (a : Ev) : Ev := fun E => (a E).bind fun s => s.dk.bind fun p => some (.own (p.1.map .int))
def fInt : List Sl → Option Sl
  | [.sh (.int i)] => some (.sh (.int i))
  | [.sh (.bl b)] => some (.sh (.int (if b then 1 else 0)))
  | _ => none
section
variable {K : PySem.W.Frag} {C : Addr} {td : TE} {ed : Ev}
theorem Rd.put {H : Hp} {l p : Addr} {o u : HO} (h : Rd H l o) (hp : H p = none) : Rd (upd H p u) l o := by
  rcases h with h | ⟨ob, h⟩
  · exact .inl (by rw [upd_ne (ne_of_none h hp)]; exact h)
  · exact .inr ⟨ob, by rw [upd_ne (ne_of_none h hp)]; exact h⟩
end
end LE

namespace L2
open PySem PySem.Spec PyProof.Rows
theorem Inv.more {X : Cx} {pins : List (Addr × Obj)} {σ : St} {H H' : Hp} {s : Shared} {h' : Heap} {t' : Nat} (I : Inv X pins σ H s) (k : ∀ b u, s.heap.get? b = some u → h'.get? b = some u) (hx : ∀ b, b < s.heap.objs.size → H' b = H b)
    (new : ∀ b o, s.heap.objs.size ≤ b → H' b = some o → ObjOk X.prog X.w H' h' b o) : Inv X pins σ H' { s with heap := h', toks := t' } := by
  have old : ∀ b o, H b = some o → H' b = some o := fun b o e => by rw [hx b (I.hok.lt e)]; exact e
  refine I.un ⟨fun b u q _ _ _ => k b u q, fun b u q _ _ _ => ⟨u.slots, k b u q⟩, fun b u q n _ => by rw [hx b (Heap.lt_size q)]; exact n, fun b u q _ => ⟨u, k b u q⟩, fun b xs q => old b _ q, fun b u xs q => old b _ q, fun b ps q => ⟨#[], by rw [old b _ q]; simp⟩⟩ fun b o e => ?_
  rcases Nat.lt_or_ge b s.heap.objs.size with z | z
  · rw [hx b z] at e
    exact (I.hok b o e).stay (fun c u _ q => k c u q) (fun c q => old c _ q) fun c xs q => old c _ q
  · exact new b o z e
end L2
namespace LE
open PySem L2 LR
def eItemsL (a : Ev) : Ev := fun E => (a E).bind fun s => s.dk.bind fun p => some (.own (itmT p.1 p.2))
def xClr (i : Nat) : Es := fun E => match E[i]? with
  | some (.own _) => some (.nx (E.set i (.own [])))
  | _ => none
section
variable {K : PySem.W.Frag} {C : Addr} {td : TE} {ed : Ev}
theorem RDL.items : ∀ {ks : List Int} {xs : List V} {ds : List D} {as : List Addr} {H : Hp}, ks.length = ds.length → as.length = ks.length → (∀ (j : Nat) (a : Addr) (k : Int) (x : V), as[j]? = some a → ks[j]? = some k → xs[j]? = some x → H a = some (.tup [.int k, x])) → RDL K C H xs ds → RDL K C H (as.map V.ref) (itmT ks ds)
  | [], [], [], [], _, _, _, _, _ => .nil
  | [], _, _, a :: as, _, _, h, _, _ => by simp at h
  | [], _, d :: ds, _, _, h, _, _, _ => by simp at h
  | k :: ks, _, [], _, _, h, _, _, _ => by simp at h
  | k :: ks, _, _, [], _, _, h, _, _ => by simp at h
  | [], x :: xs, [], [], _, _, _, _, h => by have := h.1; simp at this
  | k :: ks, [], d :: ds, a :: as, _, _, _, _, h => by have := h.1; simp at this
  | k :: ks, x :: xs, d :: ds, a :: as, H, h1, h2, h3, h4 => by
    show RDL K C H (V.ref a :: as.map V.ref) (.tup [.int k, d] :: itmT ks ds)
    refine .cons (.mkT (.of (h3 0 a k x rfl rfl rfl)) (.cons (.int k) (.cons h4.head .nil))) (RDL.items (by simpa using h1) (by simpa using h2) (fun j a k x e1 e2 e3 => h3 (j + 1) a k x (by simpa using e1) (by simpa using e2) (by simpa using e3)) h4.tail)
end
end LE

namespace L2
open PySem PySem.Spec PyProof.Rows
def wo : List Addr → Heap → Heap
  | [], h => h
  | a :: l, h => (wo l h).update a fun _ => { cls := .none, data := .freed }
theorem upd_freed (h : Heap) (a : Addr) : (h.update a fun _ => { cls := .none, data := .freed }).get? a = none := by
  cases q : (h.update a fun _ => ({ cls := .none, data := .freed } : Obj)).get? a with
  | none => rfl
  | some o =>
    obtain ⟨e, f⟩ := Heap.get?_some_iff.mp q
    obtain ⟨os, l⟩ := h
    simp only [Heap.update, Array.getElem?_modify, if_true] at e
    cases z : os[a]? with
    | none => rw [z] at e; cases e
    | some u => rw [z] at e; cases e; cases f
theorem wo_in {h : Heap} {b : Addr} : ∀ {l : List Addr}, b ∈ l → (wo l h).get? b = none
  | [], hb => nomatch hb
  | a :: l, hb => by
    unfold wo
    by_cases e : a = b
    · subst e; exact upd_freed _ _
    · rw [Heap.get?_update_other _ _ e]
      exact wo_in ((List.mem_cons.mp hb).resolve_left (Ne.symm e))
theorem wo_out {h : Heap} {b : Addr} : ∀ {l : List Addr}, b ∉ l → (wo l h).get? b = h.get? b
  | [], _ => rfl
  | a :: l, hb => by
    unfold wo
    rw [Heap.get?_update_other _ _ (fun e => hb (by rw [e]; exact List.mem_cons_self))]
    exact wo_out fun z => hb (List.mem_cons_of_mem _ z)
theorem ff_base {h base base' : Heap} : ∀ {l : List Env}, h.FunFrames base l → (∀ b ∈ frs l, base'.get? b = none) → h.FunFrames base' l
  | [], _, _ => trivial
  | env :: l, ⟨hk, ⟨L, o, hf, hn, ho, hd⟩, hr⟩, n => by
    have e : frs (env :: l) = L :: frs l := by unfold frs; rw [List.filterMap_cons, hf]
    rw [e] at n
    exact ⟨hk, ⟨L, o, hf, n L List.mem_cons_self, ho, hd⟩, ff_base hr fun b hb => n b (List.mem_cons_of_mem _ hb)⟩
theorem ff_none {h base : Heap} {l : List Env} (x : h.FunFrames base l) {b : Addr} (hb : b ∈ frs l) : base.get? b = none ∧ ∃ o, h.get? b = some o ∧ ∀ vs, o.data ≠ .fields vs := x.mem hb
theorem ObjOk.there {P : Program} {w : World} {H : Hp} {h : Heap} {a : Addr} {o : HO} (x : ObjOk P w H h a o) : ∃ u, h.get? a = some u := by
  cases o with
  | lst xs => obtain ⟨_, _, _, _, e⟩ := x; exact ⟨_, e⟩
  | tup xs => obtain ⟨_, _, _, p⟩ := x; obtain ⟨o, e, _⟩ := p; exact ⟨_, e⟩
  | dK kvs => obtain ⟨_, _, _, _, o, _, _, e, _⟩ := x; exact ⟨_, e⟩
  | dT kvs => obtain ⟨_, _, _, _, o, _, _, e, _⟩ := x; exact ⟨_, e⟩
  | set S n => obtain ⟨o, _, _, _, e, _⟩ := x; exact ⟨_, e⟩
  | ins C dx fs => obtain ⟨_, _, _, e, _⟩ := x; exact ⟨_, e⟩
  | own y => obtain ⟨_, e⟩ := x; exact ⟨_, e⟩
  | xd fs => obtain ⟨_, ⟨_, _, _, e, _⟩, _⟩ := x; exact ⟨_, e⟩
  | rng lo hi => obtain ⟨_, _, _, e⟩ := x; exact ⟨_, e⟩
  | frz ob u => obtain ⟨e, _⟩ := x; exact ⟨_, e⟩
  | tbl ps => exact ⟨_, (show h.get? a = some _ from x)⟩
  | met f y => exact ⟨_, (show h.get? a = some _ from x)⟩
  | ext φ => obtain ⟨_, ⟨_, e⟩, _⟩ := x; exact ⟨_, e⟩

def TrD (h base : Heap) (e : Addr) (cls : Value) (dct : Option Addr) (fl : Value) : Prop :=
  ∃ oe vs T oT ts, h.get? e = some oe ∧ (oe.cls = cls ∧ oe.dict = dct) ∧ oe.data = .fields vs ∧ vs[1]? = some (.ref T) ∧ base.get? T = none ∧ T ≠ e ∧ h.get? T = some oT ∧ oT.data = .fields ts ∧ ts[3]? = some fl
def Fl (base : Heap) (l : List Env) (e : Addr) (cls : Value) (h : Heap) : Prop :=
  base.StaysIn h ∧ base.get? e = none ∧ h.FunFrames base l ∧ (TrD h base e cls none .none ∨ ∃ oe vs, h.get? e = some oe ∧ (oe.cls = cls ∧ oe.dict = none) ∧ oe.data = .fields vs ∧ vs[1]? = some .none)
def Cov (fs : List Addr) (H' : Hp) (h h' base : Heap) : Prop := ∀ b o, (H' b ≠ none ∨ ∃ u, h.get? b = some u) → b ∉ fs → h'.get? b = some o → base.get? b = some o
structure XF (P : Program) (w : World) (l : List Env) (H : Hp) (h : Heap) (a : Addr) (cls : Value) (H' : Hp) (base h' : Heap) : Prop where
  un : Un (frs l) [] H H' h h'
  hok : HOk P w H' h'
  fl : Fl base l a cls h'
  cov : Cov (frs l) H' h h' base
  free : H' a = none
  new : h.get? a = none
def CX1 (P : Program) (w : World) : CXT := fun l H s E e s' => ∃ (a : Addr) (cls : Value) (H' : Hp) (base : Heap), e = .ref a ∧ s'.os = s.os ∧ AllBare s'.gens ∧ XF P w l H s.heap a cls H' base s'.heap ∧ E cls (some a) H'
section
variable {P : Program} {w : World} {l : List Env} {H H' : Hp} {h h1 h2 base base0 : Heap} {a : Addr} {cls : Value}
theorem XF.on (x : XF P w l H h a cls H' base h1) (hf : h.FunFrames base0 l) (hn : ∀ b ∈ frs l, H b = none) (k : base.StaysIn h2) (us : h1.UpToSlots h2) (fl : Fl base l a cls h2) : XF P w l H h a cls H' base h2 := by
  have ff : ∀ b ∈ frs l, ∃ o, h1.get? b = some o ∧ ∀ vs, o.data ≠ .fields vs := fun b hb => (ff_none x.fl.2.2.1 hb).2
  have nfr : ∀ b u, H' b = some u → b ∉ frs l := fun b u e hb => by
    obtain ⟨_, o, ho, _⟩ := ff_none hf hb
    rw [x.un.free b o ho (hn b hb) (by simp)] at e; cases e
  refine ⟨⟨fun b o q n hb hx => ?_, fun b o q n hb hx => ?_, x.un.free, fun b o q hx => ?_, x.un.tups, x.un.frzs, x.un.tbls⟩, fun b u e => ?_, fl, fun b o hb hfr q => ?_, x.free, x.new⟩
  · exact k b o (x.cov b o (.inr ⟨_, q⟩) hb (x.un.keep b o q n hb hx))
  · obtain ⟨sl, e1⟩ := x.un.slot b o q n hb hx
    obtain ⟨o', e2, nf⟩ := ff b hb
    rw [e1] at e2; cases e2
    obtain ⟨sl', e3⟩ := us b _ e1 nf
    exact ⟨sl', e3⟩
  · obtain ⟨o', e1⟩ := x.un.there b o q hx
    by_cases hb : b ∈ frs l
    · obtain ⟨o2, e2, nf⟩ := ff b hb
      obtain ⟨sl', e3⟩ := us b _ e2 nf
      exact ⟨_, e3⟩
    · exact ⟨o', k b o' (x.cov b o' (.inr ⟨_, q⟩) hb e1)⟩
  · refine (x.hok b u e).stay (fun c v hc q => ?_) (fun _ z => z) fun _ _ z => z
    have tr : ∃ u', H' c = some u' := by
      rcases hc with rfl | hc
      · exact ⟨_, e⟩
      · exact ⟨_, hc⟩
    obtain ⟨u', e'⟩ := tr
    exact k c v (x.cov c v (.inl (by rw [e']; intro z; cases z)) (nfr c u' e') q)
  · have ex : ∃ o', h1.get? b = some o' := by
      rcases hb with hb | ⟨u, hb⟩
      · cases e : H' b with
        | none => exact absurd e hb
        | some u => exact (x.hok b u e).there
      · exact x.un.there b u hb (by simp)
    obtain ⟨o', e1⟩ := ex
    have e2 := x.cov b o' hb hfr e1
    have e3 := k b o' e2
    rw [q] at e3; cases e3
    exact e2
end
theorem mf_dict (o : Obj) (f : Array Value → Array Value) : (o.mapFields f).dict = o.dict := by
  obtain ⟨c, d, dt, sl⟩ := o
  cases dt <;> rfl
section
variable {M : Model} {A : Around} {E : Value → Shared → Prop} {s : Shared} {base : Heap} {env : Env} {outer l : List Env} {L e : Addr} {cls fl : Value} {dct : Option Addr} {Q : Unit → Shared → Prop}
theorem entryD {oe : Obj} {vs : Array Value} {head : Value} {had : Bool} (hfr : A.frames = some (env :: outer)) (hl : s.heap.FunFrames base (env :: outer)) (hf : env.frame = some L)
    (he : s.heap.get? e = some oe) (hkb : base.StaysIn s.heap) (hen : base.get? e = none) (hd : oe.data = .fields vs) (hsz : 1 < vs.size)
    (h : ∀ h', base.StaysIn h' → h'.FunFrames base (env :: outer) → TrD h' base e oe.cls oe.dict (rawInt L) → s.heap.UpToSlots h' → Q () { s with heap := h' }) :
    wpAny M A (do let a ← frameOf env; let pl ← entryPlaceOf L had; let b ← EntryCells.newEntry head a .none (rawInt L) .none pl; setField (.ref e) 1 b) Q E s := by
  refine wpAny_bind (wpAny_frameOf_fun hfr hl hf fun h₁ hs₁ => wpAny_bind (wpAny_entryPlaceOf fun pl hpl => ?_))
  unfold EntryCells.newEntry newFields
  refine wpAny_bind (wpAny_newObj_type ?_ (hpl.sizeOk5 _ _ _ _ _))
  have ne : e ∉ (env :: outer).filterMap (·.frame) := fun hm => by
    obtain ⟨_, o, ho, nf⟩ := hl.mem hm
    rw [he] at ho; cases ho; exact nf vs hd
  have e1 : h₁.get? e = some oe := (hs₁.2.1 e ne).trans he
  have b1 : base.StaysIn h₁ := fun b o hb => (hs₁.2.1 b fun hm => by rw [(hl.mem hm).1] at hb; cases hb).trans (hkb b o hb)
  generalize hot : ({ cls := .type "traceback", dict := none, data := .fields ([head, .ref L, .none, rawInt L, .none] ++ (if pl.isEmpty then List.replicate 6 Value.none else pl)).toArray } : Obj) = ot
  have hotd : ot.data = .fields ([head, .ref L, .none, rawInt L, .none] ++ (if pl.isEmpty then List.replicate 6 Value.none else pl)).toArray := by rw [← hot]
  have hotf : ot.isFreed = false := by rw [← hot]; rfl
  have e2 := Heap.get?_push_of_some (h := h₁) ot e1
  refine wpAny_setField e2 hd hsz ?_
  have d3 := Obj.data_mapFields hd (·.setIfInBounds 1 (Value.ref h₁.objs.size))
  have e3 := Heap.get?_update_self (Obj.mapFields (·.setIfInBounds 1 (Value.ref h₁.objs.size))) e2 (Obj.isFreed_of_fields d3)
  have tne : h₁.objs.size ≠ e := Nat.ne_of_gt (Heap.lt_size e1)
  have t3 := (Heap.get?_update_other (h₁.push ot) (Obj.mapFields (·.setIfInBounds 1 (Value.ref h₁.objs.size))) (Ne.symm tne)).trans (Heap.get?_push_size h₁ hotf)
  have keep : ∀ b o, b ≠ e → h₁.get? b = some o → ((h₁.push ot).update e (Obj.mapFields (·.setIfInBounds 1 (Value.ref h₁.objs.size)))).get? b = some o := fun b o hb q => by
    rw [Heap.get?_update_other _ _ (Ne.symm hb)]; exact Heap.get?_push_of_some _ q
  have nrec : ∀ b o, s.heap.get? b = some o → (∀ ws, o.data ≠ .fields ws) → b ≠ e := fun b o hb nf z => by
    rw [z, he] at hb; cases hb; exact nf vs hd
  refine h _ (fun b o hb => keep b o (fun z => by rw [z, hen] at hb; cases hb) (b1 b o hb)) (hl.of_keeps fun b o hb nf => ?_) ⟨_, _, h₁.objs.size, _, _, e3, ⟨Obj.cls_mapFields _ _, mf_dict _ _⟩, d3, by simp [hsz], b1.fresh, tne, t3, hotd, by first | (simp; done) | (rcases hpl with rfl | ⟨_, _, _, _, _, _, _, rfl⟩ <;> simp)⟩ fun b o hb nf => ?_
  · obtain ⟨sl, hs⟩ := hs₁.2.2 b o hb
    exact ⟨_, keep b _ (nrec b o hb nf) hs, rfl⟩
  · obtain ⟨sl, hs⟩ := hs₁.2.2 b o hb
    exact ⟨sl, keep b _ (nrec b o hb nf) hs⟩
theorem flightD (hkb : base.StaysIn s.heap) (hl : s.heap.FunFrames base l) (ht : TrD s.heap base e cls dct fl)
    (h : ∀ h', base.StaysIn h' → h'.FunFrames base l → TrD h' base e cls dct .none → s.heap.UpToSlots h' → Q () { s with heap := h' }) : wpAny M A (setFlight (.ref e) none) Q E s := by
  obtain ⟨oe, vs, T, oT, ts, he, hc, hd, h1, nT, hTe, hT, dT, h3⟩ := ht
  have sz : 3 < ts.size := (Array.getElem?_eq_some_iff.mp h3).1
  unfold setFlight
  refine wpAny_bind (wpAny_field he hd h1 ?_)
  rw [if_pos (show (Value.ref T != Value.none) = true from by simp)]
  have other : ∀ b, b ≠ T → (s.heap.update T (Obj.mapFields (·.setIfInBounds 3 ((none : Option Addr).elim Value.none fun f => rawInt f)))).get? b = s.heap.get? b := fun b hb => Heap.get?_update_other _ _ (Ne.symm hb)
  have nrec : ∀ b o, s.heap.get? b = some o → (∀ ws, o.data ≠ .fields ws) → b ≠ T := fun b o hb nf z => by
    rw [z, hT] at hb; cases hb; exact nf ts dT
  refine wpAny_setField hT dT sz (h _ (fun b o hb => (other b fun z => by rw [z, nT] at hb; cases hb).trans (hkb b o hb)) (hl.of_keeps fun b o hb nf => ⟨o, (other b (nrec b o hb nf)).trans hb, rfl⟩) ?_ fun b o hb nf => ⟨o.slots, (other b (nrec b o hb nf)).trans hb⟩)
  exact ⟨oe, vs, T, _, _, (other e (Ne.symm hTe)).trans he, hc, hd, h1, nT, hTe, Heap.get?_update_self _ hT (Obj.isFreed_of_fields (Obj.data_mapFields dT _)), Obj.data_mapFields dT _, by simp [sz]⟩
theorem fl_note (hfr : A.frames = some (env :: outer)) (hf : env.frame = some L) (x : Fl base (env :: outer) e cls s.heap)
    (hQ : ∀ h', base.StaysIn h' → h'.FunFrames base (env :: outer) → TrD h' base e cls none (rawInt L) → s.heap.UpToSlots h' → Q () { s with heap := h' }) : wpAny M A (noteFrame (.ref e) env) Q E s := by
  obtain ⟨k1, k2, k3, tr | ⟨oe, vs, he, hc, hd, h1⟩⟩ := x
  · obtain ⟨oe, vs, T, oT, ts, he, hc, hd, h1, nT, hTe, hT, dT, h3⟩ := tr
    unfold noteFrame
    simp only [hf]
    refine wpAny_bind (wpAny_field he hd h1 ?_)
    rw [if_pos (show (Value.ref T != Value.none) = true from by simp)]
    refine wpAny_bind (wpAny_field hT dT h3 ?_)
    rw [if_neg (show ¬ ((Value.none == rawInt L) = true) from by simp [rawInt])]
    refine wpAny_bind (wpAny_setField hT dT (Array.getElem?_eq_some_iff.mp h3).1 ?_)
    have other : ∀ b, b ≠ T → (s.heap.update T (Obj.mapFields (·.setIfInBounds 3 Value.none))).get? b = s.heap.get? b := fun b hb => Heap.get?_update_other _ _ (Ne.symm hb)
    have nrec : ∀ b o, s.heap.get? b = some o → (∀ ws, o.data ≠ .fields ws) → b ≠ T := fun b o hb nf z => by
      rw [z, hT] at hb; cases hb; exact nf ts dT
    refine entryD hfr (k3.of_keeps fun b o hb nf => ⟨o, (other b (nrec b o hb nf)).trans hb, rfl⟩) hf ((other e (Ne.symm hTe)).trans he)
      (fun b o hb => (other b fun z => by rw [z, nT] at hb; cases hb).trans (k1 b o hb)) k2 hd (Array.getElem?_eq_some_iff.mp h1).1 fun h' x1 x2 x3 x4 => ?_
    rw [hc.1, hc.2] at x3
    exact hQ h' x1 x2 x3 fun b o hb nf => x4 b o ((other b (nrec b o hb nf)).trans hb) nf
  · unfold noteFrame
    simp only [hf]
    refine wpAny_bind (wpAny_field he hd h1 ?_)
    rw [if_neg (by decide)]
    refine entryD hfr k3 hf he k1 k2 hd (Array.getElem?_eq_some_iff.mp h1).1 fun h' x1 x2 x3 x4 => ?_
    rw [hc.1, hc.2] at x3
    exact hQ h' x1 x2 x3 x4
theorem fl_leave (hfr : A.frames = some (env :: outer)) (hf : env.frame = some L) (x : Fl base (env :: outer) e cls s.heap)
    (hQ : ∀ h', Fl base (env :: outer) e cls h' → Fl base outer e cls h' → s.heap.UpToSlots h' → Q () { s with heap := h' }) : wpAny M A (leaving env (.ref e)) Q E s := by
  have k2 := x.2.1
  unfold leaving
  refine wpAny_bind (fl_note hfr hf x fun h1 x1 x2 x3 x4 => ?_)
  refine flightD (s := { s with heap := h1 }) x1 x2 x3 fun h2 y1 y2 y3 y4 => ?_
  exact hQ h2 ⟨y1, k2, y2, .inl y3⟩ ⟨y1, k2, y2.2.2, .inl y3⟩ (x4.trans y4)
end

def XP (X : Cx) (pins : List (Addr × Obj)) (σ : St) (E : XK) (e : Value) (s' : Shared) : Prop := ∃ H s, Inv X pins σ H s ∧ CX1 X.prog X.w X.stack H s E e s'
section
variable {X : Cx} {pins : List (Addr × Obj)} {σ : St} {H H' : Hp} {s s' : Shared} {base : Heap} {a : Addr} {cls : Value} {E : XK} {e : Value}
theorem Inv.fly (I : Inv X pins σ H s) (ho : s'.os = s.os) (hg : AllBare s'.gens) (x : XF X.prog X.w X.stack H s.heap a cls H' base s'.heap) : Inv X pins σ H' s' := I.call' ho x.un x.hok hg fun b hb => nomatch hb
theorem XP.made {args : List Value} {h' : Heap} {ea : Addr} (I : Inv X pins σ H s) (m : Heap.MadeExcOf s.heap h' ea cls args) (q : E cls (some ea) H) : XP X pins σ E (.ref ea) { s with heap := h' } := by
  have nf : ∀ b ∈ frs X.stack, ∃ o, s.heap.get? b = some o := fun b hb => by obtain ⟨_, o, ho, _⟩ := ff_none I.stack hb; exact ⟨o, ho⟩
  obtain ⟨t, ht, _, _⟩ := m.there
  refine ⟨H, s, I, ea, cls, H, wo (frs X.stack) s.heap, rfl, rfl, I.bare, ⟨⟨fun b o q _ _ _ => m.keeps b o q, fun b o q _ _ _ => ⟨o.slots, m.keeps b o q⟩, fun _ _ _ n _ => n, fun b o q _ => ⟨o, m.keeps b o q⟩, fun _ _ z => z, fun _ _ _ z => z, fun b ps z => ⟨#[], by rw [z]; simp⟩⟩, I.hok.kept m.keeps, ⟨fun b o q => ?_, ?_, ?_, .inr ⟨_, _, ht, ⟨rfl, rfl⟩, rfl, rfl⟩⟩, fun b o hb hfr q => ?_, ?_, m.new⟩, q⟩
  · by_cases hb : b ∈ frs X.stack
    · rw [wo_in hb] at q; cases q
    · rw [wo_out hb] at q; exact m.keeps b o q
  · by_cases hb : ea ∈ frs X.stack
    · exact wo_in hb
    · rw [wo_out hb]; exact m.new
  · exact (ff_base I.stack fun b hb => wo_in hb).of_keeps fun b o q _ => ⟨o, m.keeps b o q, rfl⟩
  · rw [wo_out hfr]
    have ex : ∃ u, s.heap.get? b = some u := by
      rcases hb with hb | hb
      · cases e : H b with
        | none => exact absurd e hb
        | some u => exact (I.hok b u e).there
      · exact hb
    obtain ⟨u, hu⟩ := ex
    have := m.keeps b u hu
    have q' : h'.get? b = some o := q
    rw [q'] at this; cases this
    exact hu
  · cases e : H ea with
    | none => rfl
    | some u =>
      obtain ⟨o, ho⟩ := (I.hok ea u e).there
      rw [m.new] at ho; cases ho
theorem XP.leave {M : Model} {E' : Value → Shared → Prop} {A : Around} (hA : A.frames = some X.stack) (hs : X.stack = X.env :: X.outer) (hf : X.env.frame = some X.env.locals) (hx : X.ex = []) (x : XP X pins σ E e s') :
    wpAny M A (leaving X.env e) (fun _ s'' => CX1 X.prog X.w X.outer X.H₀ X.s₀ E e s'') E' s' := by
  obtain ⟨H, s, I, a, cls, H', base, rfl, ho, hg, xf, q⟩ := x
  have fl := xf.fl
  rw [hs] at fl hA
  refine fl_leave hA hf fl fun h' f1 f2 us => ?_
  have y := xf.on I.stack I.stkFree f1.1 us (by rw [hs]; exact f1)
  have J : Inv X pins σ H' { s' with heap := h' } := I.fly ho hg y
  have hfs : frs X.stack = X.env.locals :: frs X.outer := by rw [hs]; unfold frs; rw [List.filterMap_cons, hf]
  have nl : ∀ b o, X.s₀.heap.get? b = some o → b ≠ X.env.locals := fun b o q z => by
    have h1 := Heap.lt_size q
    rw [z] at h1
    exact absurd h1 (Nat.not_lt.mpr I.ok.above)
  refine ⟨a, cls, H', base, rfl, J.os, hg, ⟨?_, J.hok, f2, fun b o hb hfr q => ?_, y.free, ?_⟩, q⟩
  · have := J.base; rw [hx] at this; exact this
  · refine y.cov b o ?_ ?_ q
    · rcases hb with hb | ⟨u, hb⟩
      · exact .inl hb
      · exact .inr (I.base.there b u hb (by rw [hx]; simp))
    · rw [hfs]
      intro z
      rcases List.mem_cons.mp z with z | z
      · rcases hb with hb | ⟨u, hb⟩
        · rw [z] at hb; exact hb J.free
        · exact nl b u hb z
      · exact hfr z
  · cases z : X.s₀.heap.get? a with
    | none => rfl
    | some u =>
      obtain ⟨o, e⟩ := I.base.there a u z (by rw [hx]; simp)
      rw [y.new] at e; cases e
end
end L2

namespace L2
open PySem PySem.Spec PyProof.Rows PySem.Calls
abbrev VEm : List Value := [.type "ValueError", .type "Exception", .type "BaseException", .type "object"]
section
variable {P : Program} {w : World} {K : PySem.W.Frag} {mg : Str → Option Value} {base : Heap} {N : List Str} {qual : Str} {scope : Scope} {f : Addr} {cd : Value} {A : Around} {outer : List Env} {s : Shared} {H : Hp} {E : XK}
def XOk (X : Cx) (E : XK) : Prop := ∀ (pins : List (Addr × Obj)) (σ : St) (e : Value) (s' : Shared), XP X pins σ E e s' → X.xe e s'
theorem xok_cx : XOk (cxOf (CX1 P w) P w K mg base N qual scope f cd A outer s H E) E := fun pins σ e s' x => by
  have hA : (A.deeper (envOfC qual scope s.heap.objs.size f cd)).frames = some (cxOf (CX1 P w) P w K mg base N qual scope f cd A outer s H E).stack := by
    obtain ⟨H1, s1, I, _⟩ := x
    exact I.ok.frames
  exact XP.leave hA rfl rfl rfl x
theorem XOk.passes {X : Cx} {E : XK} (h : XOk X E) : Passes (CX1 X.prog X.w) X E := fun pins σ H s e s' I cx => h pins σ e s' ⟨H, s, I, cx⟩
theorem Fun.okX {x qual : Str} {st : Stmt} {f : Addr} {fd : FuncData} {N ps : List Str} {k : Nat} {sp : Sp} (F : Fun K x qual st f fd) (S : FnScope N ps (defScope st)) (len : ∀ vs H Q E, sp vs H Q E → vs.length = ps.length)
    (hbody : ∀ (cdv : Value) (A : Around) (outer : List Env) (s : Shared) (H : Hp) (vs : List V) (Q : VK) (E : XK), Room k (A.deeper (envOfC qual (defScope st) s.heap.objs.size f cdv)) → sp vs H Q E →
      ∃ t, PSs (cxOf (CX1 P w) P w K mg base N qual (defScope st) f cdv A outer s H E) (defBody st) t ∧ t { nx := fun _ H' => Q .non H', rt := Q } (start N vs) H) : FnOk P w K mg base (CX1 P w) (k + 1) f fd ps sp := by
  obtain ⟨oc, od, kV, doc, pm, an, cdv, ct, osl, rfl, lk, hcd⟩ := F.ex
  exact fn_of lk hcd S len fun A outer s H vs Q E hr hsp => hbody cdv A outer s H vs Q E hr hsp
end
def tRaise (C : Addr) (E : XK) (t : TA) : TS := fun D σ H => t σ H fun vs H1 => vs.length ≤ sizeLine ∧ ∀ a, E (.ref C) (some a) H1
section
variable {X : Cx} {x : Str} {np cpos pos : Pos} {C : Addr} {E : XK} {e : Expr} {es : List Expr} {t : TA}
theorem exc_obj {K : PySem.W.Frag} {h : Heap} {bmB : List Value} {newId : String} (X : K.In h) (q : PySem.W.excIn K C bmB newId = true) : ∃ bm N nm q bs hdct sn sub ab col dd k0 k1 k2 k3 k5 mN, h.get? C = some (excClassObj nm q C N bs bm hdct sn sub ab col dd k0 k1 k2 k3 k5 newId) ∧ h.Ns N mN ∧ mN "__init__" = none ∧ OwnTail h bmB bm := by
  unfold PySem.W.excIn at q
  split at q
  · rename_i dd cd sl ho
    split at q
    · rename_i C' bm k0 k1 k2 k3 n k5 hm hs
      simp only [Bool.and_eq_true, beq_iff_eq, Bool.not_eq_true'] at q
      obtain ⟨⟨⟨⟨⟨rfl, rfl⟩, hdel⟩, ht⟩, hok⟩, hni⟩ := q
      obtain ⟨nm, bs, mro, ns, qn, hd, sn, sub, ab, col, del⟩ := cd
      dsimp only at hm hdel hok hni
      subst hm hdel
      have hsl : sl = #[k0, k1, k2, k3, some (.builtin n), k5] := by
        obtain ⟨l⟩ := sl
        simp only at hs
        rw [hs]
      subst hsl
      exact ⟨bm, ns, nm, qn, bs, hd, sn, sub, ab, col, dd, k0, k1, k2, k3, k5, _, X _ _ ho, .of_isNs (PySem.W.isNs_of_in X hok), PySem.W.nsMap_none_of_in X hok hni, PySem.W.tail_of_in X ht⟩
    · cases q
  · cases q
theorem ps_raise (ok : PySem.W.excIn X.K C VEm "ValueError.__new__" = true) (hg : Gl X x) (hm : X.mg x = some (.ref C)) (hc : X.calm = true) (hx : XOk X E) (ha : PA X (e :: es) t) (hdb : (x == ("__debug__" : Str)) = false := by decide)
    (he : starEach (e :: es) X.env = (false, eval e X.env) :: starEach es X.env := by rfl) (hpl : (backTo cpos (starEach es X.env)).any (·.1) = false := by rfl) :
    PS X (.Raise (some (.Call (.Name x np) (e :: es) [] cpos)) none pos) (tRaise C E t) := by
  intro pins s σ H D I h
  obtain ⟨tl, N, nm, q, bs, hdct, sn, sub, ab, col, dd, k0, k1, k2, k3, k5, mN, hC, hN, hni, T⟩ := exc_obj (h := X.base) I.ok.mod.kin ok
  refine wpAny_Raise_call_subU (C := C) (nm := nm) (q := q) (N := N) (bs := bs) (bm := tl) (hdct := hdct) (sn := sn) (sub := sub) (ab := ab) (col := col) (dd := dd) (k0 := k0) (k1 := k1) (k2 := k2) (k3 := k3) (k5 := k5)
    PySem.F.excBase_ValueError (by decide) PySem.F.excBase_ValueError (mN := mN) (T.hasType PySem.F.excBase_ValueError.hasBase) (I.ok.hd hc) (by rw [he]; show (false || (backTo cpos (starEach es X.env)).any (·.1)) = false; rw [hpl]; rfl) hni (ld_glob I hg hm ⟨rfl, ?_⟩ hdb)
  have h1 := ha cpos pins s σ H _ I h
  rw [he] at h1 ⊢
  refine Calls.evalArgs_plain (wpAny_mono h1 (fun us s₂ ⟨vs, H1, I1, r, hl, q⟩ => ⟨rfl, by rw [← r.length]; exact hl, I1.bk _ _ hC, hN.keeps I1.bk, T.keeps I1.bk, fun h' a m => hx pins σ _ _ (XP.made I1 m (q a))⟩) fun _ _ y => y)
end
end L2

namespace L2
open PySem PySem.Spec PyProof.Rows PySem.Calls
def XS (X : Cx) (pins : List (Addr × Obj)) (E : St → XK) (e : Value) (s' : Shared) : Prop := ∃ σ', XP X pins σ' (E σ') e s'
def PX (X : Cx) (e : Expr) (T : XK → TE) : Prop :=
  ∀ (pins : List (Addr × Obj)) (s : Shared) (σ : St) (H : Hp) (Q : VK) (E : XK), Inv X pins σ H s → T E σ H Q → wpAny (model X.prog X.w) X.A (eval e X.env) (EP X pins σ Q) (XP X pins σ E) s
def PCS (X : Cx) (st : Stmt) (T : (St → XK) → TS) : Prop :=
  ∀ (pins : List (Addr × Obj)) (s : Shared) (σ : St) (H : Hp) (D : Ends) (E : St → XK), Inv X pins σ H s → T E D σ H → wpAny (model X.prog X.w) X.A (exec st X.env) (SP X pins D) (XS X pins E) s
def PCSs (X : Cx) (st : List Stmt) (T : (St → XK) → TS) : Prop :=
  ∀ (pins : List (Addr × Obj)) (s : Shared) (σ : St) (H : Hp) (D : Ends) (E : St → XK), Inv X pins σ H s → T E D σ H → wpAny (model X.prog X.w) X.A (execs st X.env) (SP X pins D) (XS X pins E) s
structure CalX (P : Program) (w : World) (K : PySem.W.Frag) (mg : Str → Option Value) (base : Heap) (x : Str) (k : Nat) (ps : List Str) (sp : Sp) : Prop where
  ex : ∃ (f : Addr) (fd : FuncData), FnOk P w K mg base (CX1 P w) k f fd ps sp ∧ mg x = some (.ref f) ∧ PySem.W.keepIn K (.ref f) = true ∧ Binds K fd ps []
def tcDrop (T : XK → TE) : (St → XK) → TS := fun E D σ H => T (E σ) σ H fun _ H1 => D.nx σ H1
section
variable {X : Cx} {k : Nat} {C : Addr} {ps : List Str} {sp : Sp} {x : Str} {p pos : Pos} {e : Expr} {es : List Expr} {t : TA} {st : Stmt} {rest : List Stmt} {T : XK → TE} {TS1 : (St → XK) → TS} {u : TS}
theorem pe_callX {E : XK} (c : CalX X.prog X.w X.K X.mg X.base x k ps sp) (hr : Room k X.A) (hg : Gl X x) (hx : Passes (CX1 X.prog X.w) X E) (ha : PA X (e :: es) t) (hdb : (x == ("__debug__" : Str)) = false := by decide)
    (he : starEach (e :: es) X.env = (false, eval e X.env) :: starEach es X.env := by rfl) (hpl : (backTo pos (starEach es X.env)).any (·.1) = false := by rfl) : PE X (.Call (.Name x p) (e :: es) [] pos) (tCall sp [] E t) := by
  obtain ⟨f, fd, F, h1, h2, h3⟩ := c.ex
  exact pe_call F hr hg h1 h2 h3 .nil hx ha hdb he hpl
theorem px_call (c : CalX X.prog X.w X.K X.mg X.base x k ps sp) (hr : Room k X.A) (hg : Gl X x) (ha : PA X.nox (e :: es) t) (hdb : (x == ("__debug__" : Str)) = false := by decide)
    (he : starEach (e :: es) X.env = (false, eval e X.env) :: starEach es X.env := by rfl) (hpl : (backTo pos (starEach es X.env)).any (·.1) = false := by rfl) : PX X (.Call (.Name x p) (e :: es) [] pos) (fun E => tCall sp [] E t) := by
  obtain ⟨f, fd, F, h1, h2, h3⟩ := c.ex
  intro pins s σ H Q E I h
  refine wpAny_Call_Name_kw (ld_glob I hg h1 ?_ hdb)
  refine PySem.W.callWith_K (h₀ := X.base) I.ok.mod.kin h2 (wpAny_mono (ha pos pins s σ H _ (I.wish _) h) (fun us s1 ⟨vs, H1, I1, r, q⟩ => ⟨I1.unwish.kIn, ?_⟩) fun _ _ z => False.elim z) he hpl
  have I1 := I1.unwish
  have r2 : Vals (vs ++ []) (us ++ []) := r.append .nil
  have hl : (us ++ []).length = ps.length := by rw [← r2.length]; exact F.len _ _ _ _ q
  refine wpAny_call (codeAny_mono (F.run X.A X.stack s1 H1 ⟨us, []⟩ (us ++ []) (vs ++ []) Q E hr I1.env0 (h3 s1 us I1.kIn hl) r2 q) fun r s' hq => ?_)
  cases r with
  | error e => exact ⟨H1, s1, I1, hq⟩
  | ok fl =>
    cases fl with
    | ret u => exact I1.after hq
    | next => exact False.elim hq
    | brk => exact False.elim hq
    | cont => exact False.elim hq
theorem pcss_one (h : PCS X st TS1) : PCSs X [st] TS1 := by
  intro pins s σ H D E I q
  refine wpAny_execs_cons (thn (h pins s σ H D E I q) fun f s1 q => ?_)
  cases f with
  | next => exact wpAny_execs_nil q
  | ret v => exact q
  | brk => exact q
  | cont => exact q
theorem pcs_expr (he : PX X e T) (hs : swapsWith e none pos.line X.env = pure false := by rfl) : PCS X (.Expr e pos) (tcDrop T) := by
  intro pins s σ H D E I h
  exact wpAny_Expr_any (wpAny_mono (he pins s σ H _ _ I h) (fun v s1 ⟨x, H1, I1, r1, q1⟩ => ⟨σ, H1, I1, q1⟩) fun _ _ z => ⟨σ, z⟩) I.quiet hs
end
end L2
namespace L2
open PySem PySem.Spec PyProof.Rows PySem.Calls LE
abbrev Cx.hand (X : Cx) (a : Addr) : Cx := { X with A := X.A.mark (some (.ref a)), calm := false, xe := fun _ _ => False }
def tTry (K : PySem.W.Frag) (CL : Addr) (i : Nat) (T : (St → XK) → TS) (th : TS) : TS := fun D σ H => T (fun σ' c oa H' => ∃ a, oa = some a ∧ PySem.W.exmOne K c (.ref CL) = some true ∧
    (H' a = none → th { nx := fun σ2 H2 => D.nx (σ2.set i none) H2, rt := D.rt, bk := fun σ2 H2 => D.bk (σ2.set i none) H2, ct := fun σ2 H2 => D.ct (σ2.set i none) H2 } (σ'.set i (some (.ref a))) (upd H' a (XO a c)))) D σ H
section
variable {X : Cx} {pins : List (Addr × Obj)} {σ : St} {H : Hp} {s : Shared} {a : Addr}
theorem Inv.hand (I : Inv X pins σ H s) (a : Addr) : Inv (X.hand a) pins σ H s :=
  ⟨⟨I.ok.mod, I.ok.kind, I.ok.glob, I.ok.blt, I.ok.above, I.ok.inj, I.ok.has, I.ok.cab, (fun h => nomatch h), I.ok.frames, I.ok.stk, I.ok.exf, I.ok.bs, I.ok.bsz, I.ok.noex, I.ok.exfs, I.ok.funs, I.ok.frf⟩, I.os, I.bare, I.base, I.loc, I.cell, I.free, I.freeC, I.pin, I.hok, I.len⟩
theorem Inv.unhand (hd : X.calm = true → X.A.handled = none) (I : Inv (X.hand a) pins σ H s) : Inv X pins σ H s :=
  ⟨⟨I.ok.mod, I.ok.kind, I.ok.glob, I.ok.blt, I.ok.above, I.ok.inj, I.ok.has, I.ok.cab, hd, I.ok.frames, I.ok.stk, I.ok.exf, I.ok.bs, I.ok.bsz, I.ok.noex, I.ok.exfs, I.ok.funs, I.ok.frf⟩, I.os, I.bare, I.base, I.loc, I.cell, I.free, I.freeC, I.pin, I.hok, I.len⟩
theorem Inv.goes {i : Nat} {n : Str} {m : Str → Option Value} {v : Option Value} {h' : Heap} {t' : Nat} (I : Inv X pins σ H s) (hi : X.N[i]? = some n) (hn : s.heap.Ns X.env.locals m)
    (hl : ∀ (i : Nat) (x : Str) (v : V), X.N[i]? = some x → σ[i]? = some (some v) → Vis X.env.scope x → ∃ u, RelV v u ∧ Look X.env s.heap m x u) (hN : X.N.Nodup) (hn' : h'.Ns X.env.locals (fun x => if x = n then v else m x)) (hs : Heap.SameBut X.env.locals s.heap h') : Inv X pins (σ.set i none) H { s with heap := h', toks := t' } := by
  obtain ⟨oL, _, _, hoL, _⟩ := id hn
  have cne := I.cne
  have hiσ : i < σ.length := by rw [I.len]; exact (List.getElem?_eq_some_iff.mp hi).1
  refine ⟨I.ok, I.os, I.bare, ⟨fun b o e n hb hx => ?_, fun b o e n hb hx => ?_, I.base.free, fun b o e hx => ?_, I.base.tups, I.base.frzs, I.base.tbls⟩, ⟨_, hn', fun j y v' e1 e2 e3 => ?_⟩, fun y c e => ?_, I.free, I.freeC, fun p hp => ?_, fun b ob e => ?_, by simpa using I.len⟩
  · exact (hs.2 b (Nat.ne_of_lt (Nat.lt_of_lt_of_le (Heap.lt_size e) I.ok.above))).trans (I.base.keep b o e n hb hx)
  · obtain ⟨sl, e1⟩ := I.base.slot b o e n hb hx
    exact ⟨sl, (hs.2 b (Nat.ne_of_lt (Nat.lt_of_lt_of_le (Heap.lt_size e) I.ok.above))).trans e1⟩
  · obtain ⟨o', e1⟩ := I.base.there b o e hx
    exact ⟨o', (hs.2 b (Nat.ne_of_lt (Nat.lt_of_lt_of_le (Heap.lt_size e) I.ok.above))).trans e1⟩
  · by_cases hj : j = i
    · subst hj
      rw [List.getElem?_set_self hiσ] at e2
      cases e2
    · rw [List.getElem?_set_ne (Ne.symm hj)] at e2
      obtain ⟨u', r', q⟩ := hl j y v' e1 e2 e3
      refine ⟨u', r', ?_⟩
      have hyn : y ≠ n := fun z => hj (by
        rw [z] at e1
        have h1 := (List.getElem?_eq_some_iff.mp e1)
        have h2 := (List.getElem?_eq_some_iff.mp hi)
        exact (List.getElem_inj hN).mp (h1.2.trans h2.2.symm))
      rcases q with ⟨k1, k2⟩ | ⟨k1, c, k2, k3⟩
      · exact .inl ⟨k1, by show (if y = n then v else m y) = some u'; rw [if_neg hyn]; exact k2⟩
      · refine .inr ⟨k1, c, k2, ?_⟩
        obtain ⟨oc, e4, e5⟩ := k3
        exact ⟨oc, (hs.2 c (cne y c k2)).trans e4, e5⟩
  · obtain ⟨v, oc, e4, e5⟩ := I.cell y c e
    exact ⟨v, oc, (hs.2 c (cne y c e)).trans e4, e5⟩
  · obtain ⟨h1, h2, h3, h4⟩ := I.pin p hp
    exact ⟨(hs.2 p.1 h3).trans h1, h2, h3, h4⟩
  · refine (I.hok b ob e).stay (fun c w' hc q => (hs.2 c ?_).trans q) (fun _ q => q) fun _ _ q => q
    rintro rfl
    rcases hc with rfl | hc
    · rw [I.free] at e; cases e
    · rw [I.free] at hc; cases hc
theorem Inv.track {o : HO} (I : Inv X pins σ H s) (hx : X.ex = []) (ha : H a = none) (h0 : X.s₀.heap.get? a = none) (hL : a ≠ X.env.locals) (hC : ∀ x c, X.env.cells.lookup x = some c → c ≠ a) (hP : ∀ p ∈ X.pn ++ pins, p.1 ≠ a) (new : ObjOk X.prog X.w (upd H a o) s.heap a o) : Inv X pins σ (upd H a o) s := by
  have nt : ∀ b u, H b = some u → b ≠ a := fun b u e z => by rw [z, ha] at e; cases e
  refine ⟨I.ok, I.os, I.bare, ⟨I.base.keep, I.base.slot, fun b u e n hb => ?_, I.base.there, fun b xs e => ?_, fun b u xs e => ?_, fun b ps e => ?_⟩, I.loc, I.cell, ?_, fun x c e => ?_, fun p hp => ?_, fun b u e => ?_, I.len⟩
  · rw [upd_ne (fun z => by rw [z, h0] at e; cases e)]; exact I.base.free b u e n hb
  · have := I.base.tups b xs e; rw [upd_ne (nt _ _ this)]; exact this
  · have := I.base.frzs b u xs e; rw [upd_ne (nt _ _ this)]; exact this
  · obtain ⟨m, this⟩ := I.base.tbls b ps e; exact ⟨m, by rw [upd_ne (nt _ _ this)]; exact this⟩
  · rw [upd_ne (Ne.symm hL)]; exact I.free
  · rw [upd_ne (hC x c e)]; exact I.freeC x c e
  · obtain ⟨h1, h2, h3⟩ := I.pin p hp
    exact ⟨h1, by rw [upd_ne (hP p hp)]; exact h2, h3⟩
  · by_cases hb : b = a
    · subst hb; rw [upd_same] at e; cases e; exact new
    · rw [upd_ne hb] at e
      exact (I.hok b u e).stay (fun _ _ _ q => q) (fun c q => by rw [upd_ne (nt _ _ q)]; exact q) fun c xs q => by rw [upd_ne (nt _ _ q)]; exact q
end
section
variable {X : Cx} {body suite : List Stmt} {b₀ : Stmt} {i : Nat} {n cn : Str} {np hpos pos : Pos} {CL : Addr} {T : (St → XK) → TS} {th : TS}
theorem ps_try (hs : X.stack = X.env :: X.outer) (hf : X.env.frame = some X.env.locals) (hx : X.ex = []) (hN : X.N.Nodup) (hi : X.N[i]? = some n) (hk : X.env.kindOf n = some .local) (hg : Gl X cn) (hm : X.mg cn = some (.ref CL))
    (hb : PCSs X body T) (hh : ∀ a, PSs (X.hand a) (b₀ :: suite) th) (hdb : (cn == ("__debug__" : Str)) = false := by decide) :
    PS X (.Try body [.ExceptHandler (some (.Name cn np)) (some n) (b₀ :: suite) hpos] [] [] pos) (tTry X.K CL i T th) := by
  intro pins s σ H D I h
  refine wpAny_Try_except (wpAny_mono (hb pins s σ H D _ I h) (fun f s1 q => ?_) fun e s1 ⟨σ', Hc, sc, Ic, a, cls, H', base, he, ho, hgn, xf, hE⟩ => ?_)
  · cases f with
    | next => exact wpAny_execs_nil q
    | ret v => exact q
    | brk => exact q
    | cont => exact q
  · subst he
    obtain ⟨a', ea, hxm, hth⟩ := hE
    cases ea
    have fl := xf.fl
    rw [hs] at fl
    have hfr : X.A.frames = some (X.env :: X.outer) := by rw [← hs]; exact Ic.ok.frames
    refine fl_note hfr hf fl fun h1 x1 x2 x3 x4 => ?_
    refine flightD (s := { s1 with heap := h1 }) x1 x2 x3 fun h2 y1 y2 y3 y4 => ?_
    have J : Inv X pins σ' H' { s1 with heap := h2 } := Ic.fly ho hgn (xf.on Ic.stack Ic.stkFree y1 (x4.trans y4) (by rw [hs]; exact ⟨y1, fl.2.1, y2, .inl y3⟩))
    have LT : PySem.W.Looks (model X.prog X.w) h2 (typeOf (.ref a)) cls := by
      obtain ⟨oe, _, _, _, _, he, ⟨hc, _⟩, _⟩ := y3
      exact hc ▸ (PySem.W.Looks.ld he).andThen .now
    refine wpAny_handleBy_cons (codeAny_handlers_test (ld_glob (X := X.hand a) (J.hand a) hg hm ?_ hdb)) (by intro q; cases q)
    refine PySem.W.exm_one J.kIn LT hxm _ _ _ _ (fun _ _ q => q) ?_
    rw [if_pos rfl]
    refine codeAny_handlers_suite_as ?_
    refine flightD (s := { s1 with heap := h2 }) y1 y2 y3 fun h3 z1 z2 z3 z4 => ?_
    have Y3 := xf.on Ic.stack Ic.stkFree z1 ((x4.trans y4).trans z4) (by rw [hs]; exact ⟨z1, fl.2.1, z2, .inl z3⟩)
    have J3 : Inv X pins σ' H' { s1 with heap := h3 } := Ic.fly ho hgn Y3
    obtain ⟨oe, vs, _, _, _, he, ⟨hc, hdn⟩, hd, _⟩ := z3
    have ncl : PySem.W.notCls oe = true := by unfold PySem.W.notCls; rw [hd]
    have was : ∀ b o, sc.heap.get? b = some o → b ≠ a := fun b o q z => by rw [z, xf.new] at q; cases q
    have J4 : Inv X pins σ' (upd H' a (XO a cls)) { s1 with heap := h3 } := by
      refine J3.track hx xf.free ?_ ?_ (fun x c e => ?_) (fun p hp => ?_) ⟨⟨oe, he, hc, ncl, hdn⟩, ⟨oe, he⟩, fun g1 g2 ⟨o, q, r⟩ k => ⟨o, k o q, r⟩⟩
      · cases z : X.s₀.heap.get? a with
        | none => rfl
        | some u =>
          obtain ⟨o, e⟩ := Ic.base.there a u z (by rw [hx]; simp)
          exact absurd rfl (was a o e)
      · obtain ⟨m, ⟨o, _, _, e, _⟩, _⟩ := Ic.loc
        exact Ne.symm (was _ o e)
      · obtain ⟨v, o, e, _⟩ := Ic.cell x c e
        exact was c o e
      · exact was _ _ (Ic.pin p hp).1
    refine store_ok (X := X.hand a) (J4.hand a) hN hi (.inl hk) (show RelV (.ref a) (.ref a) from rfl) (fun s4 I4 => ?_) (.inr hk)
    refine wpAny_mono (hh a pins s4 _ _ _ I4 (hth xf.free)) (fun f s5 q => ?_) fun _ _ z => False.elim z
    have hp : (X.env.scope.kind == .class || (X.env.scope.kind == .module && X.env.locals != X.env.globals)) = false := by rw [I.ok.kind]; rfl
    cases f with
    | next =>
      obtain ⟨σ5, H5, I5, q5⟩ := q
      have I5' := I5.unhand I.ok.hd
      obtain ⟨m, hn, hl⟩ := id I5'.loc
      exact wpAny_nameGoes_keeps hk hn hp fun h6 v n6 s6 => ⟨_, H5, I5'.goes hi hn hl hN n6 s6, q5⟩
    | brk =>
      obtain ⟨σ5, H5, I5, q5⟩ := q
      have I5' := I5.unhand I.ok.hd
      obtain ⟨m, hn, hl⟩ := id I5'.loc
      exact wpAny_nameGoes_keeps hk hn hp fun h6 v n6 s6 => ⟨_, H5, I5'.goes hi hn hl hN n6 s6, q5⟩
    | cont =>
      obtain ⟨σ5, H5, I5, q5⟩ := q
      have I5' := I5.unhand I.ok.hd
      obtain ⟨m, hn, hl⟩ := id I5'.loc
      exact wpAny_nameGoes_keeps hk hn hp fun h6 v n6 s6 => ⟨_, H5, I5'.goes hi hn hl hN n6 s6, q5⟩
    | ret u =>
      obtain ⟨v5, σ5, H5, I5, r5, q5⟩ := q
      have I5' := I5.unhand I.ok.hd
      obtain ⟨m, hn, hl⟩ := id I5'.loc
      exact wpAny_nameGoes_keeps hk hn hp fun h6 v n6 s6 => ⟨v5, _, H5, I5'.goes hi hn hl hN n6 s6, r5, q5⟩
end
end L2

namespace L2
open PySem PySem.Spec PyProof.Rows PySem.Calls LE
structure ExcN (K : PySem.W.Frag) (n : Str) : Prop where
  ex : ∃ c, PySem.W.nsIn K mainGlobals n = some (some (.ref c)) ∧ PySem.W.excIn K c VEm "ValueError.__new__" = true
  pl : ∀ c, PySem.W.nsIn K mainGlobals n = some (some (.ref c)) → PySem.W.findIn K (.ref c) "__getattribute__" = some (some (.builtin "BaseException.__getattribute__")) ∧ PySem.W.findIn K (.ref c) "__getattr__" = some none ∧ PySem.W.mroIn K c (.type "BaseException") = some true ∧ PySem.W.hasDictIn K c = true ∧ PySem.W.findIn K (.ref c) "__class__" = some (some (.builtin "object.__class__")) ∧ PySem.W.mroIn K c (.type "object") = some true
structure ExcG (K : PySem.W.Frag) : Prop where
  hn : PySem.W.specialIn K (.builtin "object.__class__") "__get__" = some (some (.builtin "getset_descriptor.__get__"))
  htk : PySem.W.takesIn K (.builtin "object.__class__") = some true
section
variable {prog : Program} {w : World} {A : Around} {E : Value → Shared → Prop} {s : Shared} {K : PySem.W.Frag} {x C D : Addr} {ox : Obj}
theorem exc_class {Q : Option Value → Shared → Prop} (X : K.In s.heap) (I : PySem.W.InstAt s.heap x ox D none) (hga : PySem.W.findIn K (.ref D) "__getattribute__" = some (some (.builtin "BaseException.__getattribute__")))
    (hgn : PySem.W.findIn K (.ref D) "__getattr__" = some none) (hmB : PySem.W.mroIn K D (.type "BaseException") = some true)
    (hf : PySem.W.findObj K D none "__class__" = some (.bind (.builtin "getset_descriptor.__get__") (.builtin "object.__class__"))) (hm : PySem.W.mroIn K D (.type "object") = some true)
    (h : Q (some (.ref D)) { s with toks := s.toks + 1 }) : wpAny (model prog w) A (getAttr? (.ref x) "__class__") Q E s := by
  obtain ⟨hh, g, d, t, os⟩ := s
  have L0 := I.type (M := model prog w)
  have L1 := PySem.W.looks_findIn (M := model prog w) X hga
  have L2 := PySem.W.looks_findIn (M := model prog w) X hgn
  have f3 := PySem.F.attrBase_ValueError.ga.bind (.ref x)
  unfold getAttr? getAttrBy? getAttrBy
  refine wpAny_bind (wpAny_mkText (wpAny_bind (wpAny_attempt (wpAny_holding (wpAny_bind (L0.at (wpAny_bind (L1.at ?_))))))))
  have hx2 : (Value.builtin "BaseException.__getattribute__" == Value.builtin "object.__getattribute__") = false := by decide +kernel
  have hx1 : (onTheHeap (Value.ref D) && Value.builtin "BaseException.__getattribute__" == Value.builtin "object.__getattribute__") = false := by rw [hx2]; rfl
  repeat (any_goals (first | assumption | (with_reducible refine L0.at ?_) | (with_reducible refine L1.at ?_) | (with_reducible refine L2.at ?_) | wp_step))
  have LB := PySem.W.looks_mroIn (M := model prog w) X hmB
  have LF := PySem.W.looks_find (M := model prog w) X I hf
  have hk : builtinKind "BaseException.__getattribute__" = some .slot := by decide +kernel
  have hsplit : splitId "BaseException.__getattribute__" = some ("BaseException", "__getattribute__") := by decide +kernel
  have hag := PySem.F.args_bexc_ga (.ref x) (Value.str "__class__" t)
  refine codeAny_call_builtin PySem.F.attrBase_ValueError.ga.plain PySem.F.entry_bexc_ga ?_
  simp only [List.cons_append, List.nil_append, checkBuiltinCall, hk, hsplit]
  refine wpAny_bind ?_
  unfold isInstance
  repeat (first | (with_reducible refine L0.at ?_) | (with_reducible refine LB.at ?_) | (with_reducible refine LF.at ?_) | wp_step)
  refine PySem.W.class_get (s := ⟨hh, g, d, t + 1, os⟩) (ox := ox) (od := none) X I hm ?_
  show wpAny (model prog w) A.in1 (ret (Value.ref D)) _ _ _
  refine wpAny_pure ?_
  exact PySem.W.handed_on rfl (wpAny_pure h)
end
section
variable {K : PySem.W.Frag} {x D : Addr} {ox : Obj}
theorem findObj_dataN {a g : Value} {name : Str} (hc : (PySem.W.clsIn K D).isSome = true) (ha : PySem.W.findIn K (.ref D) name = some (some a)) (hg : PySem.W.specialIn K a "__get__" = some (some g)) (ht : PySem.W.takesIn K a = some true) : PySem.W.findObj K D none name = some (.bind g a) := by
  obtain ⟨cd, hc⟩ := Option.isSome_iff_exists.mp hc
  unfold PySem.W.findObj
  rw [hc, Option.bind_some, ha, Option.bind_some]
  simp [hg, ht]
theorem kitx_exc (hga : PySem.W.findIn K (.ref D) "__getattribute__" = some (some (.builtin "BaseException.__getattribute__"))) (hgn : PySem.W.findIn K (.ref D) "__getattr__" = some none) (hmB : PySem.W.mroIn K D (.type "BaseException") = some true) (hdct : PySem.W.hasDictIn K D = true) (ha : PySem.W.findIn K (.ref D) "__class__" = some (some (.builtin "object.__class__")))
    (hn : PySem.W.specialIn K (.builtin "object.__class__") "__get__" = some (some (.builtin "getset_descriptor.__get__"))) (htk : PySem.W.takesIn K (.builtin "object.__class__") = some true) (hm : PySem.W.mroIn K D (.type "object") = some true) :
    PySem.W.KitX K (.ref x) (.ref D) (fun h => PySem.W.InstAt h x ox D none) where
  ty := fun _ _ _ I => I.type
  it := fun _ _ X _ => by
    obtain ⟨cdD, hcD, _⟩ := PySem.W.any_some hdct
    unfold PySem.W.clsIn at hcD
    split at hcD
    · rename_i c' d' cd' sl' ho
      intro A' Q' E' s' k q
      unfold isType loadHead
      exact wpAny_bind (wpAny_loadPart (k _ _ (X _ _ ho)) (wpAny_pure q))
    · cases hcD
  ne := fun h tp dd its n sl X htp => by
    obtain ⟨cdD, hcD, _⟩ := PySem.W.any_some hdct
    refine Bool.eq_false_iff.mpr fun q => ?_
    have e : D = tp := Value.ref.inj (beq_iff_eq.mp q)
    subst e
    unfold PySem.W.clsIn at hcD
    split at hcD
    · rename_i c' d' cd' sl' ho
      have z := (X _ _ ho).symm.trans htp
      cases z
    · cases hcD
  ca := fun {_ _ _ _ _ s} X I k => by
    have hf : PySem.W.findObj K D none "__class__" = some (.bind (.builtin "getset_descriptor.__get__") (.builtin "object.__class__")) := findObj_dataN (by obtain ⟨cd, hc, _⟩ := PySem.W.any_some hdct; rw [hc]; rfl) ha hn htk
    exact exc_class X I hga hgn hmB hf hm k
end
section
variable {X : Cx}
inductive TyX (K : PySem.W.Frag) (H : Hp) : V → Value → Prop where
  | of {x : V} {t : Value} (h : TyS K H x t) : TyX K H x t
  | exc {a c : Addr} {n : Str} (h : H a = some (XO a (.ref c))) (e : PySem.W.nsIn K mainGlobals n = some (some (.ref c))) (N : ExcN K n) (G : ExcG K) : TyX K H (.ref a) (.ref c)
theorem isinst_okX {pins : List (Addr × Obj)} {σ : St} {H : Hp} {s : Shared} {A : Around} {E : Value → Shared → Prop} {Q : Value → Shared → Prop} {c : Value} {b : Bool} {x : V} {u t : Value} (I : Inv X pins σ H s) (rx : RelV x u) (ty : TyX X.K H x t) (e : PySem.W.kitOne X.K t c = some b) (h : ∀ tk, Q (.bool b) { s with toks := tk }) :
    wpAny (model X.prog X.w) A (call (.builtin "isinstance") [u, c]) Q E s := by
  cases ty with
  | of z => exact isinst_okS I rx z e h
  | @exc a c' n z e' N G =>
    cases (show u = Value.ref a from rx)
    obtain ⟨⟨o, h1, h2, h3, h4⟩, _⟩ := (show ObjOk X.prog X.w H s.heap a (XO a (.ref c')) from I.hok a _ z)
    obtain ⟨q1, q2, q3, p2, p3, p4⟩ := N.pl c' e'
    exact PySem.W.kia_one (kitx_exc q1 q2 q3 p2 p3 G.hn G.htk p4) I.kIn ⟨h1, h2, h3, by rw [h4]; trivial⟩ e (fun z => nomatch z) h
def rIsX (K : PySem.W.Frag) : List V → Hp → VK → Prop := fun vs H Q => ∃ x c t tc b, vs = [x, c] ∧ TyX K H x t ∧ (∀ u, RelV c u → u = tc) ∧ PySem.W.kitOne K t tc = some b ∧ Q (.bl b) H
theorem call_isX : CallR X (.builtin "isinstance") (rIsX X.K) := by
  intro pins s σ H xs us Q I r h
  obtain ⟨x, c, t, tc, b, rfl, ty, hc, e, q⟩ := h
  obtain ⟨u, w', rfl, r1, r2⟩ := vals2 r
  cases hc w' r2
  exact isinst_okX I r1 ty e fun tk => ⟨.bl b, H, I.tok tk, rfl, q⟩
end
end L2

namespace LE
open PySem L2 LR
abbrev Xv := En → Option Str
section
variable (K : PySem.W.Frag) (C : Addr)
def spR (n : Nat) (ex : List Sl → Option Str) : Sp := fun vs H Q W => ∃ H0 as m, Same H0 H ∧ RRL K C H H0 H vs as ∧ as.all (fun s => !isOwn s) = true ∧ as.length = n ∧ ex as = some m ∧
  ∀ c a H0' H', PySem.W.nsIn K mainGlobals m = some (some (.ref c)) → Step H H0 H H0' H' → W (.ref c) (some a) H'
def spX (n : Nat) (f : List Sl → Option Sl) (ex : List Sl → Option Str) : Sp := fun vs H Q W => spE K C n f vs H Q W ∨ spR K C n ex vs H Q W
def SXE (W : XK) (te : TE) (ex : Xv) : Prop := ∀ (B H0 H : Hp) (σ : St) (E : En) (m : Str) (Q : VK), EnvR K C B H0 H σ E → ex E = some m →
  (∀ c a H0' H', PySem.W.nsIn K mainGlobals m = some (some (.ref c)) → Step H H0 H H0' H' → W (.ref c) (some a) H') → te σ H Q
def SXS (W : XK) (ts : TS) (ex : Xv) : Prop := ∀ (B H0 H : Hp) (σ : St) (E : En) (m : Str) (D : Ends), EnvR K C B H0 H σ E → ex E = some m →
  (∀ c a H0' H', PySem.W.nsIn K mainGlobals m = some (some (.ref c)) → SStep B H0 H0' H' → W (.ref c) (some a) H') → ts D σ H
def SXT (T : (St → XK) → TS) (ex : Xv) : Prop := ∀ (B H0 H : Hp) (σ : St) (E : En) (m : Str) (D : Ends) (W : St → XK), EnvR K C B H0 H σ E → ex E = some m →
  (∀ c a H0' H', PySem.W.nsIn K mainGlobals m = some (some (.ref c)) → Step H H0 H H0' H' → W σ (.ref c) (some a) H') → T W D σ H
end
theorem spX_len {K : PySem.W.Frag} {C : Addr} {n : Nat} {f : List Sl → Option Sl} {ex : List Sl → Option Str} {vs : List V} {H : Hp} {Q : VK} {W : XK} (h : spX K C n f ex vs H Q W) : vs.length = n := by
  rcases h with ⟨_, as, _, _, r, _, hl, _⟩ | ⟨_, as, _, _, r, _, hl, _⟩
  · rw [r.len, hl]
  · rw [r.len, hl]
def exNo : Xv := fun _ => none
def exSeq (a : Es) (ea eb : Xv) : Xv := fun E => match ea E with
  | some m => some m
  | none => match a E with
    | some (.nx E') => eb E'
    | _ => none
def exIf (c : En → Option Bool) (a b : Xv) : Xv := fun E => (c E).bind fun k => if k = true then a E else b E
def exU (n : Nat) (ex : List Sl → Option Str) (as : En → Option (List Sl)) : Xv := fun E => (as E).bind fun ss => (passAll ss).bind fun bs => if bs.length = n then ex bs else none
def exRaise (m : Str) (as : En → Option (List Sl)) : Xv := fun E => (as E).bind fun ss => if ss.length ≤ 1000 then some m else none
def exRun (N : Nat) (b : Xv) : List Sl → Option Str := fun as => b (as ++ List.replicate (N - as.length) .no)
section
variable {K : PySem.W.Frag} {C : Addr} {W : XK} {t : TA} {ev : En → Option (List Sl)} {te : TE} {ts us : TS} {et eu : Es} {xt xu : Xv} {ex : Xv}
theorem s_callX {n : Nat} {f : List Sl → Option Sl} {x : List Sl → Option Str} {W : XK} (ha : SA K C t ev) : SE K C (tCall (spX K C n f x) [] W t) (eU n f ev) := by
  intro B H0 H σ E c Q I e q
  obtain ⟨ss, e1, e⟩ := bind_some e
  obtain ⟨bs, e2, e⟩ := bind_some e
  split at e
  · next hl =>
    refine rd_call (ha B H0 H σ E ss _ I e1 fun vs H1 H1' s1 r1 => ?_)
    obtain ⟨h1, h2⟩ := r1.pass s1.i e2
    have f := frz_step (Hs := H) s1.i
    exact .inl ⟨_, bs, c, f.i, h1, h2, hl, e, fun v H2 H2' s2 r2 => q v H2 H2' ((s1.comp f fun _ z => z).comp s2 fun a z => Same.free s1.h z) (r2.weak fun a z => Same.free s1.h z)⟩
  · cases e
theorem xx_call {n : Nat} {f : List Sl → Option Sl} {x : List Sl → Option Str} (ha : SA K C t ev) : SXE K C W (tCall (spX K C n f x) [] W t) (exU n x ev) := by
  intro B H0 H σ E m Q I e q
  obtain ⟨ss, e1, e⟩ := bind_some e
  obtain ⟨bs, e2, e⟩ := bind_some e
  split at e
  · next hl =>
    refine rd_call (ha B H0 H σ E ss _ I e1 fun vs H1 H1' s1 r1 => ?_)
    obtain ⟨h1, h2⟩ := r1.pass s1.i e2
    have f := frz_step (Hs := H) s1.i
    exact .inr ⟨_, bs, m, f.i, h1, h2, hl, e, fun c a H2 H2' hc s2 => q c a H2 H2' hc ((s1.comp f fun _ z => z).comp s2 fun a z => Same.free s1.h z)⟩
  · cases e
theorem xx_no : SXS K C W ts exNo := fun _ _ _ _ _ _ _ _ e _ => by cases e
theorem xx_seq (h1 : SS K C ts et) (x1 : SXS K C W ts xt) (x2 : SXS K C W us xu) : SXS K C W (tSeq ts us) (exSeq et xt xu) := by
  intro B H0 H σ E m D I e q
  unfold exSeq at e
  split at e
  · next m' hm => cases e; exact x1 B H0 H σ E m _ I hm q
  · split at e
    · next E' hE =>
      refine h1 B H0 H σ E _ _ I hE ?_
      exact fun σ' H1 H1' s1 I1 => x2 B H1 H1' σ' E' m D I1 e fun c a H2 H2' hc s2 => q c a H2 H2' hc (s1.trans s2)
    · cases e
theorem xx_if {c : TT} {ec : En → Option Bool} (hc : ST K C c ec) (x1 : SXS K C W ts xt) (x2 : SXS K C W us xu) : SXS K C W (tIfS c ts us) (exIf ec xt xu) := by
  intro B H0 H σ E m D I e q
  obtain ⟨k, e1, e⟩ := bind_some e
  refine hc B H0 H σ E k _ I e1 fun H1 H1' s1 => ?_
  have s1' := s1.ss I.b
  cases k with
  | true => rw [if_pos rfl] at e ⊢; exact x1 B H1 H1' σ E m D (I.step s1) e fun c a H2 H2' hc s2 => q c a H2 H2' hc (s1'.trans s2)
  | false =>
    rw [if_neg (by decide)] at e ⊢
    exact x2 B H1 H1' σ E m D (I.step s1) e fun c a H2 H2' hc s2 => q c a H2 H2' hc (s1'.trans s2)
theorem xx_drop (h : SXE K C W te ex) : SXS K C W (tDrop te) ex := fun B H0 H σ E m D I e q => h B H0 H σ E m _ I e fun c a H1 H1' hc s1 => q c a H1 H1' hc (s1.ss I.b)
theorem xx_ret (h : SXE K C W te ex) : SXS K C W (tRet te) ex := fun B H0 H σ E m D I e q => h B H0 H σ E m _ I e fun c a H1 H1' hc s1 => q c a H1 H1' hc (s1.ss I.b)
theorem xx_raise {m : Str} {c : Addr} (hc : PySem.W.nsIn K mainGlobals m = some (some (.ref c))) (ha : SA K C t ev) : SXS K C W (tRaise c W t) (exRaise m ev) := by
  intro B H0 H σ E m' D I e q
  obtain ⟨ss, e1, e⟩ := bind_some e
  split at e
  · next hl =>
    cases e
    refine ha B H0 H σ E ss _ I e1 fun vs H1 H1' s1 r1 => ⟨?_, fun a => q c a H1 H1' hc (s1.ss I.b)⟩
    rw [r1.len]
    exact Nat.le_trans hl (by decide)
  · cases e
theorem xt_drop {T : XK → TE} {ex : Xv} (h : ∀ W, SXE K C W (T W) ex) : SXT K C (tcDrop T) ex := fun B H0 H σ E m D W I e q => h (W σ) B H0 H σ E m _ I e q
end
section
variable {K : PySem.W.Frag} {C : Addr} {B H0 H : Hp} {σ : St} {E : En}
theorem env_start {N : List Str} {vs : List V} {as : List Sl} (i : Same H0 H) (ra : RRL K C H H0 H vs as) (ho : as.all (fun s => !isOwn s) = true) : EnvR K C H H0 H (L2.start N vs) (as ++ List.replicate (N.length - as.length) .no) := by
  have lens := ra.len
  have noOwn : ∀ (j : Nat) (s : Sl), as[j]? = some s → isOwn s = false := fun j s e => by
    have := List.all_eq_true.mp ho s (List.mem_of_getElem? e)
    simpa using this
  have get : ∀ (j : Nat) (s : Sl), (as ++ List.replicate (N.length - as.length) Sl.no)[j]? = some s → s = .no ∨ as[j]? = some s := fun j s e => by
    by_cases hj : j < as.length
    · rw [List.getElem?_append_left hj] at e; exact .inr e
    · rw [List.getElem?_append_right (by omega), List.getElem?_replicate] at e
      split at e
      · cases e; exact .inl rfl
      · cases e
  refine ⟨Same.refl _, i, by simp [L2.start, lens], fun j s e => ?_, fun j k s1 s2 v hjk e1 e2 w1 w2 => ?_⟩
  · rcases get j s e with z | z
    · exact .inl z
    · obtain ⟨v, h1, h2⟩ := ra.get z
      refine .inr ⟨v, ?_, ?_⟩
      · unfold L2.start
        rw [List.getElem?_append_left (by have := (List.getElem?_eq_some_iff.mp h1).1; simpa using this), List.getElem?_map, h1]; rfl
      · cases s with
        | no => trivial
        | sh d => exact h2
        | bo ds => exact h2
        | own ds => exact absurd (noOwn j _ z) (by simp [isOwn])
        | bd ks ds => exact h2
        | od ks ds => exact absurd (noOwn j _ z) (by simp [isOwn])
  · rcases get j _ e1 with z | z
    · subst z; cases w1
    · rw [noOwn j _ z] at w1; cases w1
theorem fn_doneX {N : List Str} {n : Nat} {b : Es} {x : Xv} {ts : TS} {vs : List V} {Q : VK} {W : XK} (hb : SS K C ts b) (hx : SXS K C W ts x) (h : spX K C n (fRun N.length b) (exRun N.length x) vs H Q W) : ts { nx := fun _ H' => Q .non H', rt := Q } (L2.start N vs) H := by
  rcases h with h | ⟨H0, as, m, i, ra, ho, hl, e, q⟩
  · exact fn_done hb h
  · exact hx H H0 H _ _ m _ (env_start i ra ho) e fun c a H1 H1' hc s1 => q c a H1 H1' hc ⟨s1.b, s1.z, s1.n, s1.i⟩
theorem EnvR.del (I : EnvR K C B H0 H σ E) (i : Nat) : EnvR K C B H0 H (σ.set i none) (E.set i .no) := by
  refine ⟨I.b, I.h, by simp [I.len], fun j s e => ?_, fun j k s1 s2 v hjk e1 e2 o1 o2 e3 e4 => ?_⟩
  · rw [List.getElem?_set] at e
    by_cases hj : i = j
    · rw [if_pos hj] at e
      split at e
      · cases e; exact .inl rfl
      · cases e
    · rw [if_neg hj] at e
      rcases I.at' j s e with z | ⟨v, h1, h2⟩
      · exact .inl z
      · exact .inr ⟨v, by rw [List.getElem?_set, if_neg hj]; exact h1, h2⟩
  · have ne : ∀ (j : Nat) (s : Sl), (E.set i Sl.no)[j]? = some s → isOwn s = true → i ≠ j ∧ E[j]? = some s := fun j s e o => by
      rw [List.getElem?_set] at e
      by_cases hj : i = j
      · rw [if_pos hj] at e
        split at e
        · cases e; cases o
        · cases e
      · rw [if_neg hj] at e; exact ⟨hj, e⟩
    obtain ⟨n1, f1⟩ := ne j s1 e1 o1
    obtain ⟨n2, f2⟩ := ne k s2 e2 o2
    rw [List.getElem?_set, if_neg n1] at e3
    rw [List.getElem?_set, if_neg n2] at e4
    exact I.sep j k s1 s2 v hjk f1 f2 o1 o2 e3 e4
end
def outDel (i : Nat) : Out → Out
  | .nx E => .nx (E.set i .no)
  | .rt r => .rt r
  | .bk E => .bk (E.set i .no)
  | .ct E => .ct (E.set i .no)
def xTry (R : List Str) (i : Nat) (b : Es) (x : Xv) (h : Es) : Es := fun E => match b E with
  | some o => some o
  | none => (x E).bind fun m => if m ∈ R ∧ i < E.length then (h (E.set i (.sh (.exc m)))).map (outDel i) else none
section
variable {K : PySem.W.Frag} {C : Addr}
theorem x_try {R : List Str} {CL : Addr} {i : Nat} {T : (St → XK) → TS} {th : TS} {b h : Es} {x : Xv} (hm : ∀ m ∈ R, ∀ c, PySem.W.nsIn K mainGlobals m = some (some (.ref c)) → PySem.W.exmOne K (.ref c) (.ref CL) = some true)
    (hb : ∀ W, SS K C (T W) b) (hx : SXT K C T x) (hh : SS K C th h) : SS K C (tTry K CL i T th) (xTry R i b x h) := by
  intro B H0 H σ E o D I e fin
  unfold xTry at e
  split at e
  · next o' hE => cases e; exact hb _ B H0 H σ E o D I hE fin
  · obtain ⟨m, e1, e⟩ := bind_some e
    split at e
    · next hR =>
      obtain ⟨o', e2, rfl⟩ := map_some e
      refine hx B H0 H σ E m D _ I e1 fun c a H1 H1' hc s1 => ⟨a, rfl, hm m hR.1 c hc, fun ha => ?_⟩
      have ha0 : H1 a = none := by
        cases z : H1 a with
        | none => rfl
        | some u => rw [s1.i a u z] at ha; cases ha
      have I1 := I.step s1
      have st : Step H1' H1 H1' (upd H1 a (XO a (.ref c))) (upd H1' a (XO a (.ref c))) := by
        refine ⟨fun b u z => ?_, fun b u z => ?_, fun b u z => ?_, fun b u z => ?_⟩
        · rw [upd_ne (ne_of_none z ha)]; exact z
        · rw [upd_ne (ne_of_none z ha0)]; exact z
        · by_cases hb : b = a
          · subst hb; exact .inr (.inl ha)
          · rw [upd_ne hb] at z; exact .inl z
        · by_cases hb : b = a
          · subst hb; rw [upd_same] at z ⊢; exact z
          · rw [upd_ne hb] at z ⊢; exact s1.i b u z
      have I2 : EnvR K C B (upd H1 a (XO a (.ref c))) (upd H1' a (XO a (.ref c))) (σ.set i (some (.ref a))) (E.set i (.sh (.exc m))) :=
        I1.put' st hR.2 (show RR K C H1' _ _ (.ref a) (.sh (.exc m)) from RD.exc upd_same hc) rfl
      have ss : SStep B H0 (upd H1 a (XO a (.ref c))) (upd H1' a (XO a (.ref c))) := (s1.ss I.b).trans (st.ss I1.b)
      refine hh B _ _ _ _ o' _ I2 e2 ?_
      cases o' with
      | nx E2 => exact fun σ' H2 H2' s2 I3 => fin _ H2 H2' (ss.trans s2) (I3.del i)
      | bk E2 => exact fun σ' H2 H2' s2 I3 => fin _ H2 H2' (ss.trans s2) (I3.del i)
      | ct E2 => exact fun σ' H2 H2' s2 I3 => fin _ H2 H2' (ss.trans s2) (I3.del i)
      | rt r => exact fun v H2 H2' s2 r2 => fin v H2 H2' (ss.trans s2) r2
    · cases e
end
def exB (n m : Str) : Bool := n == m || m == "LumpError"
def exIs (R : List Str) (m : Str) : D → Option Bool
  | .exc n => if n ∈ R then some (exB n m) else none
  | .non => some false
  | _ => none
def eIsX (R : List Str) (m : Str) (a : Ev) : Ev := fun E => (a E).bind fun s => s.d.bind fun d => (exIs R m d).map fun b => .sh (.bl b)
def eIsV (R : List Str) (a : Ev) : Ev := fun E => (a E).bind fun s => s.d.bind fun d => (match d with | .exc n => if n ∈ R then some true else none | .non => some false | _ => none).map fun b => .sh (.bl b)
section
variable {K : PySem.W.Frag} {C : Addr} {te : TE} {ea : Ev}
structure IsiN (K : PySem.W.Frag) (R : List Str) (m : Str) (c : Addr) : Prop where
  own : ∀ n ∈ R, ExcN K n
  g : ExcG K
  k : ∀ n ∈ R, ∀ c', PySem.W.nsIn K mainGlobals n = some (some (.ref c')) → PySem.W.kitOne K (.ref c') (.ref c) = some (exB n m)
  o : PySem.W.kitOne K (.type "NoneType") (.ref c) = some false
theorem s_isX {R : List Str} {m : Str} {c : Addr} (N : IsiN K R m c) (ha : SE K C te ea) : SE K C (tCB (rIsX K) (tCons te (tCons (tC (.ref c)) tNil))) (eIsX R m ea) := by
  intro B H0 H σ E r Q I e q
  obtain ⟨a, e1, e⟩ := bind_some e
  obtain ⟨d, e2, e⟩ := bind_some e
  obtain ⟨b, e3, rfl⟩ := map_some e
  refine ha B H0 H σ E a _ I e1 fun x H1 H1' s1 r1 => ?_
  have rd := r1.dat s1.i e2
  cases d with
  | exc n =>
    have e3 : (if n ∈ R then some (exB n m) else none) = some b := e3
    split at e3
    · next hn =>
      cases e3
      obtain ⟨a', c', rfl, hx, hc⟩ := RD.excI rd
      exact ⟨_, _, _, _, _, rfl, .exc hx hc (N.own n hn) N.g, fun u z => z, N.k n hn c' hc, q _ _ _ s1 (RD.bl _)⟩
    · cases e3
  | non => cases e3; cases RD.nonI rd; exact ⟨_, _, _, _, _, rfl, .of (.of .non), fun u z => z, N.o, q _ _ _ s1 (RD.bl _)⟩
  | _ => cases e3
end
end LE
namespace L2
open PySem PySem.Spec PyProof.Rows PySem.Calls LE
section
variable {X : Cx}
def rIsT (K : PySem.W.Frag) : List V → Hp → VK → Prop := fun vs H Q => ∃ (x : V) (p : Addr) (t : Value) (cs : List Addr) (b : Bool), vs = [x, .ref p] ∧ TyX K H x t ∧ H p = some (.tup (cs.map V.ref)) ∧ PySem.W.kitAny K t (cs.map Value.ref) = some b ∧ Q (.bl b) H
theorem refs_of : ∀ {cs : List Addr} {its : List Value}, Vals (cs.map V.ref) its → its = cs.map Value.ref
  | [], _, r => by cases r; rfl
  | c :: cs, _, r => by
    cases r with
    | cons h t => cases (show _ = Value.ref c from h); rw [refs_of t]; rfl
theorem call_isT : CallR X (.builtin "isinstance") (rIsT X.K) := by
  intro pins s σ H xs us Q I r h
  obtain ⟨x, p, t, cs, b, rfl, ty, hp, e, q⟩ := h
  obtain ⟨u, w', rfl, r1, r2⟩ := vals2 r
  cases (show w' = Value.ref p from r2)
  obtain ⟨_, its, rv, o, h1, h2, n, h3⟩ := (show ObjOk X.prog X.w H s.heap p (.tup (cs.map V.ref)) from I.hok p _ hp)
  cases refs_of rv
  obtain ⟨oc, odd, od, osl⟩ := o
  cases h2; cases h3
  have fin : ∀ tk, EP X pins σ Q (.bool b) { s with toks := tk } := fun tk => ⟨.bl b, H, I.tok tk, rfl, q⟩
  cases ty with
  | of z =>
    cases z with
    | of z =>
      cases z with
      | non => cases (show u = Value.none from r1); exact PySem.W.kia_tup PySem.W.kitx_none I.kIn True.intro h1 e (fun z => nomatch z) fin
      | bl y => cases (show u = Value.bool y from r1); exact PySem.W.kia_tup PySem.W.kitx_bool I.kIn True.intro h1 e (fun z => nomatch z) fin
      | int i => obtain ⟨t, q⟩ := (show ∃ t, u = Value.int i t from r1); cases q; exact PySem.W.kia_tup PySem.W.kitx_int I.kIn True.intro h1 e (fun z => nomatch z) fin
      | str y => obtain ⟨t, q⟩ := (show ∃ t, u = Value.str y t from r1); cases q; exact PySem.W.kia_tup PySem.W.kitx_str I.kIn True.intro h1 e (fun z => nomatch z) fin
      | flt y => obtain ⟨t, q⟩ := (show ∃ t, u = Value.float y t from r1); cases q; exact PySem.W.kia_tup PySem.W.kitx_float I.kIn True.intro h1 e (fun z => nomatch z) fin
      | @lst a xs ea =>
        cases (show u = Value.ref a from r1)
        obtain ⟨_, _, n, _, g1⟩ := (show ObjOk X.prog X.w H s.heap a (.lst xs) from I.hok a _ ea)
        exact PySem.W.kia_tup PySem.W.kitx_list I.kIn ⟨_, g1, rfl⟩ h1 e (fun z => nomatch z) fin
      | @frz a ob xs ea =>
        cases (show u = Value.ref a from r1)
        obtain ⟨_, _, _, n, _, g1⟩ := (show ObjOk X.prog X.w H s.heap a (.frz ob (.lst xs)) from I.hok a _ ea)
        exact PySem.W.kia_tup PySem.W.kitx_list I.kIn ⟨_, g1, rfl⟩ h1 e (fun z => nomatch z) fin
      | @tup a xs ea =>
        cases (show u = Value.ref a from r1)
        obtain ⟨_, _, _, p'⟩ := (show ObjOk X.prog X.w H s.heap a (.tup xs) from I.hok a _ ea)
        obtain ⟨o', g1, g2, _⟩ := p'
        exact PySem.W.kia_tup PySem.W.kitx_tuple I.kIn ⟨o', g1, g2⟩ h1 e (fun z => nomatch z) fin
      | @dK a kvs ea =>
        cases (show u = Value.ref a from r1)
        obtain ⟨_, _, vs, _, p'⟩ := (show ObjOk X.prog X.w H s.heap a (.dK kvs) from I.hok a _ ea)
        obtain ⟨o', es, ep, g1, g2, _⟩ := p'
        exact PySem.W.kia_tup PySem.W.kitx_dict I.kIn ⟨o', g1, g2.1⟩ h1 e (fun z => nomatch z) fin
      | @dT a kvs ea =>
        cases (show u = Value.ref a from r1)
        obtain ⟨_, _, xs, _, o', es, ep, g1, g2, _⟩ := (show ObjOk X.prog X.w H s.heap a (.dT kvs) from I.hok a _ ea)
        exact PySem.W.kia_tup PySem.W.kitx_dict I.kIn ⟨o', g1, g2.1⟩ h1 e (fun z => nomatch z) fin
      | @ins a C dx fs ea cl ha hn htk hm =>
        cases (show u = Value.ref a from r1)
        obtain ⟨mA, O, _⟩ := ins_get I.hok ea
        obtain ⟨od, J, _⟩ := O.look
        exact PySem.W.kia_tup (PySem.W.kitx_own (cl.get _) cl.hd ha hn htk hm) I.kIn J h1 e (fun z => nomatch z) fin
    | @sqT a xs z =>
      cases (show u = Value.ref a from r1)
      obtain ⟨its, _, p', _⟩ := I.tuple z
      obtain ⟨o', g1, g2, _⟩ := p'
      exact PySem.W.kia_tup PySem.W.kitx_tuple I.kIn ⟨o', g1, g2⟩ h1 e (fun z => nomatch z) fin
    | @sqL a xs z =>
      cases (show u = Value.ref a from r1)
      obtain ⟨its, _, p', _⟩ := I.list z
      obtain ⟨o', g1, g2, _⟩ := p'.isList
      exact PySem.W.kia_tup PySem.W.kitx_list I.kIn ⟨o', g1, g2⟩ h1 e (fun z => nomatch z) fin
  | @exc a c' n z e' N G =>
    cases (show u = Value.ref a from r1)
    obtain ⟨⟨o', g1, g2, g3, g4⟩, _⟩ := (show ObjOk X.prog X.w H s.heap a (XO a (.ref c')) from I.hok a _ z)
    obtain ⟨q1, q2, q3, p2, p3, p4⟩ := N.pl c' e'
    exact PySem.W.kia_tup (kitx_exc q1 q2 q3 p2 p3 G.hn G.htk p4) I.kIn ⟨g1, g2, g3, by rw [g4]; trivial⟩ h1 e (fun z => nomatch z) fin
def tRefs : List Addr → TA
  | [] => tNil
  | c :: cs => tCons (tC (.ref c)) (tRefs cs)
theorem rd_refs : ∀ (cs : List Addr) (σ : St) (H : Hp) (Q : List V → Hp → Prop), Q (cs.map V.ref) H → tRefs cs σ H Q
  | [], _, _, _, h => h
  | c :: cs, σ, H, Q, h => rd_refs cs σ H _ h
end
end L2
namespace LE
open PySem L2 LR
def eIsXs (R : List Str) (ms : List Str) (a : Ev) : Ev := fun E => (a E).bind fun s => s.d.bind fun d => (match d with | .exc n => if n ∈ R then some (ms.any (exB n)) else none | .non => some false | _ => none).map fun b => .sh (.bl b)
def IsiL (K : PySem.W.Frag) (R : List Str) : List Str → List Addr → Prop
  | [], [] => True
  | m :: ms, c :: cs => IsiN K R m c ∧ IsiL K R ms cs
  | _, _ => False
theorem isl_nil {K : PySem.W.Frag} {R : List Str} : IsiL K R [] [] := trivial
theorem isl_cons {K : PySem.W.Frag} {R ms : List Str} {cs : List Addr} {m : Str} {c : Addr} (h : IsiN K R m c) (t : IsiL K R ms cs) : IsiL K R (m :: ms) (c :: cs) := ⟨h, t⟩
theorem IsiL.exc {K : PySem.W.Frag} {R : List Str} {n : Str} {c' : Addr} (hn : n ∈ R) (hc : PySem.W.nsIn K mainGlobals n = some (some (.ref c'))) : ∀ {ms : List Str} {cs : List Addr}, IsiL K R ms cs → PySem.W.kitAny K (.ref c') (cs.map Value.ref) = some (ms.any (exB n))
  | [], [], _ => rfl
  | m :: ms, c :: cs, ⟨h, t⟩ => by
    show (match PySem.W.kitOne K (.ref c') (.ref c) with | some true => some true | some false => PySem.W.kitAny K (.ref c') (cs.map Value.ref) | none => none) = _
    rw [h.k n hn c' hc, t.exc hn hc, List.any_cons]
    cases exB n m <;> rfl
theorem IsiL.non {K : PySem.W.Frag} {R : List Str} : ∀ {ms : List Str} {cs : List Addr}, IsiL K R ms cs → PySem.W.kitAny K (.type "NoneType") (cs.map Value.ref) = some false
  | [], [], _ => rfl
  | m :: ms, c :: cs, ⟨h, t⟩ => by
    show (match PySem.W.kitOne K (.type "NoneType") (.ref c) with | some true => some true | some false => PySem.W.kitAny K (.type "NoneType") (cs.map Value.ref) | none => none) = _
    rw [h.o, t.non]
section
variable {K : PySem.W.Frag} {C : Addr} {te : TE} {ea : Ev}
theorem s_isXs {R ms : List Str} (cs : List Addr) (N : IsiL K R ms cs) (G : ExcG K) (O : ∀ n ∈ R, ExcN K n) (ha : SE K C te ea) (hl : cs.length ≤ 1000 := by exact Nat.le_of_ble_eq_true rfl) : SE K C (tCB (rIsT K) (tCons te (tCons (tTup (tRefs cs)) tNil))) (eIsXs R ms ea) := by
  intro B H0 H σ E r Q I e q
  obtain ⟨a, e1, e⟩ := bind_some e
  obtain ⟨d, e2, e⟩ := bind_some e
  obtain ⟨b, e3, rfl⟩ := map_some e
  refine ha B H0 H σ E a _ I e1 fun x H1 H1' s1 r1 => ?_
  refine rd_refs cs σ H1' _ ⟨by rw [List.length_map]; exact Nat.le_trans hl (by decide), fun p hp => ?_⟩
  have st : Step H1' H1 H1' H1 (upd H1' p (.tup (cs.map V.ref))) := ⟨fun b u z => by rw [upd_ne (ne_of_none z hp)]; exact z, Same.refl _, fun b u z => .inl z, fun b u z => by rw [upd_ne (ne_of_none (s1.i b u z) hp)]; exact s1.i b u z⟩
  have rd := r1.dat s1.i e2
  cases d with
  | exc n =>
    have e3 : (if n ∈ R then some (ms.any (exB n)) else none) = some b := e3
    split at e3
    · next hn =>
      cases e3
      obtain ⟨a', c', rfl, hx, hc⟩ := RD.excI rd
      exact ⟨_, p, _, cs, _, rfl, .exc (by rw [upd_ne (ne_of_none hx hp)]; exact hx) hc (O n hn) G, upd_same, N.exc hn hc, q _ _ _ (s1.trans st) (RD.bl _)⟩
    · cases e3
  | non => cases e3; cases RD.nonI rd; exact ⟨_, p, _, cs, _, rfl, .of (.of .non), upd_same, N.non, q _ _ _ (s1.trans st) (RD.bl _)⟩
  | _ => cases e3
structure IsiV (K : PySem.W.Frag) (R : List Str) : Prop where
  own : ∀ n ∈ R, ExcN K n
  g : ExcG K
  k : ∀ n ∈ R, ∀ c', PySem.W.nsIn K mainGlobals n = some (some (.ref c')) → PySem.W.kitOne K (.ref c') (.type "ValueError") = some true
theorem kitNV {K : PySem.W.Frag} : PySem.W.kitOne K (.type "NoneType") (.type "ValueError") = some false := by kernel_rfl
theorem s_isV {R : List Str} (N : IsiV K R) (ha : SE K C te ea) : SE K C (tCB (rIsX K) (tCons te (tCons (tC (.ty "ValueError")) tNil))) (eIsV R ea) := by
  intro B H0 H σ E r Q I e q
  obtain ⟨a, e1, e⟩ := bind_some e
  obtain ⟨d, e2, e⟩ := bind_some e
  obtain ⟨b, e3, rfl⟩ := map_some e
  refine ha B H0 H σ E a _ I e1 fun x H1 H1' s1 r1 => ?_
  have rd := r1.dat s1.i e2
  cases d with
  | exc n =>
    have e3 : (if n ∈ R then some true else none) = some b := e3
    split at e3
    · next hn =>
      cases e3
      obtain ⟨a', c', rfl, hx, hc⟩ := RD.excI rd
      exact ⟨_, _, _, _, _, rfl, .exc hx hc (N.own n hn) N.g, fun u z => z, N.k n hn c' hc, q _ _ _ s1 (RD.bl _)⟩
    · cases e3
  | non => cases e3; cases RD.nonI rd; exact ⟨_, _, _, _, _, rfl, .of (.of .non), fun u z => z, kitNV, q _ _ _ s1 (RD.bl _)⟩
  | _ => cases e3
end
end LE

namespace L2
open PySem PySem.Spec PyProof.Rows PySem.Calls LE
theorem bt_ValueError : bootBuiltins "ValueError" = some (.type "ValueError") := by decide +kernel
section
variable {X : Cx} {K : PySem.W.Frag}
theorem call_isXK (h : X.K = K) : CallR X (.builtin "isinstance") (rIsX K) := by subst h; exact call_isX
theorem call_isTK (h : X.K = K) : CallR X (.builtin "isinstance") (rIsT K) := by subst h; exact call_isT
theorem ps_tryK {body suite : List Stmt} {b₀ : Stmt} {i : Nat} {n cn : Str} {np hpos pos : Pos} {CL : Addr} {T : (St → XK) → TS} {th : TS} (h : X.K = K) (hs : X.stack = X.env :: X.outer) (hf : X.env.frame = some X.env.locals) (hx : X.ex = []) (hN : X.N.Nodup) (hi : X.N[i]? = some n) (hk : X.env.kindOf n = some .local) (hg : Gl X cn) (hm : X.mg cn = some (.ref CL))
    (hb : PCSs X body T) (hh : ∀ a, PSs (X.hand a) (b₀ :: suite) th) (hdb : (cn == ("__debug__" : Str)) = false := by decide) :
    PS X (.Try body [.ExceptHandler (some (.Name cn np)) (some n) (b₀ :: suite) hpos] [] [] pos) (tTry K CL i T th) := by subst h; exact ps_try hs hf hx hN hi hk hg hm hb hh hdb
theorem ps_raiseK {x : Str} {np cpos pos : Pos} {C : Addr} {E : XK} {e : Expr} {es : List Expr} {t : TA} (h : X.K = K) (ok : PySem.W.excIn K C VEm "ValueError.__new__" = true) (hg : Gl X x) (hm : X.mg x = some (.ref C)) (hc : X.calm = true) (hx : XOk X E) (ha : PA X (e :: es) t) (hdb : (x == ("__debug__" : Str)) = false := by decide)
    (he : starEach (e :: es) X.env = (false, eval e X.env) :: starEach es X.env := by rfl) (hpl : (backTo cpos (starEach es X.env)).any (·.1) = false := by rfl) :
    PS X (.Raise (some (.Call (.Name x np) (e :: es) [] cpos)) none pos) (tRaise C E t) := by subst h; exact ps_raise ok hg hm hc hx ha hdb he hpl
end
end L2
namespace LE
open PySem L2 LR
section
variable {K : PySem.W.Frag} {C : Addr} {ts : TS}
theorem x_noret : SS K C ts xNever := fun _ _ _ _ _ _ _ _ e _ => by cases e
theorem xt_dropN {T : XK → TE} {ea : Ev} (h : ∀ W, SE K C (T W) ea) (W : St → XK) : SS K C (tcDrop T W) (xDrop ea) := x_drop (te := fun σ H Q => T (W σ) σ H Q) fun B H0 H σ E r Q I e q => h (W σ) B H0 H σ E r Q I e q
structure AtX (K : PySem.W.Frag) (n : Str) (c : Addr) : Prop where
  ns : PySem.W.nsIn K mainGlobals n = some (some (.ref c))
  ok : PySem.W.excIn K c VEm "ValueError.__new__" = true
  ga : PySem.W.findIn K (.ref c) "__getattribute__" = some (some (.builtin "BaseException.__getattribute__"))
  gn : PySem.W.findIn K (.ref c) "__getattr__" = some none
  mb : PySem.W.mroIn K c (.type "BaseException") = some true
  hd : PySem.W.hasDictIn K c = true
  fi : PySem.W.findIn K (.ref c) "__class__" = some (some (.builtin "object.__class__"))
  mr : PySem.W.mroIn K c (.type "object") = some true
theorem AtX.n {n : Str} {c : Addr} (h : AtX K n c) : ExcN K n := ⟨⟨c, h.ns, h.ok⟩, fun c' e => by
  have := h.ns.symm.trans e
  cases this
  exact ⟨h.ga, h.gn, h.mb, h.hd, h.fi, h.mr⟩⟩
def OwnL (K : PySem.W.Frag) : List Str → List Addr → Prop
  | [], [] => True
  | n :: ns, c :: cs => AtX K n c ∧ OwnL K ns cs
  | _, _ => False
theorem own_nil : OwnL K [] [] := trivial
theorem own_cons {ns : List Str} {cs : List Addr} {n : Str} {c : Addr} (h : AtX K n c) (t : OwnL K ns cs) : OwnL K (n :: ns) (c :: cs) := ⟨h, t⟩
theorem OwnL.all : ∀ {ns : List Str} {cs : List Addr}, OwnL K ns cs → ∀ n ∈ ns, ExcN K n
  | [], [], _, n, h => nomatch h
  | m :: ns, c :: cs, ⟨h, t⟩, n, hn => by
    rcases List.mem_cons.mp hn with e | e
    · rw [e]; exact h.n
    · exact t.all n e
def ExmL (K : PySem.W.Frag) (CL : Addr) : List Addr → Prop
  | [] => True
  | c :: cs => PySem.W.exmOne K (.ref c) (.ref CL) = some true ∧ ExmL K CL cs
theorem exm_nil {CL : Addr} : ExmL K CL [] := trivial
theorem exm_cons {CL c : Addr} {cs : List Addr} (h : PySem.W.exmOne K (.ref c) (.ref CL) = some true) (t : ExmL K CL cs) : ExmL K CL (c :: cs) := ⟨h, t⟩
theorem ExmL.all {CL : Addr} : ∀ {ns : List Str} {cs : List Addr}, OwnL K ns cs → ExmL K CL cs → ∀ m ∈ ns, ∀ c, PySem.W.nsIn K mainGlobals m = some (some (.ref c)) → PySem.W.exmOne K (.ref c) (.ref CL) = some true
  | [], [], _, _, n, h => nomatch h
  | m :: ns, c :: cs, ⟨h, t⟩, ⟨h', t'⟩, n, hn => fun c' e => by
    rcases List.mem_cons.mp hn with z | z
    · rw [z, h.ns] at e; cases e; exact h'
    · exact t'.all t n z c' e
def KitL (K : PySem.W.Frag) (m : Str) (c : Addr) : List Str → List Addr → Prop
  | [], [] => True
  | n :: ns, d :: ds => PySem.W.kitOne K (.ref d) (.ref c) = some (exB n m) ∧ KitL K m c ns ds
  | _, _ => False
theorem kit_nil {m : Str} {c : Addr} : KitL K m c [] [] := trivial
theorem kit_cons {m n : Str} {c d : Addr} {ns : List Str} {ds : List Addr} {b : Bool} (h : PySem.W.kitOne K (.ref d) (.ref c) = some b) (e : exB n m = b) (t : KitL K m c ns ds) : KitL K m c (n :: ns) (d :: ds) := ⟨by rw [e]; exact h, t⟩
theorem KitL.all {m : Str} {c : Addr} : ∀ {ns : List Str} {cs : List Addr}, OwnL K ns cs → KitL K m c ns cs → ∀ n ∈ ns, ∀ c', PySem.W.nsIn K mainGlobals n = some (some (.ref c')) → PySem.W.kitOne K (.ref c') (.ref c) = some (exB n m)
  | [], [], _, _, n, h => nomatch h
  | m :: ns, c :: cs, ⟨h, t⟩, ⟨h', t'⟩, n, hn => fun c' e => by
    rcases List.mem_cons.mp hn with z | z
    · rw [z] at e ⊢; rw [h.ns] at e; cases e; exact h'
    · exact t'.all t n z c' e
theorem isiN_of {m : Str} {c : Addr} {ns : List Str} {cs : List Addr} (o : OwnL K ns cs) (g : ExcG K) (k : KitL K m c ns cs) (z : PySem.W.kitOne K (.type "NoneType") (.ref c) = some false) : IsiN K ns m c := ⟨o.all, g, k.all o, z⟩
def KivL (K : PySem.W.Frag) : List Addr → Prop
  | [] => True
  | c :: cs => PySem.W.kitOne K (.ref c) (.type "ValueError") = some true ∧ KivL K cs
theorem kiv_nil : KivL K [] := trivial
theorem kiv_cons {c : Addr} {cs : List Addr} (h : PySem.W.kitOne K (.ref c) (.type "ValueError") = some true) (t : KivL K cs) : KivL K (c :: cs) := ⟨h, t⟩
theorem KivL.all : ∀ {ns : List Str} {cs : List Addr}, OwnL K ns cs → KivL K cs → ∀ n ∈ ns, ∀ c', PySem.W.nsIn K mainGlobals n = some (some (.ref c')) → PySem.W.kitOne K (.ref c') (.type "ValueError") = some true
  | [], [], _, _, n, h => nomatch h
  | m :: ns, c :: cs, ⟨h, t⟩, ⟨h', t'⟩, n, hn => fun c' e => by
    rcases List.mem_cons.mp hn with z | z
    · rw [z, h.ns] at e; cases e; exact h'
    · exact t'.all t n z c' e
theorem isiV_of {ns : List Str} {cs : List Addr} (o : OwnL K ns cs) (g : ExcG K) (k : KivL K cs) : IsiV K ns := ⟨o.all, g, k.all o⟩
end
section
variable (K : PySem.W.Frag) (C : Addr)
def SXA (W : XK) (t : TA) (ex : Xv) : Prop := ∀ (B H0 H : Hp) (σ : St) (E : En) (m : Str) (Q : List V → Hp → Prop), EnvR K C B H0 H σ E → ex E = some m →
  (∀ c a H0' H', PySem.W.nsIn K mainGlobals m = some (some (.ref c)) → Step H H0 H H0' H' → W (.ref c) (some a) H') → t σ H Q
def SXI (W : XK) (wi : TI) (ex : Xv) : Prop := ∀ (B H0 H : Hp) (σ : St) (E : En) (m : Str) (R : It → Hp → Prop), EnvR K C B H0 H σ E → ex E = some m →
  (∀ c a H0' H', PySem.W.nsIn K mainGlobals m = some (some (.ref c)) → Step H H0 H H0' H' → W (.ref c) (some a) H') → wi σ H R
end
def exC (a : Ev) (ea er : Xv) : Xv := fun E => match ea E with
  | some m => some m
  | none => (a E).bind fun _ => er E
section
variable {K : PySem.W.Frag} {C : Addr} {W : XK} {ta te : TE} {t tr : TA} {ea : Ev} {xa xr ex : Xv} {wi : TI}
theorem xx_noA : SXA K C W t exNo := fun _ _ _ _ _ _ _ _ e _ => by cases e
theorem xx_cons (ha : SE K C ta ea) (x1 : SXE K C W ta xa) (x2 : SXA K C W tr xr) : SXA K C W (tCons ta tr) (exC ea xa xr) := by
  intro B H0 H σ E m Q I e q
  unfold exC at e
  split at e
  · next m' hm => cases e; exact x1 B H0 H σ E m _ I hm q
  · obtain ⟨a, e1, e⟩ := bind_some e
    exact ha B H0 H σ E a _ I e1 fun x H1 H1' s1 r1 => x2 B H1 H1' σ E m _ (I.step s1) e fun c a H2 H2' hc s2 => q c a H2 H2' hc (s1.trans s2)
theorem xx_CB {r : List V → Hp → VK → Prop} (h : SXA K C W t ex) : SXE K C W (tCB r t) ex := fun B H0 H σ E m Q I e q => h B H0 H σ E m _ I e q
theorem xx_make {C' : Addr} {sp : Sp} {dvs : List V} {E' : XK} (h : SXA K C W t ex) : SXE K C W (tMake C' sp dvs E' t) ex := fun B H0 H σ E m Q I e q => h B H0 H σ E m _ I e q
theorem xx_args {sp : Sp} {dvs : List V} {E' : XK} (h : SXA K C W t ex) : SXE K C W (tCall sp dvs E' t) ex := fun B H0 H σ E m Q I e q => h B H0 H σ E m _ I e q
theorem xx_iseq (h : SXE K C W te ex) : SXI K C W (iSeq K te) ex := fun B H0 H σ E m R I e q => .inl (h B H0 H σ E m _ I e q)
theorem xx_for {g : TG} {tb : TS} (h : SXI K C W wi ex) : SXS K C W (tFor wi g tb) ex := fun B H0 H σ E m D I e q => h B H0 H σ E m _ I e fun c a H1 H1' hc s1 => q c a H1 H1' hc (s1.ss I.b)
theorem xx_comp {g : TG} {tt : TT} {imp : List (Option Nat)} (h : SXI K C W wi ex) : SXE K C W (tComp wi g tt te imp) ex := fun B H0 H σ E m Q I e q => h B H0 H σ E m _ I e q
end
end LE

namespace LE
open PySem L2 LR
section
variable {K : PySem.W.Frag} {C : Addr} {W : XK} {t : TS} {et : Es} {xt : Xv}
end
end LE
namespace L2
open PySem PySem.Spec PyProof.Rows PySem.Calls LE
structure RoomH (k : Nat) (A : Around) : Prop where
  dp : A.depth + 3 * k + 5 < recursionLimit
  un : A.units + 16 * k + 200 < cLine
theorem Room.h {k : Nat} {A : Around} (r : Room k A) : RoomH k A := ⟨r.dp, r.un⟩
theorem RoomH.mono {j k : Nat} {A : Around} (r : RoomH k A) (h : j ≤ k) : RoomH j A := ⟨by have := r.dp; omega, by have := r.un; omega⟩
theorem RoomH.mark {k : Nat} {A : Around} (r : RoomH k A) (v : Option Value) : RoomH k (A.mark v) := ⟨r.dp, r.un⟩
theorem RoomH.deeper {k : Nat} {A : Around} (r : RoomH (k + 1) A) (env : Env) : RoomH k (A.deeper env) :=
  ⟨by have := r.dp; show A.depth + 1 + 3 * k + 5 < _; omega, by have := r.un; show A.units + 3 + 16 * k + 200 < _; omega⟩
theorem RoomH.units {k : Nat} {A : Around} (r : RoomH k A) : A.units + 64 < cLine := by have := r.un; omega
structure FnH (P : Program) (w : World) (K : PySem.W.Frag) (mg : Str → Option Value) (base : Heap) (k : Nat) (f : Addr) (fd : FuncData) (ps : List Str) (sp : Sp) : Prop where
  len : ∀ vs H Q E, sp vs H Q E → vs.length = ps.length
  run : ∀ (A : Around) (outer : List Env) (s : Shared) (H : Hp) (args : Args) (us : List Value) (vs : List V) (Q : VK) (E : XK), RoomH k A → Env0 P w K mg base A outer s H → BindsTo s fd args (ps.zip us) → Vals vs us → sp vs H Q E →
    codeAny (model P w) A (.call (.ref f) args) (CR CX0 outer P w H s Q E) s
theorem FnH.ok {P : Program} {w : World} {K : PySem.W.Frag} {mg : Str → Option Value} {base : Heap} {k : Nat} {f : Addr} {fd : FuncData} {ps : List Str} {sp : Sp} (F : FnH P w K mg base k f fd ps sp) : FnOk P w K mg base CX0 k f fd ps sp :=
  ⟨F.len, fun A outer s H args us vs Q E hr => F.run A outer s H args us vs Q E hr.h⟩
structure CalH (P : Program) (w : World) (K : PySem.W.Frag) (mg : Str → Option Value) (base : Heap) (x : Str) (k : Nat) (ps : List Str) (sp : Sp) : Prop where
  ex : ∃ (f : Addr) (fd : FuncData), FnH P w K mg base k f fd ps sp ∧ mg x = some (.ref f) ∧ PySem.W.keepIn K (.ref f) = true ∧ Binds K fd ps []
section
variable {X : Cx} {k : Nat} {ps : List Str} {sp : Sp} {x : Str} {p pos : Pos} {e : Expr} {es : List Expr} {t : TA}
end
end L2

namespace L2
open PySem PySem.Spec PyProof.Rows PySem.Calls LE
structure CalMX (P : Program) (w : World) (K : PySem.W.Frag) (mg : Str → Option Value) (base : Heap) (x : Str) (C : Addr) (k : Nat) (ps : List Str) (sp : Sp) : Prop where
  ex : ∃ (f : Addr) (fd : FuncData), Mk K C f ∧ FnOk P w K mg base (CX1 P w) k f fd ps sp ∧ mg x = some (.ref C) ∧ Binds K fd ps []
section
variable {X : Cx} {k : Nat} {C : Addr} {ps : List Str} {sp : Sp} {x : Str} {p pos : Pos} {e : Expr} {es : List Expr} {t : TA}
end
end L2
namespace LE
open PySem L2 LR
section
variable (K : PySem.W.Frag) (C : Addr)
end
section
variable {K : PySem.W.Frag} {C : Addr} {W : XK} {t : TA} {ev : En → Option (List Sl)} {H0 H H2 : Hp}
def as_no (ss : List Sl) : Bool := ss.all fun s => !isOwn s
theorem RRL.more {vs : List V} {ss : List Sl} (st : Same H H2) : as_no ss = true → RRL K C H H0 H vs ss → RRL K C H2 H0 H2 vs ss := fun ho r => by
  revert ho
  induction r with
  | nil => exact fun _ => .nil
  | @cons v s vs ss h _ ih =>
    intro ho
    have hs : isOwn s = false ∧ as_no ss = true := by
      unfold as_no at ho ⊢
      rw [List.all_cons, Bool.and_eq_true] at ho
      exact ⟨by simpa using ho.1, ho.2⟩
    refine .cons ?_ (ih hs.2)
    cases s with
    | no => exact h
    | sh d => exact h
    | bo ds => obtain ⟨l, xs, e, g, q⟩ := h; exact ⟨l, xs, e, st _ _ g, q⟩
    | bd ks ds => obtain ⟨l, xs, e, g, q⟩ := h; exact ⟨l, xs, e, st _ _ g, q⟩
    | own ds => exact absurd hs.1 (by simp [isOwn])
    | od ks ds => exact absurd hs.1 (by simp [isOwn])
end
end LE

open L2 LR
local macro_rules | `(tactic| walk_at "side") => `(tactic| first | decide | exact ⟨by decide, by decide, by decide⟩ | exact ⟨by decide, by decide⟩ | (show (0 : Int) < _; omega) | (show (0 : Int) < _ ∧ _ < (1073741824 : Int); omega) | exact Or.inl ⟨by omega, by omega⟩ | exact Or.inr ⟨by omega, by omega⟩ | assumption)
local macro_rules | `(tactic| walk_at "rd1") => `(tactic| first | (with_reducible refine rd_seq ?_) | (with_reducible refine rd_asg ?_) | (with_reducible refine rd_ifS ?_) | (with_reducible refine rd_ret ?_) | (with_reducible refine rd_drop ?_) | (with_reducible refine rd_next ?_) | (with_reducible refine rd_op ?_) | (with_reducible refine rd_un ?_) | (with_reducible refine rd_test ?_) | (with_reducible refine rd_tB ?_) | (with_reducible refine rd_tru0 ?_) | (with_reducible refine rd_and ?_) | (with_reducible refine rd_or ?_) | (with_reducible refine rd_not ?_) | (with_reducible refine rd_notV ?_) | (with_reducible refine rd_andV ?_) | (with_reducible refine rd_orV ?_) | (with_reducible refine rd_ifE ?_) | (with_reducible refine rd_cons ?_) | (with_reducible refine rd_nil ?_) | (with_reducible refine rd_CB ?_) | (with_reducible refine rd_call ?_) | (with_reducible refine LR.rd_make ?_) | (with_reducible refine rd_tup ?_) | (with_reducible refine rd_lst ?_) | (with_reducible refine rd_bm ?_) | (with_reducible refine rd_gName ?_) | (with_reducible refine rd_gSub ?_) | (with_reducible refine rd_gCons ?_) | (with_reducible refine rd_gNil ?_) | (with_reducible refine rd_fld ?_) | (with_reducible refine rd_sFld ?_) | (with_reducible refine rd_chain ?_) | (with_reducible refine rd_yes ?_))
local macro_rules | `(tactic| walk_at "rd2") => `(tactic| first | (with_reducible refine rd_C ?_) | (with_reducible refine rd_I0 ?_) | (with_reducible refine rd_U ?_) | (with_reducible refine rd_addI ?_) | (with_reducible refine rd_eqI ?_) | (with_reducible refine rd_neI ?_) | (with_reducible refine rd_eqT ?_) | (with_reducible refine rd_neT ?_) | (with_reducible refine rd_isN ?_) | (with_reducible refine rd_notN ?_) | (with_reducible refine rd_max ?_) | (with_reducible refine rd_min ?_) | (with_reducible refine Exists.intro _ (And.intro (LR.tru_bl _ _ _) ?_)) | ((with_reducible refine rd_I ?hc ?_); (case hc => walk_at "side")) | ((with_reducible refine rd_var (v := ?vv) ?hx ?_); (case hx => exact rfl)) | (with_reducible refine Exists.intro _ (And.intro (Eq.refl (V.bl _)) ?_)))
local macro_rules | `(tactic| walk_at "rd") => `(tactic| repeat (first | walk_at "rd1" | walk_at "rd2"))
namespace LK
open PySem L2 LR LE
def ev_gaps_of : List Sl → Option Sl := fRun 1 (xRet (eComp (iZip true (aC (e1 fFld (eVar 0)) (aC (eSl (e1 fFld (eVar 0)) (some (eC (.int 1))) none) a0))) (.tp (.cons (.nm 0) (.cons (.nm 1) .nil))) yes? (e2 fSub (e2 fIx (eVar 1) (eC (.int 0))) (eF fSum (aC (eVar 0) a0))) [none, none]))
def ev_ball_count : List Sl → Option Sl := fRun 1 (xRet (eF fSum (aC (eComp (iE true (e1 fFld (eVar 0))) (.tp (.cons (.nm 0) (.cons (.nm 1) .nil))) yes? (eVar 1) [none, none]) a0)))
def ev_check_seats : List Sl → Option Sl := fRun 1 (xIf (tAnd? (tB? (e2 fIsNot (eVar 0) (eC .non))) (tB? (e2 fLt (eVar 0) (eC (.int 1))))) xNever xNext)
def ex_check_seats : List Sl → Option Str := exRun 1 (exIf (tAnd? (tB? (e2 fIsNot (eVar 0) (eC .non))) (tB? (e2 fLt (eVar 0) (eC (.int 1))))) (exRaise "BadSeats" (aC (eC (.str "a ferry has at least one seat")) a0)) exNo)
def ev_stops : List Sl → Option Sl := fRun 9 (xSeq (xDrop (eU 1 ev_check_seats (aC (eVar 1) a0)))
  (xSeq (xSetZ 2 (eIf (tB? (e2 fIs (eVar 1) (eC .non))) (eU 1 ev_ball_count (aC (eVar 0) a0)) (eVar 1)))
  (xSeq (xSet 3 (eLst a0))
  (xSeq (xSetZ 4 (eC (.int 0)))
  (xSeq (xFor (iZip false (aC (e1 fFld (eVar 0)) (aC (e2 fAdd (eU 1 ev_gaps_of (aC (eVar 0) a0)) (eLst (aC (eVar 2) a0))) a0))) (.tp (.cons (.nm 5) (.cons (.nm 6) .nil))) (xSeq (xSetZ 7 (eF fMin (aC (e2 fIx (eVar 5) (eC (.int 1))) (aC (e2 fSub (eVar 2) (eVar 4)) a0))))
  (xSeq (xSetZ 8 (eF fMin (aC (e2 fAdd (eVar 4) (eVar 7)) (aC (eVar 6) a0))))
  (xSeq (xSetZ 4 (e2 fSub (e2 fAdd (eVar 4) (eVar 7)) (eVar 8)))
  (xApp 3 (e2 fAdd (eVar 5) (eTup (aC (eVar 7) (aC (eVar 8) a0)))))))))
  (xRetV 3))))))
def ex_stops : List Sl → Option Str := exRun 9 (exSeq (xDrop (eU 1 ev_check_seats (aC (eVar 1) a0)))
  (exU 1 ex_check_seats (aC (eVar 1) a0)) exNo)
def ev_aboard : List Sl → Option Sl := fRun 8 (xSeq (xSetZ 3 (eC (.int 0)))
  (xSeq (xFor (iE false (eU 2 ev_stops (aC (eVar 0) (aC (eVar 1) a0)))) (.tp (.cons (.nm 4) (.cons (.nm 5) (.cons (.nm 6) (.cons (.nm 7) .nil))))) (xSeq (xAug (fun i j => i + j) 3 (eF fMin (aC (eVar 6) (aC (eF fMax (aC (eC (.int 0)) (aC (e2 fSub (eVar 2) (eVar 4)) a0))) a0))))
  (xAug (fun i j => i - j) 3 (eF fMin (aC (eVar 7) (aC (eF fMax (aC (eC (.int 0)) (aC (e2 fSub (e2 fSub (eVar 2) (eVar 4)) (eVar 5)) a0))) a0))))))
  (xRetV 3)))
def ex_aboard : List Sl → Option Str := exRun 8 (exSeq (xSetZ 3 (eC (.int 0)))
  exNo (exSeq (xFor (iE false (eU 2 ev_stops (aC (eVar 0) (aC (eVar 1) a0)))) (.tp (.cons (.nm 4) (.cons (.nm 5) (.cons (.nm 6) (.cons (.nm 7) .nil))))) (xSeq (xAug (fun i j => i + j) 3 (eF fMin (aC (eVar 6) (aC (eF fMax (aC (eC (.int 0)) (aC (e2 fSub (eVar 2) (eVar 4)) a0))) a0))))
  (xAug (fun i j => i - j) 3 (eF fMin (aC (eVar 7) (aC (eF fMax (aC (eC (.int 0)) (aC (e2 fSub (e2 fSub (eVar 2) (eVar 4)) (eVar 5)) a0))) a0))))))
  (exU 2 ex_stops (aC (eVar 0) (aC (eVar 1) a0))) exNo))
def ev_taken : List Sl → Option Sl := fRun 2 (xRet (eF fSum (aC (eComp (iE true (eU 2 ev_stops (aC (eVar 0) (aC (eVar 1) a0)))) (.tp (.cons (.nm 0) (.cons (.nm 1) (.cons (.nm 2) (.cons (.nm 3) .nil))))) yes? (eVar 2) [none, none, none, none]) a0)))
def ex_taken : List Sl → Option Str := exRun 2 (exC (eComp (iE true (eU 2 ev_stops (aC (eVar 0) (aC (eVar 1) a0)))) (.tp (.cons (.nm 0) (.cons (.nm 1) (.cons (.nm 2) (.cons (.nm 3) .nil))))) yes? (eVar 2) [none, none, none, none]) (exU 2 ex_stops (aC (eVar 0) (aC (eVar 1) a0))) exNo)
def ev_mirrored : List Sl → Option Sl := fRun 1 (xRet (eF fRow (aC (eComp (iRev true (aC (e1 fFld (eVar 0)) a0)) (.tp (.cons (.nm 0) (.cons (.nm 1) .nil))) yes? (eTup (aC (e2 fSub (e2 fSub (eC (.int 1)) (eVar 0)) (eVar 1)) (aC (eVar 1) a0))) [none, none]) a0)))
def ev_gone : List Sl → Option Sl := fRun 2 (xRet (eF fRow (aC (eComp (iE true (eU 2 ev_stops (aC (eVar 0) (aC (eVar 1) a0)))) (.tp (.cons (.nm 0) (.cons (.nm 1) (.cons (.nm 2) (.cons (.nm 3) .nil))))) yes? (eTup (aC (e2 fAdd (eVar 0) (eVar 2)) (aC (e2 fAdd (e2 fSub (eVar 1) (eVar 2)) (eVar 3)) a0))) [none, none, none, none]) a0)))
def ex_gone : List Sl → Option Str := exRun 2 (exC (eComp (iE true (eU 2 ev_stops (aC (eVar 0) (aC (eVar 1) a0)))) (.tp (.cons (.nm 0) (.cons (.nm 1) (.cons (.nm 2) (.cons (.nm 3) .nil))))) yes? (eTup (aC (e2 fAdd (eVar 0) (eVar 2)) (aC (e2 fAdd (e2 fSub (eVar 1) (eVar 2)) (eVar 3)) a0))) [none, none, none, none]) (exU 2 ex_stops (aC (eVar 0) (aC (eVar 1) a0))) exNo)
def ev_back : List Sl → Option Sl := fRun 2 (xRet (eU 1 ev_mirrored (aC (eU 2 ev_gone (aC (eU 1 ev_mirrored (aC (eVar 0) a0)) (aC (eVar 1) a0))) a0)))
def ex_back : List Sl → Option Str := exRun 2 (exC (eU 2 ev_gone (aC (eU 1 ev_mirrored (aC (eVar 0) a0)) (aC (eVar 1) a0))) (exU 2 ex_gone (aC (eU 1 ev_mirrored (aC (eVar 0) a0)) (aC (eVar 1) a0))) exNo)
def ev_law_ask : List Sl → Option Sl := fRun 4 (xSeq (xIf (tB? (e2 fEq (eVar 0) (eC (.int 0)))) (xRet (eU 2 ev_gone (aC (eVar 1) (aC (eVar 2) a0)))) xNext)
  (xSeq (xIf (tB? (e2 fEq (eVar 0) (eC (.int 1)))) (xRet (eU 2 ev_back (aC (eVar 1) (aC (eVar 2) a0)))) xNext)
  (xSeq (xIf (tB? (e2 fEq (eVar 0) (eC (.int 2)))) (xRet (eU 2 ev_taken (aC (eVar 1) (aC (eVar 2) a0)))) xNext)
  (xRet (eU 3 ev_aboard (aC (eVar 1) (aC (eVar 2) (aC (eVar 3) a0))))))))
def ex_law_ask : List Sl → Option Str := exRun 4 (exSeq (xIf (tB? (e2 fEq (eVar 0) (eC (.int 0)))) (xRet (eU 2 ev_gone (aC (eVar 1) (aC (eVar 2) a0)))) xNext)
  (exIf (tB? (e2 fEq (eVar 0) (eC (.int 0)))) (exU 2 ex_gone (aC (eVar 1) (aC (eVar 2) a0))) exNo) (exSeq (xIf (tB? (e2 fEq (eVar 0) (eC (.int 1)))) (xRet (eU 2 ev_back (aC (eVar 1) (aC (eVar 2) a0)))) xNext)
  (exIf (tB? (e2 fEq (eVar 0) (eC (.int 1)))) (exU 2 ex_back (aC (eVar 1) (aC (eVar 2) a0))) exNo) (exSeq (xIf (tB? (e2 fEq (eVar 0) (eC (.int 2)))) (xRet (eU 2 ev_taken (aC (eVar 1) (aC (eVar 2) a0)))) xNext)
  (exIf (tB? (e2 fEq (eVar 0) (eC (.int 2)))) (exU 2 ex_taken (aC (eVar 1) (aC (eVar 2) a0))) exNo) (exU 3 ex_aboard (aC (eVar 1) (aC (eVar 2) (aC (eVar 3) a0)))))))
def ev_law_refused : List Sl → Option Sl := fRun 6 (xSeq (xSetZ 4 (eC .non))
  (xSeq (xTry ["BadSeats"] 5 (xDrop (eU 4 ev_law_ask (aC (eVar 0) (aC (eVar 1) (aC (eVar 2) (aC (eVar 3) a0)))))) (exU 4 ex_law_ask (aC (eVar 0) (aC (eVar 1) (aC (eVar 2) (aC (eVar 3) a0))))) (xSetZ 4 (eVar 5)))
  (xSeq (xIf (tTru? (eIsXs ["BadSeats"] ["BadDeed", "BadRow", "BadTable", "BadText", "NoRow", "TooMany", "Unlike"] (eVar 4))) (xRet (eC (.bl false))) xNext)
  (xRet (eAnd (eIsX ["BadSeats"] "BadSeats" (eVar 4)) (eIsV ["BadSeats"] (eVar 4)))))))
def ev_law_cell : List Sl → Option Sl := fRun 2 (xSeq (xIf (tB? (e2 fLt (eVar 1) (eF fLen (aC (eVar 0) a0)))) (xRet (e2 fIx (eVar 0) (eVar 1))) xNext)
  (xRet (eC (.int 0))))
def ev_law_stretches : List Sl → Option Sl := fRun 8 (xSeq (xSetZ 4 (e2 fSub (e2 fMod (eU 2 ev_law_cell (aC (eVar 0) (aC (eC (.int 1)) a0))) (e2 fAdd (e2 fMul (eC (.int 2)) (eVar 3)) (eC (.int 1)))) (eVar 3)))
  (xSeq (xSet 5 (eLst a0))
  (xSeq (xFor (iR1 (aC (eVar 1) a0)) (.nm 6) (xSeq (xSetZ 7 (e2 fAdd (eC (.int 1)) (e2 fMod (eU 2 ev_law_cell (aC (eVar 0) (aC (e2 fAdd (eC (.int 2)) (e2 fMul (eC (.int 2)) (eVar 6))) a0))) (eVar 2))))
  (xSeq (xApp 5 (eTup (aC (eVar 4) (aC (eVar 7) a0))))
  (xSetZ 4 (e2 fAdd (e2 fAdd (e2 fAdd (eVar 4) (eVar 7)) (eC (.int 1))) (e2 fMod (eU 2 ev_law_cell (aC (eVar 0) (aC (e2 fAdd (eC (.int 3)) (e2 fMul (eC (.int 2)) (eVar 6))) a0))) (eVar 2)))))))
  (xRetV 5))))
def ev_law : List Sl → Option Sl := fRun 6 (xSeq (xSetZ 1 (eU 2 ev_law_cell (aC (eVar 0) (aC (eC (.int 0)) a0))))
  (xSeq (xSetZ 2 (eF fRow (aC (eU 4 ev_law_stretches (aC (eVar 0) (aC (e2 fMod (eVar 1) (eC (.int 9))) (aC (eC (.int 7)) (aC (eC (.int 30)) a0))))) a0)))
  (xSeq (xSetZ 3 (e2 fSub (e2 fMod (eU 2 ev_law_cell (aC (eVar 0) (aC (eC (.int 2)) a0))) (eC (.int 201))) (eC (.int 100))))
  (xSeq (xFor (iR1 (aC (eC (.int 4)) a0)) (.nm 4) (xSeq (xFor (iE false (eLst (aC (eC (.int 0)) (aC (e1 fNeg (eC (.int 1))) (aC (e2 fSub (e1 fNeg (eC (.int 1))) (e2 fMod (eU 2 ev_law_cell (aC (eVar 0) (aC (eC (.int 1)) a0))) (e2 fPow (eC (.int 10)) (eC (.int 50))))) a0))))) (.nm 5) (xIf (tNot? (tTru? (eU 4 ev_law_refused (aC (eVar 4) (aC (eVar 2) (aC (eVar 5) (aC (eVar 3) a0))))))) (xRet (eC (.bl false))) xNext))
  (xIf (tTru? (eU 4 ev_law_refused (aC (eVar 4) (aC (eVar 2) (aC (eC (.int 1)) (aC (eVar 3) a0)))))) (xRet (eC (.bl false))) xNext)))
  (xRet (eC (.bl true)))))))
end LK
namespace LK
open PySem L2 LR LE
local macro_rules | `(tactic| walk_at "sd") => `(tactic| first | omega | assumption | (simp only [List.length_append, List.length_map, List.length_reverse, List.length_cons, List.length_nil, List.length_singleton]; omega))
local macro_rules | `(tactic| walk_at "ev") => `(tactic| simp -implicitDefEqProofs (disch := walk_at "sd") only [fRun, size_eq, Int.reduceToNat, List.length_cons, List.length_nil, Nat.reduceAdd, Nat.reduceSub, Nat.reduceLT, Nat.reduceLeDiff, Nat.lt_irrefl, Nat.zero_lt_succ, Nat.succ_lt_succ_iff, List.reduceReplicate, List.cons_append, List.nil_append, List.append_nil, List.set_cons_zero, List.set_cons_succ, List.getElem?_cons_succ, List.getElem?_cons_zero, List.length_map, List.length_reverse, List.length_set, Option.bind_some, Option.map_some, Option.bind_none, Option.map_none, if_true, if_false, ite_true, ite_false, decide_true, decide_false, Bool.not_true, Bool.not_false, Bool.and_true, Bool.true_and, reduceIte, reduceCtorEq, Bool.false_eq_true, List.map_cons, List.map_nil, if_pos,
  xSeq, xIf, xRet, xRetV, xRetN, xNext, xBreak, xCont, xSet, xSetZ, xAsg, xDrop, xApp, xExt, xSetIx, xPop, xAug, eDict, eDIx, eDGet1, eDGet2, eDIn, eDNotIn, xDPut, xFrzD, iItems, eItemsL, xClr, eSortK, eListK, fInt, Sl.dk, int?, xFrz, frzE, xFor, tB?, tTru?, tAnd?, tOr?, tNot?, truS, e2, e1, eVar, eF, eM, eC, aC, a0, eU, passAll, Sl.pass, eTup, eLst, frzAll, Sl.frz, eAnd, eOr, eNot, eIf, eChain, sh?, bool?, str?, keep?, eIsi, eIsiR, tyN, D.isRow, okS_nx, okS_ct, seqK_nx, seqK_rt, seqK_bk, seqK_ct, endK_nx, endK_rt,
  fI_ok, fMul_ok, fMod_ok, fDiv_ok, fPow_ok, fNeg_ok, fAdd_ii, fAdd_ss, fAdd_oo, fAdd_ob, fAdd_bo, fAdd_bb, fAdd_os, fAdd_so, fAdd_lb, fAdd_bs, fAdd_ll, fLen_s, fLen_l, fLen_f, fLen_t, fLen_b, fLen_o, fIx_l, fIx_f, fIx_t, fIx_b, fIx_o, fStr_ok, fTuple, fList, fMax, fMin, fFld, Sl.q, Sl.r, Sl.m, Sl.d, Sl.it, fEq, fNe, eqA_ii, eqA_ss, eqA_bb, eqA_pp, eqA_PP, eqA_TT, eqA_II, fIs, fIsNot, isNon_non, isNon_int, isNon_bl, isNon_str, isNon_tup, isNon_lst, isNon_fz, isNon_row, iE, iV, iR1, iR2, iR3, eComp, impE, iZip, iZip3, iRev, iRevR, iEnum, fIn, fNotIn, xRem, fSorted, fSortedR, fMinD, fMaxD, ints_map, eSl, ePart, fSl, in62_t, in60_t, smallP_t, kit_ii, kit_ib', kit_bb, kit_tt, kit_ll, kit_ss, Pt_nm, Pt_tp, Pts_nil, Pts_cons, cst0, cst1, cst2, cst3, cst4, eq_self])
theorem m_cell (ns : List Int) (k : Int) (hk : 0 ≤ k) : ev_law_cell [.sh (.fz (ns.map .int)), .sh (.int k)] = some (.sh (.int (cell ns k))) := by
  unfold ev_law_cell
  walk_at "ev"
  by_cases h : k < (ns.length : Int)
  · simp only [h, atI_map, atI_cell hk h]
    walk_at "ev"
  · simp only [h, cell_out h]
    walk_at "ev"
theorem m_stretches (ns : List Int) (many span far : Int) (h2 : 0 ≤ many) (h3 : many ≤ 1000) (h4 : 0 < span) (h5 : 0 ≤ far) :
    ev_law_stretches [.sh (.fz (ns.map .int)), .sh (.int many), .sh (.int span), .sh (.int far)] = some (.own ((spr ns 1 span (cell ns 1 % (2 * far + 1) - far) many.toNat).2.map prE)) := by
  unfold ev_law_stretches
  walk_at "ev"
  rw [m_cell _ _ (by omega)]
  walk_at "ev"
  rw [rng0, Option.bind_assoc]
  refine loop_cnt (fun i E => ∃ j7 j8, E = [Sl.sh (D.fz (ns.map .int)), Sl.sh (D.int many), Sl.sh (D.int span), Sl.sh (D.int far), Sl.sh (D.int (spr ns 1 span (cell ns 1 % (2 * far + 1) - far) i).1), Sl.own ((spr ns 1 span (cell ns 1 % (2 * far + 1) - far) i).2.map prE), j7, j8]) ⟨.no, .no, rfl⟩ ?_ ?_
  · rintro i E hi ⟨j7, j8, rfl⟩
    have hl := spr_len ns 1 span (cell ns 1 % (2 * far + 1) - far) i
    have c1 : (2 : Int) + 2 * i = 1 + 1 + 2 * i := by omega
    have c2 : (3 : Int) + 2 * i = 1 + 2 + 2 * i := by omega
    walk_at "ev"
    rw [m_cell _ _ (by omega), c1]
    walk_at "ev"
    rw [m_cell _ _ (by omega), c2]
    walk_at "ev"
    simp only [spr, List.map_append, List.map_cons, List.map_nil]
    exact ⟨_, _, rfl⟩
  · rintro E' ⟨j7, j8, rfl⟩
    walk_at "ev"
theorem Good.cons' {p : Pr} {ps : List Pr} (g : Good (p :: ps)) : Good ps := ⟨fun i q e => g.one (i + 1) q (by simpa using e), fun i q r e1 e2 => g.gap (i + 1) q r (by simpa using e1) (by simpa using e2)⟩
theorem Good.all {ps : List Pr} (g : Good ps) : ∀ p ∈ ps, 1 ≤ p.2 := fun p hp => by
  obtain ⟨i, hi, e⟩ := List.mem_iff_getElem.mp hp
  exact g.one i p (by simp [hi, e])
theorem Good.first {p : Pr} : ∀ {ps : List Pr}, Good (p :: ps) → ∀ q ∈ ps, p.1 + p.2 < q.1
  | [], _, q, hq => nomatch hq
  | r :: ps, g, q, hq => by
    have h1 := g.gap 0 p r rfl rfl
    rcases List.mem_cons.mp hq with z | z
    · rw [z]; exact h1
    · have h2 := Good.first (Good.cons' g) q z
      have h3 := g.one 1 r rfl
      omega
theorem fIx_p0 (p : Pr) : fIx (.sh (prE p)) (.sh (.int 0)) = some (.sh (.int p.1)) := rfl
theorem fIx_p1 (p : Pr) : fIx (.sh (prE p)) (.sh (.int 1)) = some (.sh (.int p.2)) := rfl
theorem m_ball_count (ps : List Pr) (h : ps.length ≤ 1000) : ev_ball_count [.sh (.row (ps.map prE))] = some (.sh (.int (ps.map (·.2)).sum)) := by
  unfold ev_ball_count
  walk_at "ev"
  rw [each_yes (g := fun p => D.int p.2)]
  · walk_at "ev"
    rw [fSum_ok (ns := ps.map (·.2)) (by simp [Sl.q])]
    walk_at "ev"
  · intro p hp
    simp only [prE]
    walk_at "ev"
def gapsF : List Pr → List Int
  | [] => []
  | [_] => []
  | p :: q :: r => (q.1 - (p.1 + p.2)) :: gapsF (q :: r)
theorem gapsF_zip : ∀ ps : List Pr, gapsF ps = (List.zip ps (ps.drop 1)).map fun pq => pq.2.1 - (pq.1.1 + pq.1.2)
  | [] => rfl
  | [_] => rfl
  | p :: q :: r => by
    rw [gapsF, gapsF_zip (q :: r)]
    rfl
theorem gapsF_len : ∀ ps : List Pr, (gapsF ps).length = ps.length - 1
  | [] => rfl
  | [_] => rfl
  | p :: q :: r => by rw [gapsF, List.length_cons, gapsF_len (q :: r)]; simp
theorem cutD_one {α : Type} (xs : List α) : cutD xs (some 1) none = xs.drop 1 := by
  unfold cutD
  have e : HT.sIx xs.length 0 (some 1) = min 1 xs.length := rfl
  rw [e, show HT.sIx xs.length xs.length none = xs.length from rfl]
  cases xs with
  | nil => rfl
  | cons x xs => simp
theorem m_gaps (ps : List Pr) (h : ps.length ≤ 1000) : ev_gaps_of [.sh (.row (ps.map prE))] = some (.own ((gapsF ps).map .int)) := by
  unfold ev_gaps_of
  walk_at "ev"
  rw [cutD_one, ← List.map_drop, zip_map]
  walk_at "ev"
  have hz : (List.zip ps (ps.drop 1)).length ≤ 16777216 := by rw [List.length_zip]; omega
  rw [if_pos hz, each_yes (g := fun pq => D.int (pq.2.1 - (pq.1.1 + pq.1.2)))]
  · walk_at "ev"
    rw [gapsF_zip, List.map_map]
    rfl
  · intro pq _
    walk_at "ev"
    rw [fIx_p0]
    walk_at "ev"
    rw [fSum_ok (ns := [pq.1.1, pq.1.2]) rfl]
    walk_at "ev"
    simp
def seatE : Option Int → D
  | none => .non
  | some s => .int s
def mostF (ps : List Pr) : Option Int → Int
  | none => (ps.map (·.2)).sum
  | some s => s
structure Stp where
  b : Int
  l : Int
  t : Int
  s : Int
def stpE (x : Stp) : D := .tup [.int x.b, .int x.l, .int x.t, .int x.s]
def stF (most : Int) : Int → List (Pr × Int) → List Stp
  | _, [] => []
  | load, (p, g) :: r => ⟨p.1, p.2, min p.2 (most - load), min (load + min p.2 (most - load)) g⟩ :: stF most (load + min p.2 (most - load) - min (load + min p.2 (most - load)) g) r
def stopsF (ps : List Pr) (seats : Option Int) : List Stp := stF (mostF ps seats) 0 (List.zip ps (gapsF ps ++ [mostF ps seats]))
theorem stF_len (most : Int) : ∀ (l : List (Pr × Int)) (load : Int), (stF most load l).length = l.length
  | [], _ => rfl
  | (p, g) :: r, load => by rw [stF, List.length_cons, stF_len most r]; rfl
theorem stops_len (ps : List Pr) (seats : Option Int) : (stopsF ps seats).length = ps.length := by
  unfold stopsF
  rw [stF_len, List.length_zip, List.length_append, gapsF_len]
  simp
  omega
def OkS (seats : Option Int) : Prop := ∀ s, seats = some s → 1 ≤ s
theorem m_check (seats : Option Int) (h : OkS seats) : ev_check_seats [.sh (seatE seats)] = some (.sh .non) := by
  unfold ev_check_seats
  cases seats with
  | none =>
    simp only [seatE]
    walk_at "ev"
  | some s =>
    have := h s rfl
    have h1 : ¬ s < 1 := by omega
    simp only [seatE]
    walk_at "ev"
    simp only [h1]
    walk_at "ev"
theorem fAdd_tt (p : Pr) (x y : D) : fAdd (.sh (prE p)) (.sh (.tup [x, y])) = some (.sh (.tup [.int p.1, .int p.2, x, y])) := by simp [fAdd, prE, size_eq]
theorem m_stops (ps : List Pr) (seats : Option Int) (h : ps.length ≤ 1000) (hs : OkS seats) : ev_stops [.sh (.row (ps.map prE)), .sh (seatE seats)] = some (.own ((stopsF ps seats).map stpE)) := by
  unfold ev_stops
  walk_at "ev"
  rw [m_check _ hs]
  walk_at "ev"
  have hm : (if (seatE seats).isNon = true then ev_ball_count [.sh (.row (ps.map prE))] else some (.sh (seatE seats))) = some (.sh (.int (mostF ps seats))) := by
    cases seats with
    | none => exact m_ball_count ps h
    | some s => rfl
  rw [hm]
  walk_at "ev"
  rw [m_gaps _ h]
  have hgl := gapsF_len ps
  walk_at "ev"
  have e1 : (gapsF ps).map D.int ++ [D.int (mostF ps seats)] = (gapsF ps ++ [mostF ps seats]).map D.int := by simp
  rw [e1, zip_map, Option.bind_assoc]
  have hzl : (List.zip ps (gapsF ps ++ [mostF ps seats])).length ≤ 1000 := by rw [List.length_zip]; omega
  refine loop_rel (f := fun x : Pr × Int => D.tup [prE x.1, .int x.2]) (fun (rest : List (Pr × Int)) (st : List Stp × Int) E => ∃ j5 j6 j7 j8, E = [.sh (.row (ps.map prE)), .sh (seatE seats), .sh (.int (mostF ps seats)), .own (st.1.map stpE), .sh (.int st.2), j5, j6, j7, j8] ∧ st.1 ++ stF (mostF ps seats) st.2 rest = stopsF ps seats ∧ st.1.length + rest.length ≤ 1000)
    (fun st x => (st.1 ++ [⟨x.1.1, x.1.2, min x.1.2 (mostF ps seats - st.2), min (st.2 + min x.1.2 (mostF ps seats - st.2)) x.2⟩], st.2 + min x.1.2 (mostF ps seats - st.2) - min (st.2 + min x.1.2 (mostF ps seats - st.2)) x.2)) ([], 0) ⟨.no, .no, .no, .no, rfl, rfl, by simpa using hzl⟩ ?_ ?_
  · rintro ⟨p, g⟩ rest ⟨acc, load⟩ E ⟨j5, j6, j7, j8, rfl, e, hl⟩
    have hl2 : acc.length + (rest.length + 1) ≤ 1000 := hl
    walk_at "ev"
    rw [fIx_p1]
    walk_at "ev"
    rw [fAdd_tt]
    walk_at "ev"
    simp only [List.map_append, List.map_cons, List.map_nil]
    exact ⟨_, _, _, _, rfl, by rw [← e, stF, List.append_assoc]; rfl, by rw [List.length_append, List.length_singleton]; omega⟩
  · rintro E' ⟨j5, j6, j7, j8, rfl, e, _⟩
    walk_at "ev"
    rw [stF, List.append_nil] at e
    rw [e]
theorem Good.mk' {p : Pr} {ps : List Pr} (h1 : 1 ≤ p.2) (h2 : ∀ q, ps[0]? = some q → p.1 + p.2 < q.1) (g : Good ps) : Good (p :: ps) := by
  refine ⟨fun i q e => ?_, fun i q r e1 e2 => ?_⟩
  · cases i with
    | zero => simp at e; subst e; exact h1
    | succ i => exact g.one i q (by simpa using e)
  · cases i with
    | zero => simp at e1; subst e1; exact h2 r (by simpa using e2)
    | succ i => exact g.gap i q r (by simpa using e1) (by simpa using e2)
def toPr (x : Stp) : Pr := (x.b + x.t, x.l - x.t + x.s)
def goneF (ps : List Pr) (seats : Option Int) : List Pr := (stopsF ps seats).map toPr
theorem gone_good {most : Int} (hm : 1 ≤ most) : ∀ (ps : List Pr) (load : Int), Good ps → 0 ≤ load → load ≤ most →
    Good ((stF most load (List.zip ps (gapsF ps ++ [most]))).map toPr) ∧ ∀ q, ((stF most load (List.zip ps (gapsF ps ++ [most]))).map toPr)[0]? = some q → ∀ p, ps[0]? = some p → q.1 = p.1 + min p.2 (most - load)
  | [], load, _, _, _ => ⟨Good.nil, fun q e => by simp [gapsF, stF] at e⟩
  | [p], load, g, h0, h1 => by
    have hp := g.one 0 p rfl
    refine ⟨Good.mk' ?_ (fun q e => by simp [stF] at e) Good.nil, fun q e r er => ?_⟩
    · show 1 ≤ p.2 - min p.2 (most - load) + min (load + min p.2 (most - load)) most
      omega
    · simp [gapsF, stF, toPr] at e er
      subst er
      rw [← e]
  | p :: q :: r, load, g, h0, h1 => by
    have hp := g.one 0 p rfl
    have hq := g.one 1 q rfl
    have hg := g.gap 0 p q rfl rfl
    have ih := gone_good hm (q :: r) (load + min p.2 (most - load) - min (load + min p.2 (most - load)) (q.1 - (p.1 + p.2))) (Good.cons' g) (by omega) (by omega)
    have e0 : (stF most load (List.zip (p :: q :: r) (gapsF (p :: q :: r) ++ [most]))).map toPr = toPr ⟨p.1, p.2, min p.2 (most - load), min (load + min p.2 (most - load)) (q.1 - (p.1 + p.2))⟩ :: (stF most (load + min p.2 (most - load) - min (load + min p.2 (most - load)) (q.1 - (p.1 + p.2))) (List.zip (q :: r) (gapsF (q :: r) ++ [most]))).map toPr := rfl
    rw [e0]
    refine ⟨Good.mk' ?_ (fun q' e => ?_) ih.1, fun q' e p' ep => ?_⟩
    · show 1 ≤ p.2 - min p.2 (most - load) + min (load + min p.2 (most - load)) (q.1 - (p.1 + p.2))
      omega
    · have := ih.2 q' e q rfl
      show p.1 + min p.2 (most - load) + (p.2 - min p.2 (most - load) + min (load + min p.2 (most - load)) (q.1 - (p.1 + p.2))) < q'.1
      omega
    · simp at e ep
      subst ep
      rw [← e]
      rfl
theorem most_pos {ps : List Pr} (g : Good ps) (seats : Option Int) (hs : OkS seats) (h : ps ≠ []) : 1 ≤ mostF ps seats := by
  cases seats with
  | some s => exact hs s rfl
  | none =>
    cases ps with
    | nil => exact absurd rfl h
    | cons p ps =>
      have h1 := g.one 0 p rfl
      have h2 : 0 ≤ (ps.map (·.2)).sum := by
        have al := Good.all (Good.cons' g)
        clear h1 h g
        induction ps with
        | nil => exact Int.le_refl _
        | cons q ps ih =>
          have a1 := al q List.mem_cons_self
          have a2 := ih fun x hx => al x (List.mem_cons_of_mem _ hx)
          rw [List.map_cons, List.sum_cons]
          omega
      show 1 ≤ ((p :: ps).map (·.2)).sum
      rw [List.map_cons, List.sum_cons]
      omega
theorem goneF_good {ps : List Pr} (g : Good ps) (seats : Option Int) (hs : OkS seats) : Good (goneF ps seats) := by
  by_cases h : ps = []
  · subst h; exact Good.nil
  · have := most_pos g seats hs h
    exact (gone_good this ps 0 g (Int.le_refl _) (by omega)).1
theorem goneF_len (ps : List Pr) (seats : Option Int) : (goneF ps seats).length = ps.length := by unfold goneF; rw [List.length_map, stops_len]
theorem m_gone (ps : List Pr) (seats : Option Int) (g : Good ps) (h : ps.length ≤ 30) (hs : OkS seats) : ev_gone [.sh (.row (ps.map prE)), .sh (seatE seats)] = some (.sh (.row ((goneF ps seats).map prE))) := by
  have hl := stops_len ps seats
  have hl2 := goneF_len ps seats
  unfold ev_gone
  walk_at "ev"
  rw [m_stops _ _ (by omega) hs]
  walk_at "ev"
  rw [each_yes (g := fun x => prE (toPr x))]
  · walk_at "ev"
    have e : (stopsF ps seats).map (fun x => prE (toPr x)) = (goneF ps seats).map prE := by unfold goneF; rw [List.map_map]; rfl
    rw [e, fRow_ok rfl (goneF_good g seats hs) (by omega)]
    walk_at "ev"
  · intro x _
    simp only [stpE]
    walk_at "ev"
    rfl
def takenF (ps : List Pr) (seats : Option Int) : Int := ((stopsF ps seats).map (·.t)).sum
def abStep (x : Int) (a : Int) (s : Stp) : Int := a + min s.t (max 0 (x - s.b)) - min s.s (max 0 (x - s.b - s.l))
def aboardF (ps : List Pr) (seats : Option Int) (x : Int) : Int := (stopsF ps seats).foldl (abStep x) 0
theorem m_taken (ps : List Pr) (seats : Option Int) (h : ps.length ≤ 1000) (hs : OkS seats) : ev_taken [.sh (.row (ps.map prE)), .sh (seatE seats)] = some (.sh (.int (takenF ps seats))) := by
  have hl := stops_len ps seats
  unfold ev_taken
  walk_at "ev"
  rw [m_stops _ _ h hs]
  walk_at "ev"
  rw [each_yes (g := fun x => D.int x.t)]
  · walk_at "ev"
    rw [fSum_ok (ns := (stopsF ps seats).map (·.t)) (by simp [Sl.q])]
    walk_at "ev"
    rfl
  · intro x _
    simp only [stpE]
    walk_at "ev"
theorem m_aboard (ps : List Pr) (seats : Option Int) (x : Int) (h : ps.length ≤ 1000) (hs : OkS seats) : ev_aboard [.sh (.row (ps.map prE)), .sh (seatE seats), .sh (.int x)] = some (.sh (.int (aboardF ps seats x))) := by
  unfold ev_aboard
  walk_at "ev"
  rw [m_stops _ _ h hs]
  walk_at "ev"
  rw [Option.bind_assoc]
  refine loop_rel (fun (rest : List Stp) (a : Int) E => ∃ j4 j5 j6 j7, E = [.sh (.row (ps.map prE)), .sh (seatE seats), .sh (.int x), .sh (.int a), j4, j5, j6, j7] ∧ rest.foldl (abStep x) a = aboardF ps seats x) (abStep x) 0 ⟨.no, .no, .no, .no, rfl, rfl⟩ ?_ ?_
  · rintro s rest a E ⟨j4, j5, j6, j7, rfl, e⟩
    simp only [stpE]
    walk_at "ev"
    exact ⟨_, _, _, _, rfl, e⟩
  · rintro E' ⟨j4, j5, j6, j7, rfl, e⟩
    walk_at "ev"
    rw [List.foldl_nil] at e
    rw [e]
def mirP (p : Pr) : Pr := (1 - p.1 - p.2, p.2)
def mirF (ps : List Pr) : List Pr := ps.reverse.map mirP
theorem mirF_len (ps : List Pr) : (mirF ps).length = ps.length := by unfold mirF; rw [List.length_map, List.length_reverse]
theorem mirF_get {ps : List Pr} {j : Nat} {q : Pr} (e : (mirF ps)[j]? = some q) : ∃ p, ps[ps.length - 1 - j]? = some p ∧ q = mirP p ∧ j < ps.length := by
  unfold mirF at e
  rw [List.getElem?_map, Option.map_eq_some_iff] at e
  obtain ⟨p, e, rfl⟩ := e
  have hj : j < ps.length := by have := (List.getElem?_eq_some_iff.mp e).1; rwa [List.length_reverse] at this
  rw [List.getElem?_reverse hj] at e
  exact ⟨p, e, rfl, hj⟩
theorem mir_good {ps : List Pr} (g : Good ps) : Good (mirF ps) := by
  refine ⟨fun j q e => ?_, fun j q r e1 e2 => ?_⟩
  · obtain ⟨p, h, rfl, _⟩ := mirF_get e
    exact g.one _ p h
  · obtain ⟨p, h, rfl, hj⟩ := mirF_get e1
    obtain ⟨p', h', rfl, hj'⟩ := mirF_get e2
    have : ps.length - 1 - j = ps.length - 1 - (j + 1) + 1 := by omega
    rw [this] at h
    have := g.gap _ p' p h' h
    unfold mirP
    dsimp only
    omega
structure GoIx (most : Int) (ps : List Pr) (a t s : Nat → Int) : Prop where
  ht : ∀ i p, ps[i]? = some p → t i = min p.2 (most - a i)
  hs : ∀ i p q, ps[i]? = some p → ps[i + 1]? = some q → s i = min (a i + t i) (q.1 - (p.1 + p.2))
  hz : ∀ i p, ps[i]? = some p → ps[i + 1]? = none → s i = min (a i + t i) most
  ha : ∀ i, i < ps.length → a (i + 1) = a i + t i - s i
def backF (ps : List Pr) (seats : Option Int) : List Pr := mirF (goneF (mirF ps) seats)
theorem rev_map {α β : Type} (f : α → β) (xs : List α) : (xs.map f).reverse = xs.reverse.map f := List.map_reverse.symm
theorem m_mirrored (ps : List Pr) (g : Good ps) (h : ps.length ≤ 30) : ev_mirrored [.sh (.row (ps.map prE))] = some (.sh (.row ((mirF ps).map prE))) := by
  have hl := mirF_len ps
  unfold ev_mirrored
  walk_at "ev"
  rw [rev_map, each_yes (g := fun p => prE (mirP p))]
  · walk_at "ev"
    have e : ps.reverse.map (fun p => prE (mirP p)) = (mirF ps).map prE := by unfold mirF; rw [List.map_map]; rfl
    rw [e, fRow_ok rfl (mir_good g) (by omega)]
    walk_at "ev"
  · intro p _
    simp only [prE]
    walk_at "ev"
    rfl
theorem m_back (ps : List Pr) (seats : Option Int) (g : Good ps) (h : ps.length ≤ 30) (hs : OkS seats) : ev_back [.sh (.row (ps.map prE)), .sh (seatE seats)] = some (.sh (.row ((backF ps seats).map prE))) := by
  have h1 := mirF_len ps
  have h2 := goneF_len (mirF ps) seats
  unfold ev_back
  walk_at "ev"
  rw [m_mirrored _ g h]
  walk_at "ev"
  rw [m_gone _ _ (mir_good g) (by omega) hs]
  walk_at "ev"
  rw [m_mirrored _ (goneF_good (mir_good g) seats hs) (by omega)]
  walk_at "ev"
  rfl
theorem loop_ex {α β : Type} {p : Pt} {b : Es} {f : α → D} (R : List α → β → En → Prop) (g : β → α → β) : ∀ {as : List α} {E : En} (s : β) (h0 : R as s E)
    (h : ∀ a as s E, R (a :: as) s E → okS (R as (g s a)) ((p.bind (f a) E).bind b)), ∃ E', R [] (as.foldl g s) E' ∧ xLoop p b (as.map f) E = some (.nx E')
  | [], E, s, h0, _ => ⟨E, h0, rfl⟩
  | a :: as, E, s, h0, h => by
    obtain ⟨E2, e2, r2⟩ := okS_some (h a as s E h0)
    obtain ⟨E', h1, h2⟩ := loop_ex R g (as := as) (E := E2) (g s a) r2 h
    refine ⟨E', h1, ?_⟩
    rw [List.map_cons, xLoop]
    cases hp : p.bind (f a) E with
    | none => rw [hp] at e2; rcases e2 with e2 | e2 <;> cases e2
    | some E1 =>
      rw [hp, Option.bind_some] at e2
      rw [Option.bind_some]
      rcases e2 with e2 | e2 <;> (rw [e2, Option.bind_some]; exact h2)
theorem bad_check (s : Int) (h : s < 1) : ev_check_seats [.sh (.int s)] = none := by
  unfold ev_check_seats
  walk_at "ev"
  simp only [h]
  walk_at "ev"
  rfl
theorem ex_check (s : Int) (h : s < 1) : ex_check_seats [.sh (.int s)] = some (Str.ofString "BadSeats") := by
  unfold ex_check_seats exRun exIf exRaise
  walk_at "ev"
  simp only [h]
  walk_at "ev"
theorem bad_stops (r : D) (s : Int) (h : s < 1) : ev_stops [.sh r, .sh (.int s)] = none := by
  unfold ev_stops
  walk_at "ev"
  rw [bad_check s h]
  walk_at "ev"
theorem ex_stops' (r : D) (s : Int) (h : s < 1) : ex_stops [.sh r, .sh (.int s)] = some (Str.ofString "BadSeats") := by
  unfold ex_stops exRun exSeq exU
  walk_at "ev"
  rw [ex_check s h]
theorem bad_gone (r : D) (s : Int) (h : s < 1) : ev_gone [.sh r, .sh (.int s)] = none := by
  unfold ev_gone
  walk_at "ev"
  rw [bad_stops r s h]
  walk_at "ev"
theorem ex_gone' (r : D) (s : Int) (h : s < 1) : ex_gone [.sh r, .sh (.int s)] = some (Str.ofString "BadSeats") := by
  unfold ex_gone exRun exC exU
  walk_at "ev"
  rw [ex_stops' r s h]
theorem bad_taken (r : D) (s : Int) (h : s < 1) : ev_taken [.sh r, .sh (.int s)] = none := by
  unfold ev_taken
  walk_at "ev"
  rw [bad_stops r s h]
  walk_at "ev"
theorem ex_taken' (r : D) (s : Int) (h : s < 1) : ex_taken [.sh r, .sh (.int s)] = some (Str.ofString "BadSeats") := by
  unfold ex_taken exRun exC exU
  walk_at "ev"
  rw [ex_stops' r s h]
theorem bad_aboard (r : D) (s x : Int) (h : s < 1) : ev_aboard [.sh r, .sh (.int s), .sh (.int x)] = none := by
  unfold ev_aboard
  walk_at "ev"
  rw [bad_stops r s h]
  walk_at "ev"
theorem ex_aboard' (r : D) (s x : Int) (h : s < 1) : ex_aboard [.sh r, .sh (.int s), .sh (.int x)] = some (Str.ofString "BadSeats") := by
  unfold ex_aboard exRun exSeq exU exNo
  walk_at "ev"
  rw [ex_stops' r s h]
theorem bad_back (ps : List Pr) (g : Good ps) (h30 : ps.length ≤ 30) (s : Int) (h : s < 1) : ev_back [.sh (.row (ps.map prE)), .sh (.int s)] = none := by
  unfold ev_back
  walk_at "ev"
  rw [m_mirrored _ g h30]
  walk_at "ev"
  rw [bad_gone _ s h]
  walk_at "ev"
theorem ex_back' (ps : List Pr) (g : Good ps) (h30 : ps.length ≤ 30) (s : Int) (h : s < 1) : ex_back [.sh (.row (ps.map prE)), .sh (.int s)] = some (Str.ofString "BadSeats") := by
  unfold ex_back exRun exC exU
  walk_at "ev"
  rw [m_mirrored _ g h30]
  walk_at "ev"
  rw [ex_gone' _ s h]
theorem d10 : decide ((1 : Int) = 0) = false := by decide
theorem d20 : decide ((2 : Int) = 0) = false := by decide
theorem d30 : decide ((3 : Int) = 0) = false := by decide
theorem d21 : decide ((2 : Int) = 1) = false := by decide
theorem d31 : decide ((3 : Int) = 1) = false := by decide
theorem d32 : decide ((3 : Int) = 2) = false := by decide
theorem four {w : Int} (h0 : 0 ≤ w) (h4 : w < 4) : w = 0 ∨ w = 1 ∨ w = 2 ∨ w = 3 := by omega
theorem bad_ask (ps : List Pr) (g : Good ps) (h30 : ps.length ≤ 30) (w s x : Int) (h0 : 0 ≤ w) (h4 : w < 4) (h : s < 1) : ev_law_ask [.sh (.int w), .sh (.row (ps.map prE)), .sh (.int s), .sh (.int x)] = none := by
  unfold ev_law_ask
  rcases four h0 h4 with rfl | rfl | rfl | rfl
  · walk_at "ev"
    rw [bad_gone _ s h]
    walk_at "ev"
  · walk_at "ev"
    simp only [d10]
    walk_at "ev"
    rw [bad_back _ g h30 s h]
    walk_at "ev"
  · walk_at "ev"
    simp only [d20]
    walk_at "ev"
    simp only [d21]
    walk_at "ev"
    rw [bad_taken _ s h]
    walk_at "ev"
  · walk_at "ev"
    simp only [d30]
    walk_at "ev"
    simp only [d31]
    walk_at "ev"
    simp only [d32]
    walk_at "ev"
    rw [bad_aboard _ s x h]
    walk_at "ev"
theorem ex_ask (ps : List Pr) (g : Good ps) (h30 : ps.length ≤ 30) (w s x : Int) (h0 : 0 ≤ w) (h4 : w < 4) (h : s < 1) : ex_law_ask [.sh (.int w), .sh (.row (ps.map prE)), .sh (.int s), .sh (.int x)] = some (Str.ofString "BadSeats") := by
  unfold ex_law_ask exRun exSeq exIf exU exNo
  rcases four h0 h4 with rfl | rfl | rfl | rfl
  · walk_at "ev"
    rw [ex_gone' _ s h]
  · walk_at "ev"
    simp only [d10]
    walk_at "ev"
    rw [ex_back' _ g h30 s h]
  · walk_at "ev"
    simp only [d20]
    walk_at "ev"
    simp only [d21]
    walk_at "ev"
    rw [ex_taken' _ s h]
  · walk_at "ev"
    simp only [d30]
    walk_at "ev"
    simp only [d31]
    walk_at "ev"
    simp only [d32]
    walk_at "ev"
    rw [ex_aboard' _ s x h]
theorem good_ask (ps : List Pr) (g : Good ps) (h30 : ps.length ≤ 30) (w x : Int) (h0 : 0 ≤ w) (h4 : w < 4) : ∃ r, ev_law_ask [.sh (.int w), .sh (.row (ps.map prE)), .sh (.int 1), .sh (.int x)] = some r := by
  have o1 : OkS (some 1) := fun t e => by cases e; omega
  unfold ev_law_ask
  rcases four h0 h4 with rfl | rfl | rfl | rfl
  · refine ⟨.sh (.row ((goneF ps (some 1)).map prE)), ?_⟩
    walk_at "ev"
    rw [show ev_gone [.sh (.row (ps.map prE)), .sh (.int 1)] = _ from m_gone ps (some 1) g h30 o1]
    walk_at "ev"
  · refine ⟨.sh (.row ((backF ps (some 1)).map prE)), ?_⟩
    walk_at "ev"
    simp only [d10]
    walk_at "ev"
    rw [show ev_back [.sh (.row (ps.map prE)), .sh (.int 1)] = _ from m_back ps (some 1) g h30 o1]
    walk_at "ev"
  · refine ⟨.sh (.int (takenF ps (some 1))), ?_⟩
    walk_at "ev"
    simp only [d20]
    walk_at "ev"
    simp only [d21]
    walk_at "ev"
    rw [show ev_taken [.sh (.row (ps.map prE)), .sh (.int 1)] = _ from m_taken ps (some 1) (by omega) o1]
    walk_at "ev"
  · refine ⟨.sh (.int (aboardF ps (some 1) x)), ?_⟩
    walk_at "ev"
    simp only [d30]
    walk_at "ev"
    simp only [d31]
    walk_at "ev"
    simp only [d32]
    walk_at "ev"
    rw [show ev_aboard [.sh (.row (ps.map prE)), .sh (.int 1), .sh (.int x)] = _ from m_aboard ps (some 1) x (by omega) o1]
    walk_at "ev"
theorem bad_refused (ps : List Pr) (g : Good ps) (h30 : ps.length ≤ 30) (w s x : Int) (h0 : 0 ≤ w) (h4 : w < 4) (h : s < 1) : ev_law_refused [.sh (.int w), .sh (.row (ps.map prE)), .sh (.int s), .sh (.int x)] = some (.sh (.bl true)) := by
  unfold ev_law_refused xTry exU
  walk_at "ev"
  rw [bad_ask ps g h30 w s x h0 h4 h, ex_ask ps g h30 w s x h0 h4 h]
  walk_at "ev"
  rfl
theorem good_refused (ps : List Pr) (g : Good ps) (h30 : ps.length ≤ 30) (w x : Int) (h0 : 0 ≤ w) (h4 : w < 4) : ev_law_refused [.sh (.int w), .sh (.row (ps.map prE)), .sh (.int 1), .sh (.int x)] = some (.sh (.bl false)) := by
  obtain ⟨r, hr⟩ := good_ask ps g h30 w x h0 h4
  unfold ev_law_refused xTry exU
  walk_at "ev"
  rw [hr]
  walk_at "ev"
  rfl
theorem inner16 (ps : List Pr) (g : Good ps) (h30 : ps.length ≤ 30) (fz : D) (c x w : Int) (h0 : 0 ≤ w) (h4 : w < 4) (j5 : Sl) (k : Int) (hk : 0 ≤ k) : ∃ j, xLoop (.nm 5) (xIf (tNot? (tTru? (eU 4 ev_law_refused (aC (eVar 4) (aC (eVar 2) (aC (eVar 5) (aC (eVar 3) a0))))))) (xRet (eC (.bl false))) xNext) ([0, -1, -1 - k].map D.int) [.sh fz, .sh (.int c), .sh (.row (ps.map prE)), .sh (.int x), .sh (.int w), j5] = some (.nx [.sh fz, .sh (.int c), .sh (.row (ps.map prE)), .sh (.int x), .sh (.int w), j]) := by
  obtain ⟨E', ⟨⟨j, rfl⟩, _⟩, h⟩ := loop_ex (β := Unit) (p := .nm 5) (b := xIf (tNot? (tTru? (eU 4 ev_law_refused (aC (eVar 4) (aC (eVar 2) (aC (eVar 5) (aC (eVar 3) a0))))))) (xRet (eC (.bl false))) xNext) (f := D.int)
    (fun (rest : List Int) _ E => (∃ j, E = [.sh fz, .sh (.int c), .sh (.row (ps.map prE)), .sh (.int x), .sh (.int w), j]) ∧ ∀ s ∈ rest, s < 1) (fun _ _ => ()) (as := [0, -1, -1 - k]) (E := [.sh fz, .sh (.int c), .sh (.row (ps.map prE)), .sh (.int x), .sh (.int w), j5]) () ⟨⟨j5, rfl⟩, fun s hs => by
      simp only [List.mem_cons, List.not_mem_nil, or_false] at hs
      omega⟩ (by
      rintro s rest _ E ⟨⟨j, rfl⟩, hr⟩
      walk_at "ev"
      rw [bad_refused ps g h30 w s x h0 h4 (hr s List.mem_cons_self)]
      walk_at "ev"
      exact ⟨⟨_, rfl⟩, fun t ht => hr t (List.mem_cons_of_mem _ ht)⟩)
  exact ⟨j, h⟩
theorem law_true (ns : List Int) (hn : ns.length ≤ 63) : ev_law [.sh (.fz (ns.map .int))] = some (.sh (.bl true)) := by
  unfold ev_law
  walk_at "ev"
  rw [m_cell _ _ (by omega)]
  walk_at "ev"
  rw [m_stretches ns (cell ns 0 % 9) 7 30 (by omega) (by omega) (by omega) (by omega)]
  have g : Good (spr ns 1 7 (cell ns 1 % (2 * 30 + 1) - 30) (cell ns 0 % 9).toNat).2 := (spr_good ns 1 _ _ (by omega) _).1
  have h30 : (spr ns 1 7 (cell ns 1 % (2 * 30 + 1) - 30) (cell ns 0 % 9).toNat).2.length ≤ 30 := by rw [spr_len]; omega
  revert g h30
  generalize (spr ns 1 7 (cell ns 1 % (2 * 30 + 1) - 30) (cell ns 0 % 9).toNat).2 = ps
  intro g h30
  walk_at "ev"
  rw [fRow_ok rfl g h30]
  walk_at "ev"
  rw [m_cell _ _ (by omega)]
  walk_at "ev"
  rw [show rng 0 4 = ((List.range 4).map fun i : Nat => D.int (0 + (i : Int))) from rfl, Option.bind_assoc]
  refine loop_cnt (fun i E => ∃ j4 j5, E = [.sh (.fz (ns.map .int)), .sh (.int (cell ns 0)), .sh (.row (ps.map prE)), .sh (.int (cell ns 2 % 201 - 100)), j4, j5]) ⟨.no, .no, rfl⟩ ?_ ?_
  · rintro i E hi ⟨j4, j5, rfl⟩
    walk_at "ev"
    rw [m_cell _ _ (by omega)]
    walk_at "ev"
    obtain ⟨j, hj⟩ := inner16 ps g h30 (.fz (ns.map .int)) (cell ns 0) (cell ns 2 % 201 - 100) (0 + (i : Int)) (by omega) (by omega) j5 (cell ns 1 % 10 ^ 50) (Int.emod_nonneg _ (by decide))
    simp only [List.map_cons, List.map_nil] at hj
    rw [hj]
    walk_at "ev"
    rw [good_refused ps g h30 _ _ (by omega) (by omega)]
    walk_at "ev"
    exact ⟨_, _, rfl⟩
  · rintro E' ⟨j4, j5, rfl⟩
    walk_at "ev"
end LK
namespace LK
open PySem L2 LR LE
def top (i : Nat) : Stmt := PySem.Challenge.pw_lumprow_k16_seats_refused.main.body.getD i (.Pass ⟨0, 0, 0, 0⟩)
abbrev s_gaps_of : Stmt := top 15
abbrev s_ball_count : Stmt := top 14
abbrev s_check_seats : Stmt := top 18
abbrev s_stops : Stmt := top 19
abbrev s_aboard : Stmt := top 23
abbrev s_taken : Stmt := top 22
abbrev s_check_stretches : Stmt := top 13
abbrev s_Row_init : Stmt := inClass (top 12) 0
abbrev s_mirrored : Stmt := top 16
abbrev s_gone : Stmt := top 20
abbrev s_back : Stmt := top 21
abbrev s_law_ask : Stmt := top 27
abbrev s_law_refused : Stmt := top 28
abbrev s_law_cell : Stmt := top 25
abbrev s_law_stretches : Stmt := top 26
abbrev s_law : Stmt := top 29
section
variable {P : Program} {w : World} {K : PySem.W.Frag} {C : Addr} {mg : Str → Option Value} {base : Heap} {c_BadSeats : Addr} {c_BadDeed : Addr} {c_BadRow : Addr} {c_BadTable : Addr} {c_BadText : Addr} {c_NoRow : Addr} {c_TooMany : Addr} {c_Unlike : Addr} {c_LumpError : Addr}
theorem sc_gaps_of : FnScope ["row"] ["row"] (defScope s_gaps_of) := ⟨rfl, rfl, rfl, by decide +kernel, rfl, by decide +kernel, by decide +kernel⟩
theorem ok_gaps_of {f : Addr} {fd : FuncData} (F : Fun K "gaps_of" "gaps_of" s_gaps_of f fd) (b_sum : mg "sum" = none) (b_zip : mg "zip" = none) (T : RowC K C) : FnOk P w K mg base CX0 1 f fd ["row"] (spE K C 1 ev_gaps_of) := by
  refine F.ok sc_gaps_of (fun vs H Q E h => spE_len h) (fun cdv A outer s H vs Q E hr h => ?_)
  have hu := hr.units
  refine ⟨_, (pss_one (ps_ret (pe_comp (N' := ["left", "right"]) (imp := [none, none]) rfl (pi_zipK (K := K) rfl rfl b_zip (pa_cons (pe_fldK (K := K) rfl (pv 0) rfl) (pa_cons (pe_slice (sl_allK (K := K) rfl) (pe_fldK (K := K) rfl (pv 0) rfl) (po_some pe_int) po_none) pa_nil))) (blk0 rfl rfl) (fun _ _ _ _ => (pg_tupK (K := K) (n := 2) rfl rfl (pgs_cons (pg_name (i := 0) (show (["left", "right"] : List Str).Nodup from by decide +kernel) rfl (Or.inl rfl) (Or.inr rfl)) (pgs_cons (pg_name (i := 1) (show (["left", "right"] : List Str).Nodup from by decide +kernel) rfl (Or.inl rfl) (Or.inr rfl)) pgs_nil)) rfl rfl)) (fun _ _ _ _ => pifs_nil) (fun _ _ _ _ => (pe_op op_sub (pe_ix (ix_seqK (K := K) rfl) (pv 1) pe_int (fun _ _ => rfl)) (pe_callB (call_sumK (K := K) rfl rfl) rfl b_sum bt_sum (pa_cons (pv 0) pa_nil))))))), ?_⟩
  exact fn_done (N := ["row"]) (x_ret (s_comp (s_iZip (s_cons (s_fld T (s_var 0)) (s_cons (s_sl (s_fld T (s_var 0)) (p_some s_int) p_none) s_nil))) (g_tup (g_cons (g_nm 0) (g_cons (g_nm 1) g_nil)) rfl) s_yes (s_op o_sub (s_op o_ix (s_var 1) s_int) (s_CB c_sum (s_cons (s_var 0) s_nil))) rfl)) h
theorem sc_ball_count : FnScope ["row"] ["row"] (defScope s_ball_count) := ⟨rfl, rfl, rfl, by decide +kernel, rfl, by decide +kernel, by decide +kernel⟩
theorem ok_ball_count {f : Addr} {fd : FuncData} (F : Fun K "ball_count" "ball_count" s_ball_count f fd) (b_sum : mg "sum" = none) (T : RowC K C) : FnOk P w K mg base CX0 1 f fd ["row"] (spE K C 1 ev_ball_count) := by
  refine F.ok sc_ball_count (fun vs H Q E h => spE_len h) (fun cdv A outer s H vs Q E hr h => ?_)
  have hu := hr.units
  refine ⟨_, (pss_one (ps_ret (pe_callB (call_sumK (K := K) rfl rfl) rfl b_sum bt_sum (pa_cons (pe_comp (N' := ["begin", "length"]) (imp := [none, none]) rfl (pi_seqK (K := K) rfl (pe_fldK (K := K) rfl (pv 0) rfl)) (blk0 rfl rfl) (fun _ _ _ _ => (pg_tupK (K := K) (n := 2) rfl rfl (pgs_cons (pg_name (i := 0) (show (["begin", "length"] : List Str).Nodup from by decide +kernel) rfl (Or.inl rfl) (Or.inr rfl)) (pgs_cons (pg_name (i := 1) (show (["begin", "length"] : List Str).Nodup from by decide +kernel) rfl (Or.inl rfl) (Or.inr rfl)) pgs_nil)) rfl rfl)) (fun _ _ _ _ => pifs_nil) (fun _ _ _ _ => (pv 1))) pa_nil)))), ?_⟩
  exact fn_done (N := ["row"]) (x_ret (s_CB c_sum (s_cons (s_comp (s_iE (s_fld T (s_var 0))) (g_tup (g_cons (g_nm 0) (g_cons (g_nm 1) g_nil)) rfl) s_yes (s_var 1) rfl) s_nil))) h
theorem sc_check_seats : FnScope ["seats"] ["seats"] (defScope s_check_seats) := ⟨rfl, rfl, rfl, by decide +kernel, rfl, by decide +kernel, by decide +kernel⟩
theorem ok_check_seats {f : Addr} {fd : FuncData} (F : Fun K "check_seats" "check_seats" s_check_seats f fd) (m_BadSeats : mg "BadSeats" = some (.ref c_BadSeats)) (x_BadSeats : AtX K "BadSeats" c_BadSeats) : FnOk P w K mg base (CX1 P w) 1 f fd ["seats"] (spX K C 1 ev_check_seats ex_check_seats) := by
  refine Fun.okX F sc_check_seats (fun vs H Q E h => spX_len h) (fun cdv A outer s H vs Q E hr h => ?_)
  have hu := hr.units
  refine ⟨_, (pss_one (ps_if (PW.pt (pw_and (pt_cmpR op_notNN (pv 0) pe_non (nomark _)) (pw_and1 (pt_cmpR op_lt (pv 0) pe_int (nomark _))))) (pss_one (ps_raiseK (K := K) rfl x_BadSeats.ok rfl m_BadSeats rfl xok_cx (pa_cons pe_str pa_nil))) pss_nil)), ?_⟩
  exact fn_doneX (N := ["seats"]) (x_if (s_tAnd (s_test (s_op o_isNot (s_var 0) s_non)) (s_test (s_op o_lt (s_var 0) s_int))) x_noret x_next) (xx_if (s_tAnd (s_test (s_op o_isNot (s_var 0) s_non)) (s_test (s_op o_lt (s_var 0) s_int))) (xx_raise x_BadSeats.ns (s_cons s_str s_nil)) xx_no) h
theorem sc_stops : FnScope ["row", "seats", "most", "told", "load", "stretch", "gap", "takes", "sets"] ["row", "seats"] (defScope s_stops) := ⟨rfl, rfl, rfl, by decide +kernel, rfl, by decide +kernel, by decide +kernel⟩
theorem ok_stops {f : Addr} {fd : FuncData} (F : Fun K "stops" "stops" s_stops f fd) (b_zip : mg "zip" = none) (b_min : mg "min" = none) (C_gaps_of : Cal P w K mg base "gaps_of" 1 ["row"] (spE K C 1 ev_gaps_of)) (C_ball_count : Cal P w K mg base "ball_count" 1 ["row"] (spE K C 1 ev_ball_count)) (CX_check_seats : CalX P w K mg base "check_seats" 1 ["seats"] (spX K C 1 ev_check_seats ex_check_seats)) (T : RowC K C) : FnOk P w K mg base (CX1 P w) 2 f fd ["row", "seats"] (spX K C 2 ev_stops ex_stops) := by
  refine Fun.okX F sc_stops (fun vs H Q E h => spX_len h) (fun cdv A outer s H vs Q E hr h => ?_)
  have hu := hr.units
  refine ⟨_, (pss_cons (ps_expr (pe_callX CX_check_seats (hr.mono (by decide)) rfl xok_cx.passes (pa_cons (pv 1) pa_nil)))
      (pss_cons (ps_set (i := 2) sc_stops.nd rfl (Or.inl rfl) (pe_ifExp (pt_cmpR op_isNN (pv 1) pe_non (nomark _)) (pe_callC C_ball_count (hr.mono (by decide)) rfl (pa_cons (pv 0) pa_nil)) (pv 1)))
      (pss_cons (ps_set (i := 3) sc_stops.nd rfl (Or.inl rfl) (pe_lst pa_nil))
      (pss_cons (ps_set (i := 4) sc_stops.nd rfl (Or.inl rfl) pe_int)
      (pss_cons (ps_for PassesOwn.leaving rfl (pi_zipK (K := K) rfl rfl b_zip (pa_cons (pe_fldK (K := K) rfl (pv 0) rfl) (pa_cons (pe_op (op_addB (K := K) rfl) (pe_callC C_gaps_of (hr.mono (by decide)) rfl (pa_cons (pv 0) pa_nil)) (pe_lst (pa_cons (pv 2) pa_nil))) pa_nil))) (pg_tupK (K := K) (n := 2) rfl rfl (pgs_cons (pg_name (i := 5) sc_stops.nd rfl (Or.inl rfl)) (pgs_cons (pg_name (i := 6) sc_stops.nd rfl (Or.inl rfl)) pgs_nil)) rfl rfl) (pss_cons (ps_set (i := 7) sc_stops.nd rfl (Or.inl rfl) (pe_callB (call_minN rfl) rfl b_min bt_min (pa_cons (pe_ix (ix_seqK (K := K) rfl) (pv 5) pe_int (fun _ _ => rfl)) (pa_cons (pe_op op_sub (pv 2) (pv 4)) pa_nil))))
      (pss_cons (ps_set (i := 8) sc_stops.nd rfl (Or.inl rfl) (pe_callB (call_minN rfl) rfl b_min bt_min (pa_cons (pe_op (op_addB (K := K) rfl) (pv 4) (pv 7)) (pa_cons (pv 6) pa_nil))))
      (pss_cons (ps_set (i := 4) sc_stops.nd rfl (Or.inl rfl) (pe_op op_sub (pe_op (op_addB (K := K) rfl) (pv 4) (pv 7)) (pv 8)))
      (pss_one (ps_expr (pe_bmK (K := K) rfl PySem.F.plainAttrs_list PySem.F.slot_list_append PySem.F.type_list_append mt_append (pv 3) (pa_cons (pe_op (op_addB (K := K) rfl) (pv 5) (pe_tup (pa_cons (pv 7) (pa_cons (pv 8) pa_nil)))) pa_nil))))))))
      (pss_one (ps_ret (pv 3)))))))), ?_⟩
  exact fn_doneX (N := ["row", "seats", "most", "told", "load", "stretch", "gap", "takes", "sets"]) (x_seq (x_drop (s_callX (s_cons (s_var 1) s_nil)))
      (x_seq (x_setZ (s_ifE (s_test (s_op o_is (s_var 1) s_non)) (s_call (s_cons (s_var 0) s_nil)) (s_var 1)))
      (x_seq (x_set (s_lst s_nil))
      (x_seq (x_setZ s_int)
      (x_seq (x_for (s_iZip (s_cons (s_fld T (s_var 0)) (s_cons (s_op o_add (s_call (s_cons (s_var 0) s_nil)) (s_lst (s_cons (s_var 2) s_nil))) s_nil))) (g_tup (g_cons (g_nm 5) (g_cons (g_nm 6) g_nil)) rfl) (x_seq (x_setZ (s_CB c_min (s_cons (s_op o_ix (s_var 5) s_int) (s_cons (s_op o_sub (s_var 2) (s_var 4)) s_nil))))
      (x_seq (x_setZ (s_CB c_min (s_cons (s_op o_add (s_var 4) (s_var 7)) (s_cons (s_var 6) s_nil))))
      (x_seq (x_setZ (s_op o_sub (s_op o_add (s_var 4) (s_var 7)) (s_var 8)))
      (x_app (s_op o_add (s_var 5) (s_tup (s_cons (s_var 7) (s_cons (s_var 8) s_nil)))))))))
      x_retV))))) (xx_seq (x_drop (s_callX (s_cons (s_var 1) s_nil)))
      (xx_drop (xx_call (s_cons (s_var 1) s_nil))) xx_no) h
theorem sc_aboard : FnScope ["row", "seats", "place", "load", "begin", "length", "takes", "sets"] ["row", "seats", "place"] (defScope s_aboard) := ⟨rfl, rfl, rfl, by decide +kernel, rfl, by decide +kernel, by decide +kernel⟩
theorem ok_aboard {f : Addr} {fd : FuncData} (F : Fun K "aboard" "aboard" s_aboard f fd) (b_min : mg "min" = none) (b_max : mg "max" = none) (CX_stops : CalX P w K mg base "stops" 2 ["row", "seats"] (spX K C 2 ev_stops ex_stops)) : FnOk P w K mg base (CX1 P w) 3 f fd ["row", "seats", "place"] (spX K C 3 ev_aboard ex_aboard) := by
  refine Fun.okX F sc_aboard (fun vs H Q E h => spX_len h) (fun cdv A outer s H vs Q E hr h => ?_)
  have hu := hr.units
  refine ⟨_, (pss_cons (ps_set (i := 3) sc_aboard.nd rfl (Or.inl rfl) pe_int)
      (pss_cons (ps_for PassesOwn.leaving rfl (pi_seqK (K := K) rfl (pe_callX CX_stops (hr.mono (by decide)) rfl xok_cx.passes (pa_cons (pv 0) (pa_cons (pv 1) pa_nil)))) (pg_tupK (K := K) (n := 4) rfl rfl (pgs_cons (pg_name (i := 4) sc_aboard.nd rfl (Or.inl rfl)) (pgs_cons (pg_name (i := 5) sc_aboard.nd rfl (Or.inl rfl)) (pgs_cons (pg_name (i := 6) sc_aboard.nd rfl (Or.inl rfl)) (pgs_cons (pg_name (i := 7) sc_aboard.nd rfl (Or.inl rfl)) pgs_nil)))) rfl rfl) (pss_cons (ps_aug (i := 3) sc_aboard.nd rfl (Or.inl rfl) (pe_callB (call_minN rfl) rfl b_min bt_min (pa_cons (pv 6) (pa_cons (pe_callB (call_maxN rfl) rfl b_max bt_max (pa_cons pe_int (pa_cons (pe_op op_sub (pv 2) (pv 4)) pa_nil))) pa_nil))) ip_add)
      (pss_one (ps_aug (i := 3) sc_aboard.nd rfl (Or.inl rfl) (pe_callB (call_minN rfl) rfl b_min bt_min (pa_cons (pv 7) (pa_cons (pe_callB (call_maxN rfl) rfl b_max bt_max (pa_cons pe_int (pa_cons (pe_op op_sub (pe_op op_sub (pv 2) (pv 4)) (pv 5)) pa_nil))) pa_nil))) ip_sub))))
      (pss_one (ps_ret (pv 3))))), ?_⟩
  exact fn_doneX (N := ["row", "seats", "place", "load", "begin", "length", "takes", "sets"]) (x_seq (x_setZ s_int)
      (x_seq (x_for (s_iE (s_callX (s_cons (s_var 0) (s_cons (s_var 1) s_nil)))) (g_tup (g_cons (g_nm 4) (g_cons (g_nm 5) (g_cons (g_nm 6) (g_cons (g_nm 7) g_nil)))) rfl) (x_seq (x_aug (s_CB c_min (s_cons (s_var 6) (s_cons (s_CB c_max (s_cons s_int (s_cons (s_op o_sub (s_var 2) (s_var 4)) s_nil))) s_nil))))
      (x_aug (s_CB c_min (s_cons (s_var 7) (s_cons (s_CB c_max (s_cons s_int (s_cons (s_op o_sub (s_op o_sub (s_var 2) (s_var 4)) (s_var 5)) s_nil))) s_nil))))))
      x_retV)) (xx_seq (x_setZ s_int)
      xx_no (xx_seq (x_for (s_iE (s_callX (s_cons (s_var 0) (s_cons (s_var 1) s_nil)))) (g_tup (g_cons (g_nm 4) (g_cons (g_nm 5) (g_cons (g_nm 6) (g_cons (g_nm 7) g_nil)))) rfl) (x_seq (x_aug (s_CB c_min (s_cons (s_var 6) (s_cons (s_CB c_max (s_cons s_int (s_cons (s_op o_sub (s_var 2) (s_var 4)) s_nil))) s_nil))))
      (x_aug (s_CB c_min (s_cons (s_var 7) (s_cons (s_CB c_max (s_cons s_int (s_cons (s_op o_sub (s_op o_sub (s_var 2) (s_var 4)) (s_var 5)) s_nil))) s_nil))))))
      (xx_for (xx_iseq (xx_call (s_cons (s_var 0) (s_cons (s_var 1) s_nil))))) xx_no)) h
theorem sc_taken : FnScope ["row", "seats"] ["row", "seats"] (defScope s_taken) := ⟨rfl, rfl, rfl, by decide +kernel, rfl, by decide +kernel, by decide +kernel⟩
theorem ok_taken {f : Addr} {fd : FuncData} (F : Fun K "taken" "taken" s_taken f fd) (b_sum : mg "sum" = none) (CX_stops : CalX P w K mg base "stops" 2 ["row", "seats"] (spX K C 2 ev_stops ex_stops)) : FnOk P w K mg base (CX1 P w) 3 f fd ["row", "seats"] (spX K C 2 ev_taken ex_taken) := by
  refine Fun.okX F sc_taken (fun vs H Q E h => spX_len h) (fun cdv A outer s H vs Q E hr h => ?_)
  have hu := hr.units
  refine ⟨_, (pss_one (ps_ret (pe_callB (call_sumK (K := K) rfl rfl) rfl b_sum bt_sum (pa_cons (pe_comp (N' := ["begin", "length", "takes", "sets"]) (imp := [none, none, none, none]) rfl (pi_seqK (K := K) rfl (pe_callX CX_stops (hr.mono (by decide)) rfl xok_cx.passes (pa_cons (pv 0) (pa_cons (pv 1) pa_nil)))) (blk0 rfl rfl) (fun _ _ _ _ => (pg_tupK (K := K) (n := 4) rfl rfl (pgs_cons (pg_name (i := 0) (show (["begin", "length", "takes", "sets"] : List Str).Nodup from by decide +kernel) rfl (Or.inl rfl) (Or.inr rfl)) (pgs_cons (pg_name (i := 1) (show (["begin", "length", "takes", "sets"] : List Str).Nodup from by decide +kernel) rfl (Or.inl rfl) (Or.inr rfl)) (pgs_cons (pg_name (i := 2) (show (["begin", "length", "takes", "sets"] : List Str).Nodup from by decide +kernel) rfl (Or.inl rfl) (Or.inr rfl)) (pgs_cons (pg_name (i := 3) (show (["begin", "length", "takes", "sets"] : List Str).Nodup from by decide +kernel) rfl (Or.inl rfl) (Or.inr rfl)) pgs_nil)))) rfl rfl)) (fun _ _ _ _ => pifs_nil) (fun _ _ _ _ => (pv 2))) pa_nil)))), ?_⟩
  exact fn_doneX (N := ["row", "seats"]) (x_ret (s_CB c_sum (s_cons (s_comp (s_iE (s_callX (s_cons (s_var 0) (s_cons (s_var 1) s_nil)))) (g_tup (g_cons (g_nm 0) (g_cons (g_nm 1) (g_cons (g_nm 2) (g_cons (g_nm 3) g_nil)))) rfl) s_yes (s_var 2) rfl) s_nil))) (xx_ret (xx_CB (xx_cons (s_comp (s_iE (s_callX (s_cons (s_var 0) (s_cons (s_var 1) s_nil)))) (g_tup (g_cons (g_nm 0) (g_cons (g_nm 1) (g_cons (g_nm 2) (g_cons (g_nm 3) g_nil)))) rfl) s_yes (s_var 2) rfl) (xx_comp (xx_iseq (xx_call (s_cons (s_var 0) (s_cons (s_var 1) s_nil))))) xx_noA))) h
theorem sc_check_stretches : FnScope ["stretches", "behind", "begin", "length"] ["stretches"] (defScope s_check_stretches) := ⟨rfl, rfl, rfl, by decide +kernel, rfl, by decide +kernel, by decide +kernel⟩
theorem ok_check_stretches {f : Addr} {fd : FuncData} (F : Fun K "check_stretches" "check_stretches" s_check_stretches f fd)  : FnOk P w K mg base CX0 1 f fd ["stretches"] (spCheck K) := by
  refine F.ok sc_check_stretches (fun vs H Q E h => ?_) (fun cdv A outer s H vs Q E hr h => ?_)
  · obtain ⟨v, ps, rfl, _⟩ := h; rfl
  · obtain ⟨v, ps, rfl, ⟨a, vs, rfl, hq, hp⟩, g, q⟩ := h
    have hu := hr.units
    refine ⟨_, (pss_cons (ps_set (i := 1) sc_check_stretches.nd rfl (Or.inl rfl) pe_non)
      (pss_one (ps_for PassesOwn.never rfl (pi_seqK (K := K) rfl (pv 0)) (pg_tupK (K := K) (n := 2) rfl rfl (pgs_cons (pg_name (i := 2) sc_check_stretches.nd rfl (Or.inl rfl)) (pgs_cons (pg_name (i := 3) sc_check_stretches.nd rfl (Or.inl rfl)) pgs_nil)) rfl rfl) (pss_cons (ps_if (pt_cmpR op_lt (pv 3) pe_int (nomark _)) (pss_one ps_never) pss_nil)
      (pss_cons (ps_if (PW.pt (pw_and (pt_cmpR op_notNN (pv 1) pe_non (nomark _)) (pw_and1 (pt_cmpR op_le (pv 2) (pv 1) (nomark _))))) (pss_one ps_never) pss_nil)
      (pss_one (ps_set (i := 1) sc_check_stretches.nd rfl (Or.inl rfl) (pe_op (op_addK (K := K) rfl) (pv 2) (pv 3))))))))), ?_⟩
    walk_at "rd"
    refine rd_forSeq (H1 := H) (a := a) (xs := vs) (fun R r => ⟨_, rfl, r⟩) hq
      (fun i σ' H' => ∃ vb vl, σ' = [some (.ref a), some (behindV ps i), vb, vl] ∧ H' = H) ⟨none, none, rfl, rfl⟩ (fun i σ' H' ⟨_, _, _, e⟩ => e ▸ Same.refl _) ?_ ?_
    · rintro i x σ' H' hi ⟨vb, vl, rfl, rfl⟩
      obtain ⟨p, b, e1, rfl, sp⟩ := hp.at hi
      refine rd_gTup sp rfl ?_
      walk_at "rd"
      refine ifd (fun hlt => absurd (g.one i p e1) (by omega)) (fun _ => ?_)
      walk_at "rd"
      cases i with
      | zero =>
        refine ifF rfl ?_
        refine ifF rfl ?_
        walk_at "rd"
        exact ⟨_, _, by rw [behind_succ e1]; rfl, rfl⟩
      | succ j =>
        obtain ⟨q1, e2⟩ : ∃ q1, ps[j]? = some q1 := ⟨ps[j]'(by have := (List.getElem?_eq_some_iff.mp e1).1; omega), by have := (List.getElem?_eq_some_iff.mp e1).1; simp [show j < ps.length by omega]⟩
        rw [behind_succ e2]
        refine ifT rfl ?_
        walk_at "rd"
        refine ifd (fun hle => absurd (g.gap j q1 p e2 e1) (by omega)) (fun _ => ?_)
        walk_at "rd"
        exact ⟨_, _, by rw [behind_succ e1]; rfl, rfl⟩
    · rintro σ' H' ⟨vb, vl, rfl, rfl⟩
      exact q _ (Same.refl _)
theorem sc_Row_init : FnScope ["self", "stretches"] ["self", "stretches"] (defScope s_Row_init) := ⟨rfl, rfl, rfl, by decide +kernel, rfl, by decide +kernel, by decide +kernel⟩
theorem ok_Row_init {f : Addr} {fd : FuncData} (F : Fun K "__init__" "Row.__init__" s_Row_init f fd) (b_tuple : mg "tuple" = none) (b_len : mg "len" = none) (g_MOST_STRETCHES : GV mg "MOST_STRETCHES" (.int 30)) (C_check_stretches : Cal P w K mg base "check_stretches" 1 ["stretches"] (spCheck K)) (T : RowC K C) : FnOk P w K mg base CX0 2 f fd ["self", "stretches"] (spInit C K) := by
  refine F.ok sc_Row_init (fun vs H Q E h => ?_) (fun cdv A outer s H vs Q E hr h => ?_)
  · obtain ⟨x, dx, v, ps, rfl, _⟩ := h; rfl
  · obtain ⟨x, dx, v, ps, rfl, hx, ⟨a, vs, rfl, hq, hp⟩, g, hl, q⟩ := h
    have hu := hr.units
    refine ⟨_, (pss_cons (ps_if (pt_cmpR op_gt (pe_callB (call_lenK (K := K) rfl) rfl b_len bt_len (pa_cons (pv 1) pa_nil)) (pe_globC rfl g_MOST_STRETCHES) (nomark _)) (pss_one ps_never) pss_nil)
      (pss_cons (ps_expr (pe_callC C_check_stretches (hr.mono (by decide)) rfl (pa_cons (pv 1) pa_nil)))
      (pss_one (ps_fldK (K := K) rfl (pv 0) (pe_callTy (call_tupleK (K := K) rfl) rfl b_tuple bt_tuple (pa_cons (pe_comp (N' := ["begin", "length"]) (imp := [none, none]) rfl (pi_seqK (K := K) rfl (pv 1)) (blk0 rfl rfl) (fun _ _ _ _ => (pg_tupK (K := K) (n := 2) rfl rfl (pgs_cons (pg_name (i := 0) (show (["begin", "length"] : List Str).Nodup from by decide +kernel) rfl (Or.inl rfl) (Or.inr rfl)) (pgs_cons (pg_name (i := 1) (show (["begin", "length"] : List Str).Nodup from by decide +kernel) rfl (Or.inl rfl) (Or.inr rfl)) pgs_nil)) rfl rfl)) (fun _ _ _ _ => pifs_nil) (fun _ _ _ _ => (pe_tup (pa_cons (pv 0) (pa_cons (pv 1) pa_nil))))) pa_nil)) rfl)))), ?_⟩
    have hn := hp.len
    walk_at "rd"
    refine rd_lenSq hq ?_
    walk_at "rd"
    refine ifd (fun hgt => absurd hl (by omega)) (fun _ => ?_)
    walk_at "rd"
    refine cl_check ⟨a, vs, rfl, hq, hp⟩ g fun H1 s1 => ?_
    walk_at "rd"
    refine rd_compSeq (H1 := H1) (a := a) (xs := vs) (fun R r => ⟨_, rfl, r⟩) (hq.imp s1.seq s1.seqT) (Nat.le_of_lt (small1000 (by omega)))
      (fun i ys σ' H' => ∃ vb vl, σ' = [vb, vl] ∧ Same H1 H' ∧ Prs K H' ys (ps.take i)) ⟨none, none, rfl, Same.refl _, by rw [List.take_zero]; exact RepL.nil⟩
      (fun i ys σ' H' ⟨_, _, _, _, r⟩ => by have := r.len; rw [this, List.length_take]; omega) (fun i ys σ' H' ⟨_, _, _, s', _⟩ => s') ?_ ?_
    · rintro i ys y σ' H' hi ⟨vb, vl, rfl, s', r⟩
      obtain ⟨p, b, e1, rfl, sp⟩ := Prs.at (K := K) (ps := ps) (RepL.mono (s1.trans s') hp) hi
      refine rd_gTup sp rfl ?_
      walk_at "rd"
      refine ifT rfl ?_
      walk_at "rd"
      refine al_tup sz2 fun t H2 nt s2 ht => ?_
      refine ⟨_, _, rfl, s'.trans s2, ?_⟩
      rw [List.take_add_one, e1]
      exact Prs.snoc (RepL.mono s2 r) (prD_mk' ht)
    · rintro ys σ' H' ⟨vb, vl, rfl, s', r⟩ l H2 nl s2 hl2
      walk_at "rd"
      refine rd_tupleL (.of hl2) fun t H3 nt s3 ht => ?_
      walk_at "rd"
      have sA : Same H H3 := ((s1.trans s').trans s2).trans s3
      refine ⟨x, C, dx, [], rfl, sA _ _ hx, T.cl, T.ns, by decide, ?_⟩
      rw [hn, List.take_length] at r
      have r3 : Prs K H3 ys ps := RepL.mono (s2.trans s3) r
      have ntx : t ≠ x := ne_of ht (sA _ _ hx) (by intro z; cases z)
      refine q _ t ys (sA.ex_trans SameEx.upd) (by rw [putF_row]; exact upd_same) (by rw [upd_ne ntx]; exact ht) ?_
      exact Prs.monoIns SameEx.upd (sA _ _ hx) r3
theorem sc_mirrored : FnScope ["row"] ["row"] (defScope s_mirrored) := ⟨rfl, rfl, rfl, by decide +kernel, rfl, by decide +kernel, by decide +kernel⟩
theorem ok_mirrored {f : Addr} {fd : FuncData} (F : Fun K "mirrored" "mirrored" s_mirrored f fd) (b_reversed : mg "reversed" = none) (C_Row : CalM P w K mg base "Row" C 2 ["self", "stretches"] (spInit C K)) (T : RowC K C) : FnOk P w K mg base CX0 4 f fd ["row"] (spE K C 1 ev_mirrored) := by
  refine F.ok sc_mirrored (fun vs H Q E h => spE_len h) (fun cdv A outer s H vs Q E hr h => ?_)
  have hu := hr.units
  refine ⟨_, (pss_one (ps_ret (pe_makeC C_Row (hr.mono (by decide)) rfl (pa_cons (pe_comp (N' := ["begin", "length"]) (imp := [none, none]) rfl (pi_revK (K := K) rfl rfl b_reversed (pa_cons (pe_fldK (K := K) rfl (pv 0) rfl) pa_nil)) (blk0 rfl rfl) (fun _ _ _ _ => (pg_tupK (K := K) (n := 2) rfl rfl (pgs_cons (pg_name (i := 0) (show (["begin", "length"] : List Str).Nodup from by decide +kernel) rfl (Or.inl rfl) (Or.inr rfl)) (pgs_cons (pg_name (i := 1) (show (["begin", "length"] : List Str).Nodup from by decide +kernel) rfl (Or.inl rfl) (Or.inr rfl)) pgs_nil)) rfl rfl)) (fun _ _ _ _ => pifs_nil) (fun _ _ _ _ => (pe_tup (pa_cons (pe_op op_sub (pe_op op_sub pe_int (pv 0)) (pv 1)) (pa_cons (pv 1) pa_nil))))) pa_nil)))), ?_⟩
  exact fn_done (N := ["row"]) (x_ret (s_row (s_cons (s_comp (s_iRev (s_cons (s_fld T (s_var 0)) s_nil)) (g_tup (g_cons (g_nm 0) (g_cons (g_nm 1) g_nil)) rfl) s_yes (s_tup (s_cons (s_op o_sub (s_op o_sub s_int (s_var 0)) (s_var 1)) (s_cons (s_var 1) s_nil))) rfl) s_nil))) h
theorem sc_gone : FnScope ["row", "seats"] ["row", "seats"] (defScope s_gone) := ⟨rfl, rfl, rfl, by decide +kernel, rfl, by decide +kernel, by decide +kernel⟩
theorem ok_gone {f : Addr} {fd : FuncData} (F : Fun K "gone" "gone" s_gone f fd) (C_Row : CalM P w K mg base "Row" C 2 ["self", "stretches"] (spInit C K)) (CX_stops : CalX P w K mg base "stops" 2 ["row", "seats"] (spX K C 2 ev_stops ex_stops)) : FnOk P w K mg base (CX1 P w) 4 f fd ["row", "seats"] (spX K C 2 ev_gone ex_gone) := by
  refine Fun.okX F sc_gone (fun vs H Q E h => spX_len h) (fun cdv A outer s H vs Q E hr h => ?_)
  have hu := hr.units
  refine ⟨_, (pss_one (ps_ret (pe_makeC C_Row (hr.mono (by decide)) rfl (pa_cons (pe_comp (N' := ["begin", "length", "takes", "sets"]) (imp := [none, none, none, none]) rfl (pi_seqK (K := K) rfl (pe_callX CX_stops (hr.mono (by decide)) rfl xok_cx.passes (pa_cons (pv 0) (pa_cons (pv 1) pa_nil)))) (blk0 rfl rfl) (fun _ _ _ _ => (pg_tupK (K := K) (n := 4) rfl rfl (pgs_cons (pg_name (i := 0) (show (["begin", "length", "takes", "sets"] : List Str).Nodup from by decide +kernel) rfl (Or.inl rfl) (Or.inr rfl)) (pgs_cons (pg_name (i := 1) (show (["begin", "length", "takes", "sets"] : List Str).Nodup from by decide +kernel) rfl (Or.inl rfl) (Or.inr rfl)) (pgs_cons (pg_name (i := 2) (show (["begin", "length", "takes", "sets"] : List Str).Nodup from by decide +kernel) rfl (Or.inl rfl) (Or.inr rfl)) (pgs_cons (pg_name (i := 3) (show (["begin", "length", "takes", "sets"] : List Str).Nodup from by decide +kernel) rfl (Or.inl rfl) (Or.inr rfl)) pgs_nil)))) rfl rfl)) (fun _ _ _ _ => pifs_nil) (fun _ _ _ _ => (pe_tup (pa_cons (pe_op (op_addB (K := K) rfl) (pv 0) (pv 2)) (pa_cons (pe_op (op_addB (K := K) rfl) (pe_op op_sub (pv 1) (pv 2)) (pv 3)) pa_nil))))) pa_nil)))), ?_⟩
  exact fn_doneX (N := ["row", "seats"]) (x_ret (s_row (s_cons (s_comp (s_iE (s_callX (s_cons (s_var 0) (s_cons (s_var 1) s_nil)))) (g_tup (g_cons (g_nm 0) (g_cons (g_nm 1) (g_cons (g_nm 2) (g_cons (g_nm 3) g_nil)))) rfl) s_yes (s_tup (s_cons (s_op o_add (s_var 0) (s_var 2)) (s_cons (s_op o_add (s_op o_sub (s_var 1) (s_var 2)) (s_var 3)) s_nil))) rfl) s_nil))) (xx_ret (xx_make (xx_cons (s_comp (s_iE (s_callX (s_cons (s_var 0) (s_cons (s_var 1) s_nil)))) (g_tup (g_cons (g_nm 0) (g_cons (g_nm 1) (g_cons (g_nm 2) (g_cons (g_nm 3) g_nil)))) rfl) s_yes (s_tup (s_cons (s_op o_add (s_var 0) (s_var 2)) (s_cons (s_op o_add (s_op o_sub (s_var 1) (s_var 2)) (s_var 3)) s_nil))) rfl) (xx_comp (xx_iseq (xx_call (s_cons (s_var 0) (s_cons (s_var 1) s_nil))))) xx_noA))) h
theorem sc_back : FnScope ["row", "seats"] ["row", "seats"] (defScope s_back) := ⟨rfl, rfl, rfl, by decide +kernel, rfl, by decide +kernel, by decide +kernel⟩
theorem ok_back {f : Addr} {fd : FuncData} (F : Fun K "back" "back" s_back f fd) (C_mirrored : Cal P w K mg base "mirrored" 4 ["row"] (spE K C 1 ev_mirrored)) (CX_gone : CalX P w K mg base "gone" 4 ["row", "seats"] (spX K C 2 ev_gone ex_gone)) : FnOk P w K mg base (CX1 P w) 5 f fd ["row", "seats"] (spX K C 2 ev_back ex_back) := by
  refine Fun.okX F sc_back (fun vs H Q E h => spX_len h) (fun cdv A outer s H vs Q E hr h => ?_)
  have hu := hr.units
  refine ⟨_, (pss_one (ps_ret (pe_callC C_mirrored (hr.mono (by decide)) rfl (pa_cons (pe_callX CX_gone (hr.mono (by decide)) rfl xok_cx.passes (pa_cons (pe_callC C_mirrored (hr.mono (by decide)) rfl (pa_cons (pv 0) pa_nil)) (pa_cons (pv 1) pa_nil))) pa_nil)))), ?_⟩
  exact fn_doneX (N := ["row", "seats"]) (x_ret (s_call (s_cons (s_callX (s_cons (s_call (s_cons (s_var 0) s_nil)) (s_cons (s_var 1) s_nil))) s_nil))) (xx_ret (xx_args (xx_cons (s_callX (s_cons (s_call (s_cons (s_var 0) s_nil)) (s_cons (s_var 1) s_nil))) (xx_call (s_cons (s_call (s_cons (s_var 0) s_nil)) (s_cons (s_var 1) s_nil))) xx_noA))) h
theorem sc_law_ask : FnScope ["which", "row", "seats", "spot"] ["which", "row", "seats", "spot"] (defScope s_law_ask) := ⟨rfl, rfl, rfl, by decide +kernel, rfl, by decide +kernel, by decide +kernel⟩
theorem ok_law_ask {f : Addr} {fd : FuncData} (F : Fun K "_law_ask" "_law_ask" s_law_ask f fd) (CX_aboard : CalX P w K mg base "aboard" 3 ["row", "seats", "place"] (spX K C 3 ev_aboard ex_aboard)) (CX_taken : CalX P w K mg base "taken" 3 ["row", "seats"] (spX K C 2 ev_taken ex_taken)) (CX_back : CalX P w K mg base "back" 5 ["row", "seats"] (spX K C 2 ev_back ex_back)) (CX_gone : CalX P w K mg base "gone" 4 ["row", "seats"] (spX K C 2 ev_gone ex_gone)) : FnOk P w K mg base (CX1 P w) 6 f fd ["which", "row", "seats", "spot"] (spX K C 4 ev_law_ask ex_law_ask) := by
  refine Fun.okX F sc_law_ask (fun vs H Q E h => spX_len h) (fun cdv A outer s H vs Q E hr h => ?_)
  have hu := hr.units
  refine ⟨_, (pss_cons (ps_if (pt_cmpR (op_eqK (K := K) rfl hu) (pv 0) pe_int (nomark _)) (pss_one (ps_ret (pe_callX CX_gone (hr.mono (by decide)) rfl xok_cx.passes (pa_cons (pv 1) (pa_cons (pv 2) pa_nil))))) pss_nil)
      (pss_cons (ps_if (pt_cmpR (op_eqK (K := K) rfl hu) (pv 0) pe_int (nomark _)) (pss_one (ps_ret (pe_callX CX_back (hr.mono (by decide)) rfl xok_cx.passes (pa_cons (pv 1) (pa_cons (pv 2) pa_nil))))) pss_nil)
      (pss_cons (ps_if (pt_cmpR (op_eqK (K := K) rfl hu) (pv 0) pe_int (nomark _)) (pss_one (ps_ret (pe_callX CX_taken (hr.mono (by decide)) rfl xok_cx.passes (pa_cons (pv 1) (pa_cons (pv 2) pa_nil))))) pss_nil)
      (pss_one (ps_ret (pe_callX CX_aboard (hr.mono (by decide)) rfl xok_cx.passes (pa_cons (pv 1) (pa_cons (pv 2) (pa_cons (pv 3) pa_nil))))))))), ?_⟩
  exact fn_doneX (N := ["which", "row", "seats", "spot"]) (x_seq (x_if (s_test (s_op o_eq (s_var 0) s_int)) (x_ret (s_callX (s_cons (s_var 1) (s_cons (s_var 2) s_nil)))) x_next)
      (x_seq (x_if (s_test (s_op o_eq (s_var 0) s_int)) (x_ret (s_callX (s_cons (s_var 1) (s_cons (s_var 2) s_nil)))) x_next)
      (x_seq (x_if (s_test (s_op o_eq (s_var 0) s_int)) (x_ret (s_callX (s_cons (s_var 1) (s_cons (s_var 2) s_nil)))) x_next)
      (x_ret (s_callX (s_cons (s_var 1) (s_cons (s_var 2) (s_cons (s_var 3) s_nil)))))))) (xx_seq (x_if (s_test (s_op o_eq (s_var 0) s_int)) (x_ret (s_callX (s_cons (s_var 1) (s_cons (s_var 2) s_nil)))) x_next)
      (xx_if (s_test (s_op o_eq (s_var 0) s_int)) (xx_ret (xx_call (s_cons (s_var 1) (s_cons (s_var 2) s_nil)))) xx_no) (xx_seq (x_if (s_test (s_op o_eq (s_var 0) s_int)) (x_ret (s_callX (s_cons (s_var 1) (s_cons (s_var 2) s_nil)))) x_next)
      (xx_if (s_test (s_op o_eq (s_var 0) s_int)) (xx_ret (xx_call (s_cons (s_var 1) (s_cons (s_var 2) s_nil)))) xx_no) (xx_seq (x_if (s_test (s_op o_eq (s_var 0) s_int)) (x_ret (s_callX (s_cons (s_var 1) (s_cons (s_var 2) s_nil)))) x_next)
      (xx_if (s_test (s_op o_eq (s_var 0) s_int)) (xx_ret (xx_call (s_cons (s_var 1) (s_cons (s_var 2) s_nil)))) xx_no) (xx_ret (xx_call (s_cons (s_var 1) (s_cons (s_var 2) (s_cons (s_var 3) s_nil)))))))) h
theorem sc_law_refused : FnScope ["which", "row", "seats", "spot", "found", "e"] ["which", "row", "seats", "spot"] (defScope s_law_refused) := ⟨rfl, rfl, rfl, by decide +kernel, rfl, by decide +kernel, by decide +kernel⟩
theorem ok_law_refused {f : Addr} {fd : FuncData} (F : Fun K "_law_refused" "_law_refused" s_law_refused f fd) (b_isinstance : mg "isinstance" = none) (b_ValueError : mg "ValueError" = none) (CX__law_ask : CalX P w K mg base "_law_ask" 6 ["which", "row", "seats", "spot"] (spX K C 4 ev_law_ask ex_law_ask)) (xG : ExcG K) (xO : OwnL K ["BadSeats"] [c_BadSeats]) (iV : IsiV K ["BadSeats"]) (m_BadSeats : mg "BadSeats" = some (.ref c_BadSeats)) (i_BadSeats : IsiN K ["BadSeats"] "BadSeats" c_BadSeats) (m_BadDeed : mg "BadDeed" = some (.ref c_BadDeed)) (i_BadDeed : IsiN K ["BadSeats"] "BadDeed" c_BadDeed) (m_BadRow : mg "BadRow" = some (.ref c_BadRow)) (i_BadRow : IsiN K ["BadSeats"] "BadRow" c_BadRow) (m_BadTable : mg "BadTable" = some (.ref c_BadTable)) (i_BadTable : IsiN K ["BadSeats"] "BadTable" c_BadTable) (m_BadText : mg "BadText" = some (.ref c_BadText)) (i_BadText : IsiN K ["BadSeats"] "BadText" c_BadText) (m_NoRow : mg "NoRow" = some (.ref c_NoRow)) (i_NoRow : IsiN K ["BadSeats"] "NoRow" c_NoRow) (m_TooMany : mg "TooMany" = some (.ref c_TooMany)) (i_TooMany : IsiN K ["BadSeats"] "TooMany" c_TooMany) (m_Unlike : mg "Unlike" = some (.ref c_Unlike)) (i_Unlike : IsiN K ["BadSeats"] "Unlike" c_Unlike) (m_LumpError : mg "LumpError" = some (.ref c_LumpError)) (t_LumpError : ExmL K c_LumpError [c_BadSeats]) : FnOk P w K mg base CX0 7 f fd ["which", "row", "seats", "spot"] (spE K C 4 ev_law_refused) := by
  refine F.ok sc_law_refused (fun vs H Q E h => spE_len h) (fun cdv A outer s H vs Q E hr h => ?_)
  have hu := hr.units
  refine ⟨_, (pss_cons (ps_set (i := 4) sc_law_refused.nd rfl (Or.inl rfl) pe_non)
      (pss_cons (ps_tryK (K := K) (i := 5) rfl rfl rfl rfl sc_law_refused.nd rfl rfl rfl m_LumpError (pcss_one (pcs_expr (px_call CX__law_ask (hr.mono (by decide)) rfl (pa_cons (pv 0) (pa_cons (pv 1) (pa_cons (pv 2) (pa_cons (pv 3) pa_nil))))))) (fun a => (pss_one (ps_set (i := 4) sc_law_refused.nd rfl (Or.inl rfl) (pv 5)))))
      (pss_cons (ps_if (pt_truK (K := K) rfl (pe_callB (call_isTK (K := K) rfl) rfl b_isinstance bt_isinstance (pa_cons (pv 4) (pa_cons (pe_tup (pa_cons (pe_glob (v := V.ref c_BadDeed) rfl m_BadDeed rfl) (pa_cons (pe_glob (v := V.ref c_BadRow) rfl m_BadRow rfl) (pa_cons (pe_glob (v := V.ref c_BadTable) rfl m_BadTable rfl) (pa_cons (pe_glob (v := V.ref c_BadText) rfl m_BadText rfl) (pa_cons (pe_glob (v := V.ref c_NoRow) rfl m_NoRow rfl) (pa_cons (pe_glob (v := V.ref c_TooMany) rfl m_TooMany rfl) (pa_cons (pe_glob (v := V.ref c_Unlike) rfl m_Unlike rfl) pa_nil)))))))) pa_nil))) (fun _ => rfl)) (pss_one (ps_ret pe_bl)) pss_nil)
      (pss_one (ps_ret (pe_and (pe_callB (call_isXK (K := K) rfl) rfl b_isinstance bt_isinstance (pa_cons (pv 4) (pa_cons (pe_glob (v := V.ref c_BadSeats) rfl m_BadSeats rfl) pa_nil))) (pe_one (pe_callB (call_isXK (K := K) rfl) rfl b_isinstance bt_isinstance (pa_cons (pv 4) (pa_cons (pe_bltn (v := V.ty "ValueError") rfl b_ValueError bt_ValueError rfl) pa_nil)))))))))), ?_⟩
  exact fn_done (N := ["which", "row", "seats", "spot", "found", "e"]) (x_seq (x_setZ s_non)
      (x_seq (x_try (t_LumpError.all xO) (fun W => (xt_dropN (fun W => s_callX (s_cons (s_var 0) (s_cons (s_var 1) (s_cons (s_var 2) (s_cons (s_var 3) s_nil))))) W)) (xt_drop (fun W => xx_call (s_cons (s_var 0) (s_cons (s_var 1) (s_cons (s_var 2) (s_cons (s_var 3) s_nil)))))) (x_setZ (s_var 5)))
      (x_seq (x_if (s_tru (s_isXs [c_BadDeed, c_BadRow, c_BadTable, c_BadText, c_NoRow, c_TooMany, c_Unlike] (isl_cons i_BadDeed (isl_cons i_BadRow (isl_cons i_BadTable (isl_cons i_BadText (isl_cons i_NoRow (isl_cons i_TooMany (isl_cons i_Unlike isl_nil))))))) xG xO.all (s_var 4))) (x_ret s_bl) x_next)
      (x_ret (s_and (s_isX i_BadSeats (s_var 4)) (s_isV iV (s_var 4))))))) h
theorem sc_law_cell : FnScope ["script", "k"] ["script", "k"] (defScope s_law_cell) := ⟨rfl, rfl, rfl, by decide +kernel, rfl, by decide +kernel, by decide +kernel⟩
theorem ok_law_cell {f : Addr} {fd : FuncData} (F : Fun K "_law_cell" "_law_cell" s_law_cell f fd) (b_len : mg "len" = none) : FnOk P w K mg base CX0 1 f fd ["script", "k"] (spE K C 2 ev_law_cell) := by
  refine F.ok sc_law_cell (fun vs H Q E h => spE_len h) (fun cdv A outer s H vs Q E hr h => ?_)
  have hu := hr.units
  refine ⟨_, (pss_cons (ps_if (pt_cmpR op_lt (pv 1) (pe_callB (call_lenK (K := K) rfl) rfl b_len bt_len (pa_cons (pv 0) pa_nil)) (nomark _)) (pss_one (ps_ret (pe_ix (ix_seqK (K := K) rfl) (pv 0) (pv 1) (fun _ _ => rfl)))) pss_nil)
      (pss_one (ps_ret pe_int))), ?_⟩
  exact fn_done (N := ["script", "k"]) (x_seq (x_if (s_test (s_op o_lt (s_var 1) (s_CB c_len (s_cons (s_var 0) s_nil)))) (x_ret (s_op o_ix (s_var 0) (s_var 1))) x_next)
      (x_ret s_int)) h
theorem sc_law_stretches : FnScope ["script", "many", "span", "far", "place", "found", "k", "length"] ["script", "many", "span", "far"] (defScope s_law_stretches) := ⟨rfl, rfl, rfl, by decide +kernel, rfl, by decide +kernel, by decide +kernel⟩
theorem ok_law_stretches {f : Addr} {fd : FuncData} (F : Fun K "_law_stretches" "_law_stretches" s_law_stretches f fd) (b_range : mg "range" = none) (C__law_cell : Cal P w K mg base "_law_cell" 1 ["script", "k"] (spE K C 2 ev_law_cell)) : FnOk P w K mg base CX0 2 f fd ["script", "many", "span", "far"] (spE K C 4 ev_law_stretches) := by
  refine F.ok sc_law_stretches (fun vs H Q E h => spE_len h) (fun cdv A outer s H vs Q E hr h => ?_)
  have hu := hr.units
  refine ⟨_, (pss_cons (ps_set (i := 4) sc_law_stretches.nd rfl (Or.inl rfl) (pe_op op_sub (pe_op op_mod (pe_callC C__law_cell (hr.mono (by decide)) rfl (pa_cons (pv 0) (pa_cons pe_int pa_nil))) (pe_op (op_addB (K := K) rfl) (pe_op op_mul pe_int (pv 3)) pe_int)) (pv 3)))
      (pss_cons (ps_set (i := 5) sc_law_stretches.nd rfl (Or.inl rfl) (pe_lst pa_nil))
      (pss_cons (ps_for PassesOwn.never rfl (pi_range1 rfl b_range (pa_cons (pv 1) pa_nil)) (pg_name (i := 6) sc_law_stretches.nd rfl (Or.inl rfl)) (pss_cons (ps_set (i := 7) sc_law_stretches.nd rfl (Or.inl rfl) (pe_op (op_addB (K := K) rfl) pe_int (pe_op op_mod (pe_callC C__law_cell (hr.mono (by decide)) rfl (pa_cons (pv 0) (pa_cons (pe_op (op_addB (K := K) rfl) pe_int (pe_op op_mul pe_int (pv 6))) pa_nil))) (pv 2))))
      (pss_cons (ps_expr (pe_bmK (K := K) rfl PySem.F.plainAttrs_list PySem.F.slot_list_append PySem.F.type_list_append mt_append (pv 5) (pa_cons (pe_tup (pa_cons (pv 4) (pa_cons (pv 7) pa_nil))) pa_nil)))
      (pss_one (ps_set (i := 4) sc_law_stretches.nd rfl (Or.inl rfl) (pe_op (op_addB (K := K) rfl) (pe_op (op_addB (K := K) rfl) (pe_op (op_addB (K := K) rfl) (pv 4) (pv 7)) pe_int) (pe_op op_mod (pe_callC C__law_cell (hr.mono (by decide)) rfl (pa_cons (pv 0) (pa_cons (pe_op (op_addB (K := K) rfl) pe_int (pe_op op_mul pe_int (pv 6))) pa_nil))) (pv 2))))))))
      (pss_one (ps_ret (pv 5)))))), ?_⟩
  exact fn_done (N := ["script", "many", "span", "far", "place", "found", "k", "length"]) (x_seq (x_setZ (s_op o_sub (s_op o_mod (s_call (s_cons (s_var 0) (s_cons s_int s_nil))) (s_op o_add (s_op o_mul s_int (s_var 3)) s_int)) (s_var 3)))
      (x_seq (x_set (s_lst s_nil))
      (x_seq (x_for (s_iR1 (s_cons (s_var 1) s_nil)) (g_nm 6) (x_seq (x_setZ (s_op o_add s_int (s_op o_mod (s_call (s_cons (s_var 0) (s_cons (s_op o_add s_int (s_op o_mul s_int (s_var 6))) s_nil))) (s_var 2))))
      (x_seq (x_app (s_tup (s_cons (s_var 4) (s_cons (s_var 7) s_nil))))
      (x_setZ (s_op o_add (s_op o_add (s_op o_add (s_var 4) (s_var 7)) s_int) (s_op o_mod (s_call (s_cons (s_var 0) (s_cons (s_op o_add s_int (s_op o_mul s_int (s_var 6))) s_nil))) (s_var 2)))))))
      x_retV))) h
theorem sc_law : FnScope ["script", "first", "row", "spot", "which", "seats"] ["script"] (defScope s_law) := ⟨rfl, rfl, rfl, by decide +kernel, rfl, by decide +kernel, by decide +kernel⟩
theorem ok_law {f : Addr} {fd : FuncData} (F : Fun K "law" "law" s_law f fd) (b_range : mg "range" = none) (C__law_refused : Cal P w K mg base "_law_refused" 7 ["which", "row", "seats", "spot"] (spE K C 4 ev_law_refused)) (C__law_cell : Cal P w K mg base "_law_cell" 1 ["script", "k"] (spE K C 2 ev_law_cell)) (C_Row : CalM P w K mg base "Row" C 2 ["self", "stretches"] (spInit C K)) (C__law_stretches : Cal P w K mg base "_law_stretches" 2 ["script", "many", "span", "far"] (spE K C 4 ev_law_stretches)) : FnOk P w K mg base CX0 8 f fd ["script"] (spE K C 1 ev_law) := by
  refine F.ok sc_law (fun vs H Q E h => spE_len h) (fun cdv A outer s H vs Q E hr h => ?_)
  have hu := hr.units
  refine ⟨_, (pss_cons (ps_set (i := 1) sc_law.nd rfl (Or.inl rfl) (pe_callC C__law_cell (hr.mono (by decide)) rfl (pa_cons (pv 0) (pa_cons pe_int pa_nil))))
      (pss_cons (ps_set (i := 2) sc_law.nd rfl (Or.inl rfl) (pe_makeC C_Row (hr.mono (by decide)) rfl (pa_cons (pe_callC C__law_stretches (hr.mono (by decide)) rfl (pa_cons (pv 0) (pa_cons (pe_op op_mod (pv 1) pe_int) (pa_cons pe_int (pa_cons pe_int pa_nil))))) pa_nil)))
      (pss_cons (ps_set (i := 3) sc_law.nd rfl (Or.inl rfl) (pe_op op_sub (pe_op op_mod (pe_callC C__law_cell (hr.mono (by decide)) rfl (pa_cons (pv 0) (pa_cons pe_int pa_nil))) pe_int) pe_int))
      (pss_cons (ps_for PassesOwn.never rfl (pi_range1 rfl b_range (pa_cons pe_int pa_nil)) (pg_name (i := 4) sc_law.nd rfl (Or.inl rfl)) (pss_cons (ps_for PassesOwn.never rfl (pi_seqK (K := K) rfl (pe_lst (pa_cons pe_int (pa_cons (pe_un un_neg pe_int) (pa_cons (pe_op op_sub (pe_un un_neg pe_int) (pe_op op_mod (pe_callC C__law_cell (hr.mono (by decide)) rfl (pa_cons (pv 0) (pa_cons pe_int pa_nil))) (pe_op op_pow pe_int pe_int))) pa_nil))))) (pg_name (i := 5) sc_law.nd rfl (Or.inl rfl)) (pss_one (ps_if (pt_not (pt_truK (K := K) rfl (pe_callC C__law_refused (hr.mono (by decide)) rfl (pa_cons (pv 4) (pa_cons (pv 2) (pa_cons (pv 5) (pa_cons (pv 3) pa_nil))))) (fun _ => rfl))) (pss_one (ps_ret pe_bl)) pss_nil)))
      (pss_one (ps_if (pt_truK (K := K) rfl (pe_callC C__law_refused (hr.mono (by decide)) rfl (pa_cons (pv 4) (pa_cons (pv 2) (pa_cons pe_int (pa_cons (pv 3) pa_nil))))) (fun _ => rfl)) (pss_one (ps_ret pe_bl)) pss_nil))))
      (pss_one (ps_ret pe_bl)))))), ?_⟩
  exact fn_done (N := ["script", "first", "row", "spot", "which", "seats"]) (x_seq (x_setZ (s_call (s_cons (s_var 0) (s_cons s_int s_nil))))
      (x_seq (x_setZ (s_row (s_cons (s_call (s_cons (s_var 0) (s_cons (s_op o_mod (s_var 1) s_int) (s_cons s_int (s_cons s_int s_nil))))) s_nil)))
      (x_seq (x_setZ (s_op o_sub (s_op o_mod (s_call (s_cons (s_var 0) (s_cons s_int s_nil))) s_int) s_int))
      (x_seq (x_for (s_iR1 (s_cons s_int s_nil)) (g_nm 4) (x_seq (x_for (s_iE (s_lst (s_cons s_int (s_cons (s_un u_neg s_int) (s_cons (s_op o_sub (s_un u_neg s_int) (s_op o_mod (s_call (s_cons (s_var 0) (s_cons s_int s_nil))) (s_op o_pow s_int s_int))) s_nil))))) (g_nm 5) (x_if (s_tNot (s_tru (s_call (s_cons (s_var 4) (s_cons (s_var 2) (s_cons (s_var 5) (s_cons (s_var 3) s_nil))))))) (x_ret s_bl) x_next))
      (x_if (s_tru (s_call (s_cons (s_var 4) (s_cons (s_var 2) (s_cons s_int (s_cons (s_var 3) s_nil)))))) (x_ret s_bl) x_next)))
      (x_ret s_bl))))) h
end
theorem all_mk {l : PySem.W.OpenLaw} {w : World} {K : PySem.W.Frag} {h : Heap} {mg : Str → Option Value} {fa : Addr} {C : Addr} {f1 : Addr} {od1 an1 : Option Addr} {sl1 : Array (Option Value)} {oc1 kV1 dc1 pm1 cd1 ct1 : Value} {f2 : Addr} {od2 an2 : Option Addr} {sl2 : Array (Option Value)} {oc2 kV2 dc2 pm2 cd2 ct2 : Value} {f3 : Addr} {od3 an3 : Option Addr} {sl3 : Array (Option Value)} {oc3 kV3 dc3 pm3 cd3 ct3 : Value} {f4 : Addr} {od4 an4 : Option Addr} {sl4 : Array (Option Value)} {oc4 kV4 dc4 pm4 cd4 ct4 : Value} {f5 : Addr} {od5 an5 : Option Addr} {sl5 : Array (Option Value)} {oc5 kV5 dc5 pm5 cd5 ct5 : Value} {f6 : Addr} {od6 an6 : Option Addr} {sl6 : Array (Option Value)} {oc6 kV6 dc6 pm6 cd6 ct6 : Value} {f7 : Addr} {od7 an7 : Option Addr} {sl7 : Array (Option Value)} {oc7 kV7 dc7 pm7 cd7 ct7 : Value} {f8 : Addr} {od8 an8 : Option Addr} {sl8 : Array (Option Value)} {oc8 kV8 dc8 pm8 cd8 ct8 : Value} {f9 : Addr} {od9 an9 : Option Addr} {sl9 : Array (Option Value)} {oc9 kV9 dc9 pm9 cd9 ct9 : Value} {f10 : Addr} {od10 an10 : Option Addr} {sl10 : Array (Option Value)} {oc10 kV10 dc10 pm10 cd10 ct10 : Value} {f11 : Addr} {od11 an11 : Option Addr} {sl11 : Array (Option Value)} {oc11 kV11 dc11 pm11 cd11 ct11 : Value} {f12 : Addr} {od12 an12 : Option Addr} {sl12 : Array (Option Value)} {oc12 kV12 dc12 pm12 cd12 ct12 : Value} {f13 : Addr} {od13 an13 : Option Addr} {sl13 : Array (Option Value)} {oc13 kV13 dc13 pm13 cd13 ct13 : Value} {f14 : Addr} {od14 an14 : Option Addr} {sl14 : Array (Option Value)} {oc14 kV14 dc14 pm14 cd14 ct14 : Value} {f15 : Addr} {od15 an15 : Option Addr} {sl15 : Array (Option Value)} {oc15 kV15 dc15 pm15 cd15 ct15 : Value} {f16 : Addr} {od16 an16 : Option Addr} {sl16 : Array (Option Value)} {oc16 kV16 dc16 pm16 cd16 ct16 : Value} {c_BadSeats : Addr} {c_BadDeed : Addr} {c_BadRow : Addr} {c_BadTable : Addr} {c_BadText : Addr} {c_NoRow : Addr} {c_TooMany : Addr} {c_Unlike : Addr} {c_LumpError : Addr} {t_MOST_STRETCHES : Tok} (X : K.In h) (G : h.Ns mainGlobals mg) (hfa : mg "law" = some (.ref fa))
    (aC : PySem.W.nsIn K mainGlobals "Row" = some (some (.ref C)))
    (a1 : PySem.W.nsIn K mainGlobals "gaps_of" = some (some (.ref f1)))
    (l1 : K.lookup f1 = some ⟨oc1, od1, .func (PySem.W.fnOf "gaps_of" "gaps_of" (defArgs s_gaps_of) (defBody s_gaps_of) (defScope s_gaps_of) .none kV1 dc1 pm1 an1 cd1 ct1), sl1⟩)
    (c1 : PySem.W.codeIn K cd1 "gaps_of" = true)
    (k1 : PySem.W.keepIn K (.ref f1) = true)
    (a2 : PySem.W.nsIn K mainGlobals "ball_count" = some (some (.ref f2)))
    (l2 : K.lookup f2 = some ⟨oc2, od2, .func (PySem.W.fnOf "ball_count" "ball_count" (defArgs s_ball_count) (defBody s_ball_count) (defScope s_ball_count) .none kV2 dc2 pm2 an2 cd2 ct2), sl2⟩)
    (c2 : PySem.W.codeIn K cd2 "ball_count" = true)
    (k2 : PySem.W.keepIn K (.ref f2) = true)
    (a3 : PySem.W.nsIn K mainGlobals "check_seats" = some (some (.ref f3)))
    (l3 : K.lookup f3 = some ⟨oc3, od3, .func (PySem.W.fnOf "check_seats" "check_seats" (defArgs s_check_seats) (defBody s_check_seats) (defScope s_check_seats) .none kV3 dc3 pm3 an3 cd3 ct3), sl3⟩)
    (c3 : PySem.W.codeIn K cd3 "check_seats" = true)
    (k3 : PySem.W.keepIn K (.ref f3) = true)
    (a4 : PySem.W.nsIn K mainGlobals "stops" = some (some (.ref f4)))
    (l4 : K.lookup f4 = some ⟨oc4, od4, .func (PySem.W.fnOf "stops" "stops" (defArgs s_stops) (defBody s_stops) (defScope s_stops) .none kV4 dc4 pm4 an4 cd4 ct4), sl4⟩)
    (c4 : PySem.W.codeIn K cd4 "stops" = true)
    (k4 : PySem.W.keepIn K (.ref f4) = true)
    (a5 : PySem.W.nsIn K mainGlobals "aboard" = some (some (.ref f5)))
    (l5 : K.lookup f5 = some ⟨oc5, od5, .func (PySem.W.fnOf "aboard" "aboard" (defArgs s_aboard) (defBody s_aboard) (defScope s_aboard) .none kV5 dc5 pm5 an5 cd5 ct5), sl5⟩)
    (c5 : PySem.W.codeIn K cd5 "aboard" = true)
    (k5 : PySem.W.keepIn K (.ref f5) = true)
    (a6 : PySem.W.nsIn K mainGlobals "taken" = some (some (.ref f6)))
    (l6 : K.lookup f6 = some ⟨oc6, od6, .func (PySem.W.fnOf "taken" "taken" (defArgs s_taken) (defBody s_taken) (defScope s_taken) .none kV6 dc6 pm6 an6 cd6 ct6), sl6⟩)
    (c6 : PySem.W.codeIn K cd6 "taken" = true)
    (k6 : PySem.W.keepIn K (.ref f6) = true)
    (a7 : PySem.W.nsIn K mainGlobals "check_stretches" = some (some (.ref f7)))
    (l7 : K.lookup f7 = some ⟨oc7, od7, .func (PySem.W.fnOf "check_stretches" "check_stretches" (defArgs s_check_stretches) (defBody s_check_stretches) (defScope s_check_stretches) .none kV7 dc7 pm7 an7 cd7 ct7), sl7⟩)
    (c7 : PySem.W.codeIn K cd7 "check_stretches" = true)
    (k7 : PySem.W.keepIn K (.ref f7) = true)
    (a8 : PySem.W.findIn K (.ref C) "__init__" = some (some (.ref f8)))
    (i8 : PySem.W.isFn K (.ref f8) = true)
    (l8 : K.lookup f8 = some ⟨oc8, od8, .func (PySem.W.fnOf "__init__" "Row.__init__" (defArgs s_Row_init) (defBody s_Row_init) (defScope s_Row_init) .none kV8 dc8 pm8 an8 cd8 ct8), sl8⟩)
    (c8 : PySem.W.codeIn K cd8 "Row.__init__" = true)
    (k8 : PySem.W.keepIn K (.ref f8) = true)
    (a9 : PySem.W.nsIn K mainGlobals "mirrored" = some (some (.ref f9)))
    (l9 : K.lookup f9 = some ⟨oc9, od9, .func (PySem.W.fnOf "mirrored" "mirrored" (defArgs s_mirrored) (defBody s_mirrored) (defScope s_mirrored) .none kV9 dc9 pm9 an9 cd9 ct9), sl9⟩)
    (c9 : PySem.W.codeIn K cd9 "mirrored" = true)
    (k9 : PySem.W.keepIn K (.ref f9) = true)
    (a10 : PySem.W.nsIn K mainGlobals "gone" = some (some (.ref f10)))
    (l10 : K.lookup f10 = some ⟨oc10, od10, .func (PySem.W.fnOf "gone" "gone" (defArgs s_gone) (defBody s_gone) (defScope s_gone) .none kV10 dc10 pm10 an10 cd10 ct10), sl10⟩)
    (c10 : PySem.W.codeIn K cd10 "gone" = true)
    (k10 : PySem.W.keepIn K (.ref f10) = true)
    (a11 : PySem.W.nsIn K mainGlobals "back" = some (some (.ref f11)))
    (l11 : K.lookup f11 = some ⟨oc11, od11, .func (PySem.W.fnOf "back" "back" (defArgs s_back) (defBody s_back) (defScope s_back) .none kV11 dc11 pm11 an11 cd11 ct11), sl11⟩)
    (c11 : PySem.W.codeIn K cd11 "back" = true)
    (k11 : PySem.W.keepIn K (.ref f11) = true)
    (a12 : PySem.W.nsIn K mainGlobals "_law_ask" = some (some (.ref f12)))
    (l12 : K.lookup f12 = some ⟨oc12, od12, .func (PySem.W.fnOf "_law_ask" "_law_ask" (defArgs s_law_ask) (defBody s_law_ask) (defScope s_law_ask) .none kV12 dc12 pm12 an12 cd12 ct12), sl12⟩)
    (c12 : PySem.W.codeIn K cd12 "_law_ask" = true)
    (k12 : PySem.W.keepIn K (.ref f12) = true)
    (a13 : PySem.W.nsIn K mainGlobals "_law_refused" = some (some (.ref f13)))
    (l13 : K.lookup f13 = some ⟨oc13, od13, .func (PySem.W.fnOf "_law_refused" "_law_refused" (defArgs s_law_refused) (defBody s_law_refused) (defScope s_law_refused) .none kV13 dc13 pm13 an13 cd13 ct13), sl13⟩)
    (c13 : PySem.W.codeIn K cd13 "_law_refused" = true)
    (k13 : PySem.W.keepIn K (.ref f13) = true)
    (a14 : PySem.W.nsIn K mainGlobals "_law_cell" = some (some (.ref f14)))
    (l14 : K.lookup f14 = some ⟨oc14, od14, .func (PySem.W.fnOf "_law_cell" "_law_cell" (defArgs s_law_cell) (defBody s_law_cell) (defScope s_law_cell) .none kV14 dc14 pm14 an14 cd14 ct14), sl14⟩)
    (c14 : PySem.W.codeIn K cd14 "_law_cell" = true)
    (k14 : PySem.W.keepIn K (.ref f14) = true)
    (a15 : PySem.W.nsIn K mainGlobals "_law_stretches" = some (some (.ref f15)))
    (l15 : K.lookup f15 = some ⟨oc15, od15, .func (PySem.W.fnOf "_law_stretches" "_law_stretches" (defArgs s_law_stretches) (defBody s_law_stretches) (defScope s_law_stretches) .none kV15 dc15 pm15 an15 cd15 ct15), sl15⟩)
    (c15 : PySem.W.codeIn K cd15 "_law_stretches" = true)
    (k15 : PySem.W.keepIn K (.ref f15) = true)
    (a16 : PySem.W.nsIn K mainGlobals "law" = some (some (.ref f16)))
    (l16 : K.lookup f16 = some ⟨oc16, od16, .func (PySem.W.fnOf "law" "law" (defArgs s_law) (defBody s_law) (defScope s_law) .none kV16 dc16 pm16 an16 cd16 ct16), sl16⟩)
    (c16 : PySem.W.codeIn K cd16 "law" = true)
    (k16 : PySem.W.keepIn K (.ref f16) = true)
    (pg : PySem.W.plainGet K C Str.empty = true)
    (hd : PySem.W.hasDictIn K C = true)
    (po : PySem.W.plainOver K C = true)
    (sa : PySem.W.findIn K (.ref C) "__setattr__" = some (some (.builtin "object.__setattr__")))
    (mk : PySem.W.makesIn K C = true)
    (kc : PySem.W.keepIn K (.ref C) = true)
    (nS : PySem.W.findIn K (.ref C) "stretches" = some none)
    (n_BadSeats : PySem.W.nsIn K mainGlobals "BadSeats" = some (some (.ref c_BadSeats)))
    (n_BadDeed : PySem.W.nsIn K mainGlobals "BadDeed" = some (some (.ref c_BadDeed)))
    (n_BadRow : PySem.W.nsIn K mainGlobals "BadRow" = some (some (.ref c_BadRow)))
    (n_BadTable : PySem.W.nsIn K mainGlobals "BadTable" = some (some (.ref c_BadTable)))
    (n_BadText : PySem.W.nsIn K mainGlobals "BadText" = some (some (.ref c_BadText)))
    (n_NoRow : PySem.W.nsIn K mainGlobals "NoRow" = some (some (.ref c_NoRow)))
    (n_TooMany : PySem.W.nsIn K mainGlobals "TooMany" = some (some (.ref c_TooMany)))
    (n_Unlike : PySem.W.nsIn K mainGlobals "Unlike" = some (some (.ref c_Unlike)))
    (n_LumpError : PySem.W.nsIn K mainGlobals "LumpError" = some (some (.ref c_LumpError)))
    (xo_BadSeats : PySem.W.excIn K c_BadSeats VEm "ValueError.__new__" = true)
    (xga_BadSeats : PySem.W.findIn K (.ref c_BadSeats) "__getattribute__" = some (some (.builtin "BaseException.__getattribute__")))
    (xgn_BadSeats : PySem.W.findIn K (.ref c_BadSeats) "__getattr__" = some none)
    (xmb_BadSeats : PySem.W.mroIn K c_BadSeats (.type "BaseException") = some true)
    (xh_BadSeats : PySem.W.hasDictIn K c_BadSeats = true)
    (xf_BadSeats : PySem.W.findIn K (.ref c_BadSeats) "__class__" = some (some (.builtin "object.__class__")))
    (xm_BadSeats : PySem.W.mroIn K c_BadSeats (.type "object") = some true)
    (xg1 : PySem.W.specialIn K (.builtin "object.__class__") "__get__" = some (some (.builtin "getset_descriptor.__get__")))
    (xg2 : PySem.W.takesIn K (.builtin "object.__class__") = some true)
    (kv_BadSeats : PySem.W.kitOne K (.ref c_BadSeats) (.type "ValueError") = some true)
    (ki_BadSeats_BadSeats : PySem.W.kitOne K (.ref c_BadSeats) (.ref c_BadSeats) = some true)
    (kn_BadSeats : PySem.W.kitOne K (.type "NoneType") (.ref c_BadSeats) = some false)
    (ki_BadDeed_BadSeats : PySem.W.kitOne K (.ref c_BadSeats) (.ref c_BadDeed) = some false)
    (kn_BadDeed : PySem.W.kitOne K (.type "NoneType") (.ref c_BadDeed) = some false)
    (ki_BadRow_BadSeats : PySem.W.kitOne K (.ref c_BadSeats) (.ref c_BadRow) = some false)
    (kn_BadRow : PySem.W.kitOne K (.type "NoneType") (.ref c_BadRow) = some false)
    (ki_BadTable_BadSeats : PySem.W.kitOne K (.ref c_BadSeats) (.ref c_BadTable) = some false)
    (kn_BadTable : PySem.W.kitOne K (.type "NoneType") (.ref c_BadTable) = some false)
    (ki_BadText_BadSeats : PySem.W.kitOne K (.ref c_BadSeats) (.ref c_BadText) = some false)
    (kn_BadText : PySem.W.kitOne K (.type "NoneType") (.ref c_BadText) = some false)
    (ki_NoRow_BadSeats : PySem.W.kitOne K (.ref c_BadSeats) (.ref c_NoRow) = some false)
    (kn_NoRow : PySem.W.kitOne K (.type "NoneType") (.ref c_NoRow) = some false)
    (ki_TooMany_BadSeats : PySem.W.kitOne K (.ref c_BadSeats) (.ref c_TooMany) = some false)
    (kn_TooMany : PySem.W.kitOne K (.type "NoneType") (.ref c_TooMany) = some false)
    (ki_Unlike_BadSeats : PySem.W.kitOne K (.ref c_BadSeats) (.ref c_Unlike) = some false)
    (kn_Unlike : PySem.W.kitOne K (.type "NoneType") (.ref c_Unlike) = some false)
    (et_LumpError_BadSeats : PySem.W.exmOne K (.ref c_BadSeats) (.ref c_LumpError) = some true)
    (z_sum : PySem.W.nsIn K mainGlobals "sum" = some none)
    (z_zip : PySem.W.nsIn K mainGlobals "zip" = some none)
    (z_min : PySem.W.nsIn K mainGlobals "min" = some none)
    (z_max : PySem.W.nsIn K mainGlobals "max" = some none)
    (z_tuple : PySem.W.nsIn K mainGlobals "tuple" = some none)
    (z_len : PySem.W.nsIn K mainGlobals "len" = some none)
    (z_reversed : PySem.W.nsIn K mainGlobals "reversed" = some none)
    (z_isinstance : PySem.W.nsIn K mainGlobals "isinstance" = some none)
    (z_ValueError : PySem.W.nsIn K mainGlobals "ValueError" = some none)
    (z_range : PySem.W.nsIn K mainGlobals "range" = some none)
    (y_MOST_STRETCHES : PySem.W.nsIn K mainGlobals "MOST_STRETCHES" = some (some (.int 30 t_MOST_STRETCHES)))
    : ∃ fd : FuncData, (∀ (s : Shared) (v : Value), BindsTo s fd ⟨[v], []⟩ [("script", v)]) ∧ ∀ base : Heap, K.In base → base.Ns mainGlobals mg → FnOk l.prog w K mg base CX0 8 fa fd ["script"] (spLaw K) := by
  have e := hfa.symm.trans (PySem.W.mg_of X G a16)
  cases e
  have T : RowC K C := ⟨⟨pg, hd, po, sa⟩, nS⟩
  have m_Row := PySem.W.mg_of X G aC
  have m_BadSeats := PySem.W.mg_of X G n_BadSeats
  have m_BadDeed := PySem.W.mg_of X G n_BadDeed
  have m_BadRow := PySem.W.mg_of X G n_BadRow
  have m_BadTable := PySem.W.mg_of X G n_BadTable
  have m_BadText := PySem.W.mg_of X G n_BadText
  have m_NoRow := PySem.W.mg_of X G n_NoRow
  have m_TooMany := PySem.W.mg_of X G n_TooMany
  have m_Unlike := PySem.W.mg_of X G n_Unlike
  have m_LumpError := PySem.W.mg_of X G n_LumpError
  have x_BadSeats : AtX K "BadSeats" c_BadSeats := ⟨n_BadSeats, xo_BadSeats, xga_BadSeats, xgn_BadSeats, xmb_BadSeats, xh_BadSeats, xf_BadSeats, xm_BadSeats⟩
  have xG : ExcG K := ⟨xg1, xg2⟩
  have xO : OwnL K ["BadSeats"] [c_BadSeats] := own_cons x_BadSeats (own_nil)
  have iV : IsiV K ["BadSeats"] := isiV_of xO xG (kiv_cons kv_BadSeats (kiv_nil))
  have i_BadSeats : IsiN K ["BadSeats"] "BadSeats" c_BadSeats := isiN_of xO xG (kit_cons ki_BadSeats_BadSeats (by decide +kernel) (kit_nil)) kn_BadSeats
  have i_BadDeed : IsiN K ["BadSeats"] "BadDeed" c_BadDeed := isiN_of xO xG (kit_cons ki_BadDeed_BadSeats (by decide +kernel) (kit_nil)) kn_BadDeed
  have i_BadRow : IsiN K ["BadSeats"] "BadRow" c_BadRow := isiN_of xO xG (kit_cons ki_BadRow_BadSeats (by decide +kernel) (kit_nil)) kn_BadRow
  have i_BadTable : IsiN K ["BadSeats"] "BadTable" c_BadTable := isiN_of xO xG (kit_cons ki_BadTable_BadSeats (by decide +kernel) (kit_nil)) kn_BadTable
  have i_BadText : IsiN K ["BadSeats"] "BadText" c_BadText := isiN_of xO xG (kit_cons ki_BadText_BadSeats (by decide +kernel) (kit_nil)) kn_BadText
  have i_NoRow : IsiN K ["BadSeats"] "NoRow" c_NoRow := isiN_of xO xG (kit_cons ki_NoRow_BadSeats (by decide +kernel) (kit_nil)) kn_NoRow
  have i_TooMany : IsiN K ["BadSeats"] "TooMany" c_TooMany := isiN_of xO xG (kit_cons ki_TooMany_BadSeats (by decide +kernel) (kit_nil)) kn_TooMany
  have i_Unlike : IsiN K ["BadSeats"] "Unlike" c_Unlike := isiN_of xO xG (kit_cons ki_Unlike_BadSeats (by decide +kernel) (kit_nil)) kn_Unlike
  have t_LumpError : ExmL K c_LumpError [c_BadSeats] := exm_cons et_LumpError_BadSeats (exm_nil)
  have b_sum := PySem.W.mg_none_of X G z_sum
  have b_zip := PySem.W.mg_none_of X G z_zip
  have b_min := PySem.W.mg_none_of X G z_min
  have b_max := PySem.W.mg_none_of X G z_max
  have b_tuple := PySem.W.mg_none_of X G z_tuple
  have b_len := PySem.W.mg_none_of X G z_len
  have b_reversed := PySem.W.mg_none_of X G z_reversed
  have b_isinstance := PySem.W.mg_none_of X G z_isinstance
  have b_ValueError := PySem.W.mg_none_of X G z_ValueError
  have b_range := PySem.W.mg_none_of X G z_range
  have g_MOST_STRETCHES : GV mg "MOST_STRETCHES" (.int 30) := ⟨_, PySem.W.mg_of X G y_MOST_STRETCHES, ⟨_, rfl⟩⟩
  have F1 := fun_mk (st := s_gaps_of) l1 c1 k1
  have B1 := F1.binds (ps := ["row"]) fun _ _ _ _ _ _ us hl => match us, hl with | [_], _ => rfl
  have F2 := fun_mk (st := s_ball_count) l2 c2 k2
  have B2 := F2.binds (ps := ["row"]) fun _ _ _ _ _ _ us hl => match us, hl with | [_], _ => rfl
  have F3 := fun_mk (st := s_check_seats) l3 c3 k3
  have B3 := F3.binds (ps := ["seats"]) fun _ _ _ _ _ _ us hl => match us, hl with | [_], _ => rfl
  have F4 := fun_mk (st := s_stops) l4 c4 k4
  have B4 := F4.binds (ps := ["row", "seats"]) fun _ _ _ _ _ _ us hl => match us, hl with | [_, _], _ => rfl
  have F5 := fun_mk (st := s_aboard) l5 c5 k5
  have B5 := F5.binds (ps := ["row", "seats", "place"]) fun _ _ _ _ _ _ us hl => match us, hl with | [_, _, _], _ => rfl
  have F6 := fun_mk (st := s_taken) l6 c6 k6
  have B6 := F6.binds (ps := ["row", "seats"]) fun _ _ _ _ _ _ us hl => match us, hl with | [_, _], _ => rfl
  have F7 := fun_mk (st := s_check_stretches) l7 c7 k7
  have B7 := F7.binds (ps := ["stretches"]) fun _ _ _ _ _ _ us hl => match us, hl with | [_], _ => rfl
  have F8 := fun_mk (st := s_Row_init) l8 c8 k8
  have B8 := F8.binds (ps := ["self", "stretches"]) fun _ _ _ _ _ _ us hl => match us, hl with | [_, _], _ => rfl
  have F9 := fun_mk (st := s_mirrored) l9 c9 k9
  have B9 := F9.binds (ps := ["row"]) fun _ _ _ _ _ _ us hl => match us, hl with | [_], _ => rfl
  have F10 := fun_mk (st := s_gone) l10 c10 k10
  have B10 := F10.binds (ps := ["row", "seats"]) fun _ _ _ _ _ _ us hl => match us, hl with | [_, _], _ => rfl
  have F11 := fun_mk (st := s_back) l11 c11 k11
  have B11 := F11.binds (ps := ["row", "seats"]) fun _ _ _ _ _ _ us hl => match us, hl with | [_, _], _ => rfl
  have F12 := fun_mk (st := s_law_ask) l12 c12 k12
  have B12 := F12.binds (ps := ["which", "row", "seats", "spot"]) fun _ _ _ _ _ _ us hl => match us, hl with | [_, _, _, _], _ => rfl
  have F13 := fun_mk (st := s_law_refused) l13 c13 k13
  have B13 := F13.binds (ps := ["which", "row", "seats", "spot"]) fun _ _ _ _ _ _ us hl => match us, hl with | [_, _, _, _], _ => rfl
  have F14 := fun_mk (st := s_law_cell) l14 c14 k14
  have B14 := F14.binds (ps := ["script", "k"]) fun _ _ _ _ _ _ us hl => match us, hl with | [_, _], _ => rfl
  have F15 := fun_mk (st := s_law_stretches) l15 c15 k15
  have B15 := F15.binds (ps := ["script", "many", "span", "far"]) fun _ _ _ _ _ _ us hl => match us, hl with | [_, _, _, _], _ => rfl
  have F16 := fun_mk (st := s_law) l16 c16 k16
  have B16 := F16.binds (ps := ["script"]) fun _ _ _ _ _ _ us hl => match us, hl with | [_], _ => rfl
  refine ⟨PySem.W.fnOf "law" "law" (defArgs s_law) (defBody s_law) (defScope s_law) .none kV16 dc16 pm16 an16 cd16 ct16, fun s v => .of_eq rfl, fun base _ _ => ?_⟩
  have C_gaps_of : Cal l.prog w K mg base "gaps_of" 1 ["row"] (spE K C 1 ev_gaps_of) := ⟨f1, _, ok_gaps_of (C := C) F1 b_sum b_zip T, PySem.W.mg_of X G a1, k1, B1⟩
  have C_ball_count : Cal l.prog w K mg base "ball_count" 1 ["row"] (spE K C 1 ev_ball_count) := ⟨f2, _, ok_ball_count (C := C) F2 b_sum T, PySem.W.mg_of X G a2, k2, B2⟩
  have CX_check_seats : CalX l.prog w K mg base "check_seats" 1 ["seats"] (spX K C 1 ev_check_seats ex_check_seats) := ⟨f3, _, ok_check_seats (C := C) F3 m_BadSeats x_BadSeats, PySem.W.mg_of X G a3, k3, B3⟩
  have CX_stops : CalX l.prog w K mg base "stops" 2 ["row", "seats"] (spX K C 2 ev_stops ex_stops) := ⟨f4, _, ok_stops (C := C) F4 b_zip b_min C_gaps_of C_ball_count CX_check_seats T, PySem.W.mg_of X G a4, k4, B4⟩
  have CX_aboard : CalX l.prog w K mg base "aboard" 3 ["row", "seats", "place"] (spX K C 3 ev_aboard ex_aboard) := ⟨f5, _, ok_aboard (C := C) F5 b_min b_max CX_stops, PySem.W.mg_of X G a5, k5, B5⟩
  have CX_taken : CalX l.prog w K mg base "taken" 3 ["row", "seats"] (spX K C 2 ev_taken ex_taken) := ⟨f6, _, ok_taken (C := C) F6 b_sum CX_stops, PySem.W.mg_of X G a6, k6, B6⟩
  have C_check_stretches : Cal l.prog w K mg base "check_stretches" 1 ["stretches"] (spCheck K) := ⟨f7, _, ok_check_stretches F7 , PySem.W.mg_of X G a7, k7, B7⟩
  have C_Row : CalM l.prog w K mg base "Row" C 2 ["self", "stretches"] (spInit C K) := ⟨f8, _, ⟨mk, a8, i8, kc⟩, ok_Row_init F8 b_tuple b_len g_MOST_STRETCHES C_check_stretches T, m_Row, B8⟩
  have C_mirrored : Cal l.prog w K mg base "mirrored" 4 ["row"] (spE K C 1 ev_mirrored) := ⟨f9, _, ok_mirrored (C := C) F9 b_reversed C_Row T, PySem.W.mg_of X G a9, k9, B9⟩
  have CX_gone : CalX l.prog w K mg base "gone" 4 ["row", "seats"] (spX K C 2 ev_gone ex_gone) := ⟨f10, _, ok_gone (C := C) F10 C_Row CX_stops, PySem.W.mg_of X G a10, k10, B10⟩
  have CX_back : CalX l.prog w K mg base "back" 5 ["row", "seats"] (spX K C 2 ev_back ex_back) := ⟨f11, _, ok_back (C := C) F11 C_mirrored CX_gone, PySem.W.mg_of X G a11, k11, B11⟩
  have CX__law_ask : CalX l.prog w K mg base "_law_ask" 6 ["which", "row", "seats", "spot"] (spX K C 4 ev_law_ask ex_law_ask) := ⟨f12, _, ok_law_ask (C := C) F12 CX_aboard CX_taken CX_back CX_gone, PySem.W.mg_of X G a12, k12, B12⟩
  have C__law_refused : Cal l.prog w K mg base "_law_refused" 7 ["which", "row", "seats", "spot"] (spE K C 4 ev_law_refused) := ⟨f13, _, ok_law_refused (C := C) F13 b_isinstance b_ValueError CX__law_ask xG xO iV m_BadSeats i_BadSeats m_BadDeed i_BadDeed m_BadRow i_BadRow m_BadTable i_BadTable m_BadText i_BadText m_NoRow i_NoRow m_TooMany i_TooMany m_Unlike i_Unlike m_LumpError t_LumpError, PySem.W.mg_of X G a13, k13, B13⟩
  have C__law_cell : Cal l.prog w K mg base "_law_cell" 1 ["script", "k"] (spE K C 2 ev_law_cell) := ⟨f14, _, ok_law_cell (C := C) F14 b_len, PySem.W.mg_of X G a14, k14, B14⟩
  have C__law_stretches : Cal l.prog w K mg base "_law_stretches" 2 ["script", "many", "span", "far"] (spE K C 4 ev_law_stretches) := ⟨f15, _, ok_law_stretches (C := C) F15 b_range C__law_cell, PySem.W.mg_of X G a15, k15, B15⟩
  exact law_imp (ok_law (C := C) F16 b_range C__law_refused C__law_cell C_Row C__law_stretches) law_true
theorem walk {l : PySem.W.OpenLaw} {q : Program} {loose : List Str} {XP : (Str → Option Value) → Heap → Prop} {YP : World → Heap → Prop} {d : DefRec} {K : Params → PySem.W.Frag} (hn : l.most = some 63) (hdf : d.params.defaults = [])
    (hY : ∀ (w : World) (h : Heap), YP w h → (K w.params).In h)
    (F : ∀ (w : World) (mg : Str → Option Value) (fa : Addr) (h : Heap), (K w.params).In h → h.Ns mainGlobals mg → mg d.name = some (.ref fa) →
      ∃ fd : FuncData, (∀ (s : Shared) (u : Value), BindsTo s fd ⟨[u], []⟩ [("script", u)]) ∧ ∀ base : Heap, (K w.params).In base → base.Ns mainGlobals mg → FnOk l.prog w (K w.params) mg base CX0 8 fa fd ["script"] (spLaw (K w.params))) :
    PySem.W.WalkO q loose XP YP l.row.toRowW d [] (fun f vs => PySem.call f vs) :=
  L2.walk_of (n := 63) (k := 8) (x := "script") (CX := fun _ => CX0) (sp := fun w => spLaw (K w.params)) hn (by decide) hdf ⟨rfl, by decide, by decide⟩ hY F (fun _ _ a ns hl _ hS => ⟨a, ns, rfl, hS, hl, fun _ => rfl⟩) fun _ _ _ _ _ z => z
end LK
open PySem PySem.W PyProof.Rows
set_option maxRecDepth 100000 in
set_option maxHeartbeats 0 in
theorem PySem.Challenge.cw_lumprow_k16_seats_refused_holds : PySem.Challenge.rw_lumprow_k16_seats_refused.Holds := by
  w_on; o_law; k_head; (case hw => w_witness2)
  k_fill
  refine LK.walk (l := PySem.Challenge.rw_lumprow_k16_seats_refused) rfl rfl (fun w h Y => PySem.W.kIn_of Y) ?F
  case F =>
    intro w mg fa h KX G hmg
    refine' LK.all_mk KX G hmg ?aC ?a1 ?l1 ?c1 ?k1 ?a2 ?l2 ?c2 ?k2 ?a3 ?l3 ?c3 ?k3 ?a4 ?l4 ?c4 ?k4 ?a5 ?l5 ?c5 ?k5 ?a6 ?l6 ?c6 ?k6 ?a7 ?l7 ?c7 ?k7 ?a8 ?i8 ?l8 ?c8 ?k8 ?a9 ?l9 ?c9 ?k9 ?a10 ?l10 ?c10 ?k10 ?a11 ?l11 ?c11 ?k11 ?a12 ?l12 ?c12 ?k12 ?a13 ?l13 ?c13 ?k13 ?a14 ?l14 ?c14 ?k14 ?a15 ?l15 ?c15 ?k15 ?a16 ?l16 ?c16 ?k16 ?pg ?hd ?po ?sa ?mk ?kc ?nS ?n_BadSeats ?n_BadDeed ?n_BadRow ?n_BadTable ?n_BadText ?n_NoRow ?n_TooMany ?n_Unlike ?n_LumpError ?xo_BadSeats ?xga_BadSeats ?xgn_BadSeats ?xmb_BadSeats ?xh_BadSeats ?xf_BadSeats ?xm_BadSeats ?xg1 ?xg2 ?kv_BadSeats ?ki_BadSeats_BadSeats ?kn_BadSeats ?ki_BadDeed_BadSeats ?kn_BadDeed ?ki_BadRow_BadSeats ?kn_BadRow ?ki_BadTable_BadSeats ?kn_BadTable ?ki_BadText_BadSeats ?kn_BadText ?ki_NoRow_BadSeats ?kn_NoRow ?ki_TooMany_BadSeats ?kn_TooMany ?ki_Unlike_BadSeats ?kn_Unlike ?et_LumpError_BadSeats ?z_sum ?z_zip ?z_min ?z_max ?z_tuple ?z_len ?z_reversed ?z_isinstance ?z_ValueError ?z_range ?y_MOST_STRETCHES
    (case aC => k_is)
    (case a1 => k_is)
    (case l1 => k_is)
    (case c1 => k_is)
    (case k1 => k_is)
    (case a2 => k_is)
    (case l2 => k_is)
    (case c2 => k_is)
    (case k2 => k_is)
    (case a3 => k_is)
    (case l3 => k_is)
    (case c3 => k_is)
    (case k3 => k_is)
    (case a4 => k_is)
    (case l4 => k_is)
    (case c4 => k_is)
    (case k4 => k_is)
    (case a5 => k_is)
    (case l5 => k_is)
    (case c5 => k_is)
    (case k5 => k_is)
    (case a6 => k_is)
    (case l6 => k_is)
    (case c6 => k_is)
    (case k6 => k_is)
    (case a7 => k_is)
    (case l7 => k_is)
    (case c7 => k_is)
    (case k7 => k_is)
    (case a8 => k_is)
    (case i8 => k_is)
    (case l8 => k_is)
    (case c8 => k_is)
    (case k8 => k_is)
    (case a9 => k_is)
    (case l9 => k_is)
    (case c9 => k_is)
    (case k9 => k_is)
    (case a10 => k_is)
    (case l10 => k_is)
    (case c10 => k_is)
    (case k10 => k_is)
    (case a11 => k_is)
    (case l11 => k_is)
    (case c11 => k_is)
    (case k11 => k_is)
    (case a12 => k_is)
    (case l12 => k_is)
    (case c12 => k_is)
    (case k12 => k_is)
    (case a13 => k_is)
    (case l13 => k_is)
    (case c13 => k_is)
    (case k13 => k_is)
    (case a14 => k_is)
    (case l14 => k_is)
    (case c14 => k_is)
    (case k14 => k_is)
    (case a15 => k_is)
    (case l15 => k_is)
    (case c15 => k_is)
    (case k15 => k_is)
    (case a16 => k_is)
    (case l16 => k_is)
    (case c16 => k_is)
    (case k16 => k_is)
    (case pg => k_is)
    (case hd => k_is)
    (case po => k_is)
    (case sa => k_is)
    (case mk => k_is)
    (case kc => k_is)
    (case nS => k_is)
    (case n_BadSeats => k_is)
    (case n_BadDeed => k_is)
    (case n_BadRow => k_is)
    (case n_BadTable => k_is)
    (case n_BadText => k_is)
    (case n_NoRow => k_is)
    (case n_TooMany => k_is)
    (case n_Unlike => k_is)
    (case n_LumpError => k_is)
    (case xo_BadSeats => k_exc)
    (case xga_BadSeats => k_is)
    (case xgn_BadSeats => k_is)
    (case xmb_BadSeats => k_is)
    (case xh_BadSeats => k_is)
    (case xf_BadSeats => k_is)
    (case xm_BadSeats => k_is)
    (case xg1 => k_is)
    (case xg2 => k_is)
    (case kv_BadSeats => kit_is)
    (case ki_BadSeats_BadSeats => kit_is)
    (case kn_BadSeats => kit_is)
    (case ki_BadDeed_BadSeats => kit_is)
    (case kn_BadDeed => kit_is)
    (case ki_BadRow_BadSeats => kit_is)
    (case kn_BadRow => kit_is)
    (case ki_BadTable_BadSeats => kit_is)
    (case kn_BadTable => kit_is)
    (case ki_BadText_BadSeats => kit_is)
    (case kn_BadText => kit_is)
    (case ki_NoRow_BadSeats => kit_is)
    (case kn_NoRow => kit_is)
    (case ki_TooMany_BadSeats => kit_is)
    (case kn_TooMany => kit_is)
    (case ki_Unlike_BadSeats => kit_is)
    (case kn_Unlike => kit_is)
    (case et_LumpError_BadSeats => kts_exm)
    (case z_sum => k_is)
    (case z_zip => k_is)
    (case z_min => k_is)
    (case z_max => k_is)
    (case z_tuple => k_is)
    (case z_len => k_is)
    (case z_reversed => k_is)
    (case z_isinstance => k_is)
    (case z_ValueError => k_is)
    (case z_range => k_is)
    (case y_MOST_STRETCHES => k_is)
