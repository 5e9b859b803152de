import PyProof.Rows.All
import Wide.All
import OpenK.AllK
import Wide.FinOn
import Lean
import PyProof.EqAt
import PyProof.EqKinds
import PyProof.TupleCall
import PySem.Challenge.RW_lumprow_k45_columns
set_option Elab.async false
set_option linter.all false
set_option maxRecDepth 100000
set_option maxHeartbeats 4000000
noncomputable section
namespace L2
open PySem PySem.Spec PyProof.Rows

abbrev Key := Sum Int Str
def keyIs : Key → Value → Bool
  | .inl k, v => Value.isInt k v
  | .inr x, v => Value.isStrOf x v
def keyH (w : World) : Key → Int
  | .inl k => hashInt k
  | .inr x => hashStr w x
theorem keyIs_shape : ∀ {k : Key} {v : Value}, keyIs k v = true → (∃ i t, k = Sum.inl i ∧ v = Value.int i t) ∨ (∃ x t, k = Sum.inr x ∧ v = Value.str x t)
  | .inl i, v, h => by
    obtain ⟨t, e⟩ := Value.isInt_shape (k := i) (v := v) h
    exact .inl ⟨i, t, rfl, e⟩
  | .inr x, v, h => by
    obtain ⟨t, e⟩ := Value.isStrOf_shape (x := x) (v := v) h
    exact .inr ⟨x, t, rfl, e⟩
theorem keyIs_int (i : Int) (t : Tok) : keyIs (.inl i) (.int i t) = true := by simp [keyIs, Value.isInt]
theorem keyIs_str (x : Str) (t : Tok) : keyIs (.inr x) (.str x t) = true := by simp [keyIs, Value.isStrOf]
theorem key_ll (a b : Int) : decide ((Sum.inl a : Key) = Sum.inl b) = (a == b) := by
  by_cases e : a = b
  · subst e; simp
  · have h : ¬ (Sum.inl a : Key) = Sum.inl b := fun q => e (Sum.inl.inj q)
    rw [decide_eq_false h]
    exact (beq_eq_false_iff_ne.mpr e).symm
theorem key_rr (a b : Str) : decide ((Sum.inr a : Key) = Sum.inr b) = decide (a = b) := by
  by_cases e : a = b
  · subst e; simp
  · have h : ¬ (Sum.inr a : Key) = Sum.inr b := fun q => e (Sum.inr.inj q)
    rw [decide_eq_false h, decide_eq_false e]
theorem key_lr (a : Int) (b : Str) : decide ((Sum.inl a : Key) = Sum.inr b) = false := decide_eq_false (fun q => nomatch q)
theorem key_rl (a : Str) (b : Int) : decide ((Sum.inr a : Key) = Sum.inl b) = false := decide_eq_false (fun q => nomatch q)

def mixKind (prog : Program) (w : World) : PySem.KeyKind prog w Key where
  is := keyIs
  hash := keyH w
  inj := fun v a b ha hb => by
    rcases keyIs_shape ha with ⟨i, t, rfl, rfl⟩ | ⟨x, t, rfl, rfl⟩
    · rcases keyIs_shape hb with ⟨j, u, rfl, e⟩ | ⟨y, u, rfl, e⟩
      · injection e with e1 _; rw [e1]
      · exact nomatch e
    · rcases keyIs_shape hb with ⟨j, u, rfl, e⟩ | ⟨y, u, rfl, e⟩
      · exact nomatch e
      · injection e with e1 _; rw [e1]
  byValue := fun k v h => by
    rcases keyIs_shape h with ⟨i, t, rfl, rfl⟩ | ⟨x, t, rfl, rfl⟩ <;> rfl
  pyHash := fun hv h => by
    rcases keyIs_shape hv with ⟨i, t, rfl, rfl⟩ | ⟨x, t, rfl, rfl⟩
    · exact wpAny_pyHash_int h
    · exact wpAny_pyHash_str h
  eqBool := fun hu hv h => by
    rcases keyIs_shape hu with ⟨i, t, rfl, rfl⟩ | ⟨x, t, rfl, rfl⟩
    · rcases keyIs_shape hv with ⟨j, u, rfl, rfl⟩ | ⟨y, u, rfl, rfl⟩
      · rw [key_ll] at h; exact wpAny_eqBool_int h
      · rw [key_lr] at h; exact SeqAt.EqAt.int_str i t y u _ _ _ _ h
    · rcases keyIs_shape hv with ⟨j, u, rfl, rfl⟩ | ⟨y, u, rfl, rfl⟩
      · rw [key_rl] at h; exact SeqAt.EqAt.str_int x t j u _ _ _ _ h
      · rw [key_rr] at h; exact wpAny_eqBool_str h
  «strs» := fun k x t v h => by
    rcases keyIs_shape h with ⟨i, u, rfl, e⟩ | ⟨y, u, rfl, e⟩
    · exact nomatch e
    · injection e with e1 _
      subst e1
      cases v <;> rfl

theorem mixKind_int (prog : Program) (w : World) (i : Int) (t : Tok) : (mixKind prog w).is (.inl i) (.int i t) = true := keyIs_int i t
theorem mixKind_str (prog : Program) (w : World) (x : Str) (t : Tok) : (mixKind prog w).is (.inr x) (.str x t) = true := keyIs_str x t
end L2

namespace L2
open PySem PySem.Spec PyProof.Rows

inductive V where
  | non | bl (b : Bool) | int (i : Int) | str (x : Str) | byt (b : Array UInt8) | flt (b : UInt64) | ref (a : Addr) | ty (n : String)
  deriving DecidableEq

def RelV : V → Value → Prop
  | .non, u => u = Value.none
  | .bl b, u => u = Value.bool b
  | .int i, u => ∃ t, u = Value.int i t
  | .str x, u => ∃ t, u = Value.str x t
  | .byt b, u => ∃ t, u = Value.bytes b t
  | .flt b, u => ∃ t, u = Value.float b t
  | .ref a, u => u = Value.ref a
  | .ty n, u => u = Value.type n

abbrev Vals : List V → List Value → Prop := Paired RelV
theorem Vals.length {xs : List V} {us : List Value} (r : Vals xs us) : xs.length = us.length := Paired.length r
theorem Vals.get : ∀ {xs : List V} {us : List Value} {i : Nat} {x : V}, Vals xs us → xs[i]? = some x → ∃ u, us[i]? = some u ∧ RelV x u
  | _, _, _, _, .nil, e => by simp at e
  | _, _, 0, _, .cons r _, e => by simp at e; subst e; exact ⟨_, rfl, r⟩
  | _, _, i + 1, x, .cons _ t, e => by
    obtain ⟨u, h1, h2⟩ := Vals.get (i := i) (x := x) t (by simpa using e)
    exact ⟨u, by simpa using h1, h2⟩
theorem Vals.set {x : V} {u : Value} (r : RelV x u) : ∀ {xs : List V} {us : List Value} (i : Nat), Vals xs us → Vals (xs.set i x) (us.set i u)
  | _, _, _, .nil => .nil
  | _, _, 0, .cons _ t => .cons r t
  | _, _, i + 1, .cons q t => .cons q (Vals.set r i t)
theorem Vals.append : ∀ {xs ys : List V} {us ws : List Value}, Vals xs us → Vals ys ws → Vals (xs ++ ys) (us ++ ws)
  | _, _, _, _, .nil, s => s
  | _, _, _, _, .cons r t, s => .cons r (Vals.append t s)
theorem Vals.take : ∀ {xs : List V} {us : List Value} (n : Nat), Vals xs us → Vals (xs.take n) (us.take n)
  | _, _, 0, _ => .nil
  | _, _, _ + 1, .nil => .nil
  | _, _, n + 1, .cons r t => .cons r (Vals.take n t)
theorem Vals.drop : ∀ {xs : List V} {us : List Value} (n : Nat), Vals xs us → Vals (xs.drop n) (us.drop n)
  | _, _, 0, r => r
  | _, _, _ + 1, .nil => .nil
  | _, _, n + 1, .cons _ t => Vals.drop n t
def RelO : Option V → Option Value → Prop
  | some v, some u => RelV v u
  | none, none => True
  | _, _ => False
def KV {κ : Type} : List (κ × V) → List (κ × Value) → Prop := Paired fun (p : κ × V) (q : κ × Value) => p.1 = q.1 ∧ RelV p.2 q.2

def kV : Key → V
  | .inl i => .int i
  | .inr x => .str x

inductive HO where
  /-- a list -/
  | lst (xs : List V)
  /-- a tuple (never changes) -/
  | tup (xs : List V)
  /-- a dict whose keys are ints and texts; one whose keys are tuples of ints and texts (the empty one is both) -/
  | dK (kvs : List (Key × V)) | dT (kvs : List (List Key × V))
  /-- a set of ints: its members, its size -/
  | set (S : Int → Bool) (n : Nat)
  /-- an instance of the class at C, its dict at dx, its attributes -/
  | ins (C dx : Addr) (fs : List (Str × V))
  /-- the dict of the instance at x -/
  | own (x : Addr)
  /-- the dict of an exception -/
  | xd (fs : List (Str × V))
  /-- a bound method, f of x -/
  | met (f x : Addr)
  /-- a range object lo, lo + 1, .. below hi -/
  | rng (lo hi : Int)
  /-- a thing that is known to the object (the script; a dict while a loop walks it): read, never written while it is so -/
  | frz (o : Obj) (u : HO)
  /-- a code object's table -/
  | tbl (ps : Array Value)
  /-- any other thing, by what is true of its one object (a def of one's own: SetO a S n := HO.ext fun h => ..) -/
  | ext (φ : Heap → Prop)

abbrev Hp := Addr → Option HO
def upd (H : Hp) (a : Addr) (o : HO) : Hp := fun b => if b = a then some o else H b
theorem upd_same {H : Hp} {a : Addr} {o : HO} : upd H a o a = some o := by unfold upd; rw [if_pos rfl]
theorem upd_ne {H : Hp} {a b : Addr} {o : HO} (h : b ≠ a) : upd H a o b = H b := by unfold upd; rw [if_neg h]
theorem ne_of {H : Hp} {a b : Addr} {o u : HO} (h : H a = some o) (h' : H b = some u) (d : o ≠ u) : a ≠ b := by
  intro e; subst e; rw [h] at h'; exact d (Option.some.inj h')
theorem ne_of_none {H : Hp} {a b : Addr} {o : HO} (h : H a = some o) (h' : H b = none) : a ≠ b := by
  intro e; subst e; rw [h] at h'; cases h'

section
variable (P : Program) (w : World)
def ObjOk (H : Hp) (h : Heap) (a : Addr) : HO → Prop
  | .lst xs => xs.length ≤ sizeLine ∧ ∃ (its : List Value) (n : Nat), Vals xs its ∧ h.get? a = some { cls := .type "list", data := .seq its.toArray n }
  | .tup xs => xs.length ≤ sizeLine ∧ ∃ its : List Value, Vals xs its ∧ IsTup h a its.toArray
  | .dK kvs => kvs.length ≤ sizeLine ∧ (a == sysModules) = false ∧ ∃ vs, KV kvs vs ∧ h.DictOf (mixKind P w) a vs
  | .dT kvs => kvs.length ≤ sizeLine ∧ (a == sysModules) = false ∧ ∃ xs : List (List Key × Addr × Value),
      Paired (fun (p : List Key × V) (q : List Key × Addr × Value) => p.1 = q.1 ∧ H q.2.1 = some (.tup (p.1.map kV)) ∧ RelV p.2 q.2.2) kvs xs ∧
      ∃ o es ep, h.get? a = some o ∧ o.ExactDict ∧ o.data = .dict es ep ∧ es.toList = xs.map (entryOfKey (tupleKind (mixKind P w))) ∧ (xs.map (·.1)).Nodup
  | .set S n => h.SetOf (intKind P w) a S n
  | .ins C dx fs => H dx = some (.own a) ∧ fs.length ≤ 1000 ∧ dx ≠ a ∧ h.get? a = some (PySem.W.instObj C dx) ∧
      ∃ mA, h.Ns1 dx mA ∧ (∀ f, RelO (fs.lookup f) (mA f)) ∧ PySem.Within mA (fs.map (·.1))
  | .own _ => ∃ o, h.get? a = some o
  | .xd fs => ∃ mA, h.Ns1 a mA ∧ ∀ f, RelO (fs.lookup f) (mA f)
  | .rng lo hi => ∃ t u v, h.get? a = some { cls := .type "range", data := .fields #[.int lo t, .int hi u, .int 1 v] }
  | .frz o u => h.get? a = some o ∧ ObjOk H h a u
  | .tbl ps => h.get? a = some { cls := .none, data := .fields ps }
  | .met f x => h.get? a = some (PySem.W.methodObj (.ref f) (.ref x))
  | .ext φ => φ h ∧ (∃ o, h.get? a = some o) ∧ ∀ h1 h2 : Heap, φ h1 → (∀ o, h1.get? a = some o → h2.get? a = some o) → φ h2
def HOk (H : Hp) (h : Heap) : Prop := ∀ a o, H a = some o → ObjOk P w H h a o
end

section
variable {P : Program} {w : World} {H H' : Hp} {h h' : Heap} {a : Addr} {o : HO}
theorem ObjOk.lt (x : ObjOk P w H h a o) : a < h.objs.size := by
  cases o with
  | lst xs => obtain ⟨_, _, _, _, e⟩ := x; exact Heap.lt_size e
  | tup xs => obtain ⟨_, _, _, p⟩ := x; exact p.lt
  | dK kvs => obtain ⟨_, _, _, _, o, _, _, e, _⟩ := x; exact Heap.lt_size e
  | dT kvs => obtain ⟨_, _, _, _, o, _, _, e, _⟩ := x; exact Heap.lt_size e
  | set S n => obtain ⟨o, _, _, _, e, _⟩ := x; exact Heap.lt_size e
  | ins C dx fs => obtain ⟨_, _, _, e, _⟩ := x; exact Heap.lt_size e
  | own y => obtain ⟨_, e⟩ := x; exact Heap.lt_size e
  | xd fs => obtain ⟨_, ⟨_, _, _, e, _⟩, _⟩ := x; exact Heap.lt_size e
  | rng lo hi => obtain ⟨_, _, _, e⟩ := x; exact Heap.lt_size e
  | frz ob u => obtain ⟨e, _⟩ := x; exact Heap.lt_size e
  | tbl ps => exact Heap.lt_size (show h.get? a = some _ from x)
  | met f y => exact Heap.lt_size (show h.get? a = some _ from x)
  | ext φ => obtain ⟨_, ⟨_, e⟩, _⟩ := x; exact Heap.lt_size e
theorem Paired.mapP {α β : Type} {F G : α → β → Prop} : ∀ {l₁ : List α} {l₂ : List β}, Paired F l₁ l₂ → (∀ a b, F a b → G a b) → Paired G l₁ l₂
  | _, _, .nil, _ => .nil
  | _, _, .cons r t, f => .cons (f _ _ r) (Paired.mapP t f)
theorem ObjOk.stay (x : ObjOk P w H h a o) (k : ∀ b u, (b = a ∨ H b = some (.own a)) → h.get? b = some u → h'.get? b = some u)
    (ho : ∀ b, H b = some (.own a) → H' b = some (.own a)) (ht : ∀ b xs, H b = some (.tup xs) → H' b = some (.tup xs)) : ObjOk P w H' h' a o := by
  induction o with
  | lst xs => obtain ⟨z, its, n, r, e⟩ := x; exact ⟨z, its, n, r, k _ _ (.inl rfl) e⟩
  | tup xs => obtain ⟨z, its, r, ob, e, c⟩ := x; exact ⟨z, its, r, ob, k _ _ (.inl rfl) e, c⟩
  | dK kvs => obtain ⟨z, y, vs, r, ob, es, ep, e, c⟩ := x; exact ⟨z, y, vs, r, ob, es, ep, k _ _ (.inl rfl) e, c⟩
  | dT kvs =>
    obtain ⟨z, y, xs, r, ob, es, ep, e, c⟩ := x
    exact ⟨z, y, xs, Paired.mapP r fun p q z => ⟨z.1, ht _ _ z.2.1, z.2.2⟩, ob, es, ep, k _ _ (.inl rfl) e, c⟩
  | set S n => obtain ⟨ob, es, ep, t, e, c⟩ := x; exact ⟨ob, es, ep, t, k _ _ (.inl rfl) e, c⟩
  | ins C dx fs =>
    obtain ⟨d, z, ne, e, mA, ⟨od, es, ep, e2, c⟩, r⟩ := x
    exact ⟨ho _ d, z, ne, k _ _ (.inl rfl) e, mA, ⟨od, es, ep, k _ _ (.inr d) e2, c⟩, r⟩
  | own y => obtain ⟨ob, e⟩ := x; exact ⟨ob, k _ _ (.inl rfl) e⟩
  | xd fs => obtain ⟨mA, ⟨od, es, ep, e, c⟩, r⟩ := x; exact ⟨mA, ⟨od, es, ep, k _ _ (.inl rfl) e, c⟩, r⟩
  | rng lo hi => obtain ⟨t, u, v, e⟩ := x; exact ⟨t, u, v, k _ _ (.inl rfl) e⟩
  | frz ob u ih => obtain ⟨e, q⟩ := x; exact ⟨k _ _ (.inl rfl) e, ih q⟩
  | tbl ps =>
    have e : h.get? a = some { cls := .none, data := .fields ps } := x
    show h'.get? a = some { cls := .none, data := .fields ps }
    exact k a _ (.inl rfl) e
  | met f y =>
    have e : h.get? a = some (PySem.W.methodObj (.ref f) (.ref y)) := x
    show h'.get? a = some (PySem.W.methodObj (.ref f) (.ref y))
    exact k a _ (.inl rfl) e
  | ext φ => obtain ⟨p, ⟨o, e⟩, st⟩ := x; exact ⟨st _ _ p fun o q => k _ _ (.inl rfl) q, ⟨o, k _ _ (.inl rfl) e⟩, st⟩
theorem HOk.lt (x : HOk P w H h) (e : H a = some o) : a < h.objs.size := (x a o e).lt
theorem HOk.fresh (x : HOk P w H h) (e : h.objs.size ≤ a) : H a = none := by
  cases q : H a with
  | none => rfl
  | some u => exact absurd (Nat.lt_of_lt_of_le (x.lt q) e) (Nat.lt_irrefl _)
theorem HOk.kept (x : HOk P w H h) (k : ∀ b u, h.get? b = some u → h'.get? b = some u) : HOk P w H h' := fun a o e =>
  (x a o e).stay (fun b u _ q => k b u q) (fun _ q => q) fun _ _ q => q
theorem HOk.laid (x : HOk P w H h) (k : ∀ b u, h.get? b = some u → h'.get? b = some u) (hp : h.objs.size ≤ a) (new : ObjOk P w (upd H a o) h' a o) : HOk P w (upd H a o) h' := fun b u e => by
  have hn := x.fresh hp
  by_cases hb : b = a
  · subst hb; rw [upd_same] at e; cases e; exact new
  · rw [upd_ne hb] at e
    exact (x b u e).stay (fun c v _ q => k c v q) (fun c q => by rw [upd_ne (ne_of_none q hn)]; exact q) fun c xs q => by rw [upd_ne (ne_of_none q hn)]; exact q
end

def Rd (H : Hp) (a : Addr) (u : HO) : Prop := H a = some u ∨ ∃ o, H a = some (.frz o u)
theorem Rd.of {H : Hp} {a : Addr} {u : HO} (h : H a = some u) : Rd H a u := .inl h
theorem Rd.ok {P : Program} {w : World} {H : Hp} {h : Heap} {a : Addr} {u : HO} (r : Rd H a u) (x : HOk P w H h) : ObjOk P w H h a u := by
  rcases r with r | ⟨o, r⟩
  · exact x a u r
  · obtain ⟨_, q⟩ := x a _ r
    exact q
def Mut : Option HO → Prop
  | some (.lst _) => True
  | some (.dK _) => True
  | some (.dT _) => True
  | some (.set _ _) => True
  | some (.ins _ _ _) => True
  | some (.ext _) => True
  | _ => False
section
variable {P : Program} {w : World} {H : Hp} {h h' : Heap} {x e : Addr} {o' : HO}
theorem HOk.write (ok : HOk P w H h) (mu : Mut (H x)) (he : e = x ∨ H e = some (.own x)) (k : ∀ b u, b ≠ e → h.get? b = some u → h'.get? b = some u) (heo : ∃ u, h'.get? e = some u)
    (new : ObjOk P w (upd H x o') h' x o') : HOk P w (upd H x o') h' := fun b u q => by
  have nown : ∀ c y, H c = some (.own y) → c ≠ x := fun c y r z => by subst z; rw [r] at mu; exact mu
  have ntup : ∀ c xs, H c = some (.tup xs) → c ≠ x := fun c xs r z => by subst z; rw [r] at mu; exact mu
  by_cases hb : b = x
  · subst hb; rw [upd_same] at q; cases q; exact new
  · rw [upd_ne hb] at q
    by_cases hbe : b = e
    · have q' : H b = some (.own x) := by
        rcases he with z | z
        · exact absurd (hbe.trans z) hb
        · rw [hbe]; exact z
      rw [q] at q'; cases q'
      obtain ⟨v, hv⟩ := heo
      exact ⟨v, by rw [hbe]; exact hv⟩
    · refine (ok b u q).stay (fun c v hc r => k c v ?_ r) (fun c r => by rw [upd_ne (nown c b r)]; exact r) fun c xs r => by rw [upd_ne (ntup c xs r)]; exact r
      rcases hc with rfl | hc
      · exact hbe
      · rintro rfl
        rcases he with z | z
        · exact nown c b hc z
        · rw [hc] at z; cases z; exact hb rfl
end

structure Un (fs ex : List Addr) (H H' : Hp) (h h' : Heap) : Prop where
  keep : ∀ b o, h.get? b = some o → H b = none → b ∉ fs → b ∉ ex → h'.get? b = some o
  slot : ∀ b o, h.get? b = some o → H b = none → b ∈ fs → b ∉ ex → ∃ sl, h'.get? b = some { o with slots := sl }
  free : ∀ b o, h.get? b = some o → H b = none → b ∉ ex → H' b = none
  there : ∀ b o, h.get? b = some o → b ∉ ex → ∃ o', h'.get? b = some o'
  tups : ∀ b xs, H b = some (.tup xs) → H' b = some (.tup xs)
  frzs : ∀ b o u, H b = some (.frz o u) → H' b = some (.frz o u)
  tbls : ∀ b ps, H b = some (.tbl ps) → ∃ more, H' b = some (.tbl (ps ++ more))
section
variable {fs fs' ex ex' : List Addr} {H H1 H2 : Hp} {h h1 h2 h' : Heap} {a x e : Addr} {o : HO}
theorem Un.any (u : Un fs ex H H1 h h1) {b : Addr} {ob : Obj} (q : h.get? b = some ob) (n : H b = none) (hx : b ∉ ex) : ∃ sl, h1.get? b = some { ob with slots := sl } := by
  by_cases hb : b ∈ fs
  · exact u.slot b ob q n hb hx
  · exact ⟨ob.slots, u.keep b ob q n hb hx⟩
theorem Un.trans (a : Un fs ex H H1 h h1) (b : Un fs ex H1 H2 h1 h2) : Un fs ex H H2 h h2 where
  keep := fun c ob q n hc hx => b.keep c ob (a.keep c ob q n hc hx) (a.free c ob q n hx) hc hx
  slot := fun c ob q n hc hx => by
    obtain ⟨sl, e1⟩ := a.slot c ob q n hc hx
    obtain ⟨sl', e2⟩ := b.slot c _ e1 (a.free c ob q n hx) hc hx
    exact ⟨sl', e2⟩
  free := fun c ob q n hx => by
    obtain ⟨o', e1⟩ := a.there c ob q hx
    exact b.free c o' e1 (a.free c ob q n hx) hx
  there := fun c ob q hx => by
    obtain ⟨o', e1⟩ := a.there c ob q hx
    exact b.there c o' e1 hx
  tups := fun c xs q => b.tups c xs (a.tups c xs q)
  frzs := fun c ob xs q => b.frzs c ob xs (a.frzs c ob xs q)
  tbls := fun c ps q => by
    obtain ⟨m1, e1⟩ := a.tbls c ps q
    obtain ⟨m2, e2⟩ := b.tbls c _ e1
    exact ⟨m1 ++ m2, by rw [e2, Array.append_assoc]⟩
theorem Un.kept (k : ∀ b u, h.get? b = some u → h'.get? b = some u) : Un fs ex H H h h' :=
  ⟨fun b ob q _ _ _ => k b ob q, fun b ob q _ _ _ => ⟨ob.slots, k b ob q⟩, fun _ _ _ n _ => n, fun b ob q _ => ⟨ob, k b ob q⟩, fun _ _ q => q, fun _ _ _ q => q, fun _ ps q => ⟨#[], by rw [q]; simp⟩⟩
theorem Un.refl : Un fs ex H H h h := Un.kept fun _ _ q => q
theorem Un.laid (k : ∀ b u, h.get? b = some u → h'.get? b = some u) (hp : h.objs.size ≤ a) (hn : H a = none) : Un fs ex H (upd H a o) h h' where
  keep := fun b u q _ _ _ => k b u q
  slot := fun b u q _ _ _ => ⟨u.slots, k b u q⟩
  free := fun b u q n _ => by rw [upd_ne (Nat.ne_of_lt (Nat.lt_of_lt_of_le (Heap.lt_size q) hp))]; exact n
  there := fun b u q _ => ⟨u, k b u q⟩
  tups := fun b xs q => by rw [upd_ne (ne_of_none q hn)]; exact q
  frzs := fun b u xs q => by rw [upd_ne (ne_of_none q hn)]; exact q
  tbls := fun b ps q => ⟨#[], by rw [upd_ne (ne_of_none q hn), q]; simp⟩
theorem Un.write (mu : Mut (H x)) (he : e = x ∨ H e = some (.own x)) (k : ∀ b u, b ≠ e → h.get? b = some u → h'.get? b = some u) (heo : ∃ u, h'.get? e = some u) : Un fs ex H (upd H x o) h h' := by
  have hx : ∀ b, H b = none → b ≠ x := fun b n z => by subst z; rw [n] at mu; exact mu
  have hb : ∀ b, H b = none → b ≠ e := fun b n z => by
    subst z
    rcases he with r | r
    · exact hx b n r
    · rw [n] at r; cases r
  have hm : ∀ b u, H b = some u → ¬ Mut (some u) → b ≠ x := fun b u q nm z => by subst z; rw [q] at mu; exact nm mu
  refine ⟨fun b u q n _ _ => k b u (hb b n) q, fun b u q n _ _ => ⟨u.slots, k b u (hb b n) q⟩, fun b u q n _ => by rw [upd_ne (hx b n)]; exact n, fun b u q _ => ?_,
    fun b xs q => by rw [upd_ne (hm b _ q fun z => z)]; exact q, fun b u xs q => by rw [upd_ne (hm b _ q fun z => z)]; exact q, fun b ps q => ⟨#[], by rw [upd_ne (hm b _ q fun z => z), q]; simp⟩⟩
  by_cases hbe : b = e
  · subst hbe; exact heo
  · exact ⟨u, k b u hbe q⟩
theorem Un.mono (u : Un fs ex H H1 h h1) (hs : ∀ b ∈ fs, b ∈ fs') (hx : ∀ b ∈ ex, b ∈ ex') : Un fs' ex' H H1 h h1 :=
  ⟨fun b ob q n hb he => u.keep b ob q n (fun z => hb (hs b z)) fun z => he (hx b z), fun _ _ q n _ he => u.any q n fun z => he (hx _ z), fun b ob q n he => u.free b ob q n fun z => he (hx b z), fun b ob q he => u.there b ob q fun z => he (hx b z), u.tups, u.frzs, u.tbls⟩
end

def trk (h : Heap) (H : Hp) : List Addr := (List.range h.objs.size).filter fun a => (H a).isSome
def hidT (h : Heap) (H : Hp) : Heap := PySem.W.hideAll h (trk h H)
theorem hidT_size (h : Heap) (H : Hp) : (hidT h H).objs.size = h.objs.size := PySem.W.hideAll_size _ _
theorem hidT_get {h : Heap} {H : Hp} {b : Addr} {o : Obj} (e : h.get? b = some o) (n : H b = none) : (hidT h H).get? b = some o :=
  PySem.W.hideAll_get _ e fun hm => by
    have q : (H b).isSome = true := (List.mem_filter.mp hm).2
    rw [n] at q; simp at q
theorem of_hidT {h : Heap} {H : Hp} {b : Addr} {o : Obj} (e : (hidT h H).get? b = some o) : h.get? b = some o ∧ H b = none := by
  have e' : h.get? b = some o := PySem.W.of_hideAll (trk h H) e
  refine ⟨e', ?_⟩
  cases q : H b with
  | none => rfl
  | some x =>
    have hm : b ∈ trk h H := List.mem_filter.mpr ⟨List.mem_range.mpr (Heap.lt_size e'), by simp [q]⟩
    have z : (hidT h H).get? b = none := PySem.W.hideAll_none (trk h H) hm
    rw [z] at e; cases e

def allNews (g h : Heap) (L : Addr) : List (Addr × Obj) := (List.range h.objs.size).filterMap fun a => if a = L ∨ (g.get? a).isSome = true then none else (h.get? a).map fun o => (a, o)
def rest (g h : Heap) (L d : Addr) : List (Addr × Obj) := (allNews g h L).filter fun p => decide (p.1 ≠ d)
end L2

namespace L2
open PySem PySem.Spec PyProof.Rows

structure Mod (K : PySem.W.Frag) (mg : Str → Option Value) (base : Heap) : Prop where
  kin : K.In base
  glob : base.Ns mainGlobals mg
  blt : ∃ mb, base.Ns builtinsNs mb ∧ ∀ x : Str, x ≠ "__name__" → mb x = bootBuiltins x
  nolimit : base.NoLimit

structure Cx where
  prog : Program
  w : World
  K : PySem.W.Frag
  mg : Str → Option Value
  base : Heap
  A : Around
  N : List Str
  s₀ : Shared
  H₀ : Hp
  env : Env
  outer : List Env
  stack : List Env
  ex : List Addr
  fn : Str → Bool
  calm : Bool
  pn : List (Addr × Obj)
  xe : Value → Shared → Prop
def frs (l : List Env) : List Addr := l.filterMap (·.frame)
abbrev Cx.fs (X : Cx) : List Addr := frs X.outer

def Vis (sc : Scope) (x : Str) : Prop := sc.names.lookup x = some .local ∨ sc.names.lookup x = some .cell ∨ sc.names.lookup x = some .free
def Loc (sc : Scope) (x : Str) : Prop := sc.names.lookup x = some .local ∨ sc.names.lookup x = some .cell
def Look (env : Env) (h : Heap) (m : Str → Option Value) (x : Str) (u : Value) : Prop :=
  (env.kindOf x = some .local ∧ m x = some u) ∨ ((env.kindOf x = some .cell ∨ env.kindOf x = some .free) ∧ ∃ c, env.cells.lookup x = some c ∧ h.IsCell c (some u))

structure Cx.Ok (X : Cx) : Prop where
  mod : Mod X.K X.mg X.base
  kind : X.env.scope.kind = .function
  glob : X.env.globals = mainGlobals
  blt : X.env.builtins = builtinsNs
  above : X.s₀.heap.objs.size ≤ X.env.locals
  inj : ∀ x y c, X.env.cells.lookup x = some c → X.env.cells.lookup y = some c → x = y
  has : ∀ x, (X.env.kindOf x = some .cell ∨ X.env.kindOf x = some .free) → ∃ c, X.env.cells.lookup x = some c
  cab : ∀ x c, X.fn x = true → X.env.cells.lookup x = some c → X.s₀.heap.objs.size ≤ c
  hd : X.calm = true → X.A.handled = none
  frames : X.A.frames = some X.stack
  stk : X.stack = X.outer ∨ (X.stack = X.env :: X.outer ∧ X.env.frame = some X.env.locals)
  exf : ∀ b ∈ X.ex, b ≠ X.env.locals ∧ ∀ x c, X.env.cells.lookup x = some c → c ≠ b
  bs : ∀ b o, X.base.get? b = some o → X.s₀.heap.get? b = some o ∧ X.H₀ b = none
  bsz : X.base.objs.size ≤ X.s₀.heap.objs.size
  noex : ∀ b o, X.base.get? b = some o → b ∉ X.ex
  exfs : ∀ b ∈ X.ex, b ∉ X.fs
  funs : X.s₀.heap.FunFrames X.base X.outer
  frf : ∀ b ∈ X.fs, X.H₀ b = none

structure Inv (X : Cx) (pins : List (Addr × Obj)) (σ : List (Option V)) (H : Hp) (s : Shared) : Prop where
  ok : X.Ok
  os : s.os = X.s₀.os
  bare : AllBare s.gens
  base : Un X.fs X.ex X.H₀ H X.s₀.heap s.heap
  loc : ∃ m, s.heap.Ns X.env.locals m ∧ ∀ (i : Nat) (x : Str) (v : V), X.N[i]? = some x → σ[i]? = some (some v) → Vis X.env.scope x → ∃ u, RelV v u ∧ Look X.env s.heap m x u
  cell : ∀ x c, X.env.cells.lookup x = some c → ∃ v, s.heap.IsCell c v
  free : H X.env.locals = none
  freeC : ∀ x c, X.env.cells.lookup x = some c → H c = none
  pin : ∀ p ∈ X.pn ++ pins, s.heap.get? p.1 = some p.2 ∧ H p.1 = none ∧ p.1 ≠ X.env.locals ∧ p.1 ∉ X.fs ∧ ∀ v, p.2.data ≠ .cell v
  hok : HOk X.prog X.w H s.heap
  len : σ.length = X.N.length

section
variable {X : Cx} {pins : List (Addr × Obj)} {σ : List (Option V)} {H H' : Hp} {s : Shared} {h' : Heap}

theorem Cx.Ok.nofr (ok : X.Ok) {b : Addr} {o : Obj} (e : X.base.get? b = some o) : b ∉ X.fs := fun hb => by
  have := (ok.funs.mem hb).1
  rw [e] at this; cases this
theorem Inv.bs (I : Inv X pins σ H s) : ∀ b o, X.base.get? b = some o → s.heap.get? b = some o ∧ H b = none := fun b o e =>
  ⟨I.base.keep b o (I.ok.bs b o e).1 (I.ok.bs b o e).2 (I.ok.nofr e) (I.ok.noex b o e), I.base.free b o (I.ok.bs b o e).1 (I.ok.bs b o e).2 (I.ok.noex b o e)⟩
theorem Inv.bk (I : Inv X pins σ H s) : ∀ b o, X.base.get? b = some o → s.heap.get? b = some o := fun b o e => (I.bs b o e).1
theorem Inv.mod (I : Inv X pins σ H s) : Mod X.K X.mg X.base := I.ok.mod
theorem Inv.kIn (I : Inv X pins σ H s) : X.K.In s.heap := I.ok.mod.kin.keeps I.bk
theorem Inv.nolimit (I : Inv X pins σ H s) : s.heap.NoLimit := I.ok.mod.nolimit.keeps I.bk
theorem Inv.fr (I : Inv X pins σ H s) : ∃ m, Fr X.base X.env.locals s.heap m :=
  let ⟨m, hn, _⟩ := I.loc
  ⟨m, hn, I.bk, Nat.le_trans I.ok.bsz I.ok.above⟩
theorem Inv.lt (I : Inv X pins σ H s) : X.env.locals < s.heap.objs.size := let ⟨_, hn, _⟩ := I.loc; hn.lt
theorem Inv.sz (I : Inv X pins σ H s) : X.s₀.heap.objs.size ≤ s.heap.objs.size := Nat.le_trans I.ok.above (Nat.le_of_lt I.lt)
theorem Inv.nofs (I : Inv X pins σ H s) {a : Addr} (h : s.heap.objs.size ≤ a) : a ∉ X.fs := fun hb => by
  obtain ⟨_, o, ho, _⟩ := I.ok.funs.mem hb
  exact absurd (Nat.lt_of_lt_of_le (Heap.lt_size ho) (Nat.le_trans I.sz h)) (Nat.lt_irrefl _)
theorem Inv.cne (I : Inv X pins σ H s) : ∀ x c, X.env.cells.lookup x = some c → c ≠ X.env.locals := fun x c e z => by
  obtain ⟨v, o, ho, hd⟩ := I.cell x c e
  obtain ⟨m, ⟨o', es, ep, ho', hd', _⟩, _⟩ := I.loc
  rw [z, ho'] at ho; cases ho; rw [hd'] at hd; cases hd
theorem Inv.funs (I : Inv X pins σ H s) : s.heap.FunFrames X.base X.outer := by
  have all : ∀ (l : List Env), (∀ b ∈ frs l, b ∈ X.fs) → X.s₀.heap.FunFrames X.base l → s.heap.FunFrames X.base l := by
    intro l
    induction l with
    | nil => intro _ _; trivial
    | cons env r ih =>
      intro hs hl
      obtain ⟨hk, ⟨L, o, hf, hn, ho, hd⟩, hr⟩ := hl
      have hL : L ∈ X.fs := hs L (by unfold frs; rw [List.filterMap_cons, hf]; exact List.mem_cons_self)
      obtain ⟨sl, e⟩ := I.base.slot L o ho (I.ok.frf L hL) hL fun z => I.ok.exfs L z hL
      exact ⟨hk, ⟨L, _, hf, hn, e, hd⟩, ih (fun b hb => hs b (by unfold frs; rw [List.filterMap_cons, hf]; exact List.mem_cons_of_mem _ hb)) hr⟩
  exact all X.outer (fun _ hb => hb) I.ok.funs

theorem Inv.stack (I : Inv X pins σ H s) : s.heap.FunFrames X.base X.stack := by
  rcases I.ok.stk with e | ⟨e, hf⟩
  · rw [e]; exact I.funs
  · rw [e]
    obtain ⟨m, hn, _⟩ := I.loc
    refine .cons (by rw [I.ok.kind]; decide) hf hn ?_ I.funs
    exact Heap.get?_none_of_le (Nat.le_trans I.ok.bsz I.ok.above)
theorem Inv.stkSub (I : Inv X pins σ H s) : ∀ b ∈ frs X.stack, b ∈ X.env.locals :: X.fs := fun b hb => by
  rcases I.ok.stk with e | ⟨e, hf⟩
  · rw [e] at hb; exact List.mem_cons_of_mem _ hb
  · rw [e] at hb
    unfold frs at hb
    rw [List.filterMap_cons, hf] at hb
    exact hb
theorem Inv.stkFree (I : Inv X pins σ H s) : ∀ b ∈ frs X.stack, H b = none := fun b hb => by
  rcases List.mem_cons.mp (I.stkSub b hb) with e | hb
  · rw [e]; exact I.free
  · obtain ⟨_, o, ho, _⟩ := I.ok.funs.mem hb
    exact I.base.free b o ho (I.ok.frf b hb) fun z => I.ok.exfs b z hb

theorem Inv.step {g' : Array GenState} {t' : Nat} {d' : Drawn} {ch : List Addr} (I : Inv X pins σ H s)
    (hch : ∀ b ∈ ch, (b ∈ X.ex ∨ X.s₀.heap.objs.size ≤ b) ∧ b ≠ X.env.locals ∧ (∀ x c, X.env.cells.lookup x = some c → c ≠ b) ∧ ∀ p ∈ X.pn ++ pins, p.1 ≠ b)
    (keep : ∀ b o, b ≠ X.env.locals → b ∉ X.fs → b ∉ ch → s.heap.get? b = some o → H b = none → h'.get? b = some o)
    (slot : ∀ b o, b ≠ X.env.locals → b ∈ X.fs → b ∉ ch → s.heap.get? b = some o → H b = none → ∃ sl, h'.get? b = some { o with slots := sl }) (free : ∀ b o, b ∉ ch → s.heap.get? b = some o → H b = none → H' b = none)
    (there : ∀ b o, b ∉ ch → s.heap.get? b = some o → ∃ o', h'.get? b = some o')
    (tups : ∀ b xs, H b = some (.tup xs) → H' b = some (.tup xs)) (frzs : ∀ b o u, H b = some (.frz o u) → H' b = some (.frz o u)) (tbls : ∀ b ps, H b = some (.tbl ps) → ∃ more, H' b = some (.tbl (ps ++ more)))
    (ns : ∀ m, s.heap.Ns X.env.locals m → h'.Ns X.env.locals m) (hok : HOk X.prog X.w H' h') (hg : AllBare g') :
    Inv X pins σ H' { s with heap := h', gens := g', drawn := d', toks := t' } := by
  have neL : ∀ b o, X.s₀.heap.get? b = some o → b ≠ X.env.locals := fun b o e => Nat.ne_of_lt (Nat.lt_of_lt_of_le (Heap.lt_size e) I.ok.above)
  have neC : ∀ b o, X.s₀.heap.get? b = some o → b ∉ X.ex → b ∉ ch := fun b o e hx hb => by
    rcases (hch b hb).1 with z | z
    · exact hx z
    · exact absurd (Nat.lt_of_lt_of_le (Heap.lt_size e) z) (Nat.lt_irrefl _)
  have cellK : ∀ x c, X.env.cells.lookup x = some c → ∀ v, s.heap.IsCell c v → h'.IsCell c v := fun x c e v ⟨o, ho, hd⟩ => by
    have nch : c ∉ ch := fun z => (hch c z).2.2.1 x c e rfl
    by_cases hc : c ∈ X.fs
    · obtain ⟨sl, q⟩ := slot c o (I.cne x c e) hc nch ho (I.freeC x c e)
      exact ⟨_, q, hd⟩
    · exact ⟨o, keep c o (I.cne x c e) hc nch ho (I.freeC x c e), hd⟩
  refine ⟨I.ok, I.os, hg, ⟨fun b o e n hb hx => ?_, fun b o e n hb hx => ?_, fun b o e n hx => ?_, fun b o e hx => ?_, fun b xs e => tups b xs (I.base.tups b xs e), fun b o xs e => frzs b o xs (I.base.frzs b o xs e), fun b ps e => ?_⟩, ?_, fun x c e => ?_, ?_, fun x c e => ?_, fun p hp => ?_, hok, I.len⟩
  · exact keep b o (neL b o e) hb (neC b o e hx) (I.base.keep b o e n hb hx) (I.base.free b o e n hx)
  · obtain ⟨sl, e1⟩ := I.base.slot b o e n hb hx
    obtain ⟨sl', e2⟩ := slot b _ (neL b o e) hb (neC b o e hx) e1 (I.base.free b o e n hx)
    exact ⟨sl', e2⟩
  · obtain ⟨o', e1⟩ := I.base.there b o e hx
    exact free b o' (neC b o e hx) e1 (I.base.free b o e n hx)
  · obtain ⟨o', e1⟩ := I.base.there b o e hx
    exact there b o' (neC b o e hx) e1
  · obtain ⟨m1, e1⟩ := I.base.tbls b ps e
    obtain ⟨m2, e2⟩ := tbls b _ e1
    exact ⟨m1 ++ m2, by rw [e2, Array.append_assoc]⟩
  · obtain ⟨m, hn, hl⟩ := I.loc
    refine ⟨m, ns m hn, fun i x v e1 e2 e3 => ?_⟩
    obtain ⟨u, r, l⟩ := hl i x v e1 e2 e3
    refine ⟨u, r, ?_⟩
    rcases l with l | ⟨k, c, e, z⟩
    · exact .inl l
    · exact .inr ⟨k, c, e, cellK x c e _ z⟩
  · obtain ⟨v, z⟩ := I.cell x c e
    exact ⟨v, cellK x c e v z⟩
  · obtain ⟨m, ⟨o, _, _, ho, _⟩, _⟩ := I.loc
    exact free _ o (fun z => (hch _ z).2.1 rfl) ho I.free
  · obtain ⟨v, o, ho, hd⟩ := I.cell x c e
    exact free c o (fun z => (hch c z).2.2.1 x c e rfl) ho (I.freeC x c e)
  · obtain ⟨e, n, ne, nf, d⟩ := I.pin p hp
    have nch : p.1 ∉ ch := fun z => (hch p.1 z).2.2.2 p hp rfl
    exact ⟨keep p.1 p.2 ne nf nch e n, free p.1 p.2 nch e n, ne, nf, d⟩
theorem Inv.un {t' : Nat} (I : Inv X pins σ H s) (u : Un X.fs [] H H' s.heap h') (hok : HOk X.prog X.w H' h') : Inv X pins σ H' { s with heap := h', toks := t' } := by
  obtain ⟨m, ⟨o, es, ep, ho, r⟩, _⟩ := id I.loc
  obtain ⟨sl, hL⟩ := u.any ho I.free (by simp)
  exact I.step (g' := s.gens) (d' := s.drawn) (ch := []) (fun _ z => nomatch z) (fun b o _ hb _ e n => u.keep b o e n hb (by simp)) (fun b o _ hb _ e n => u.slot b o e n hb (by simp)) (fun b o _ e n => u.free b o e n (by simp)) (fun b o _ e => u.there b o e (by simp)) u.tups u.frzs u.tbls (fun m' hm => by
    obtain ⟨o', es', ep', ho', r'⟩ := hm
    rw [ho] at ho'; cases ho'
    exact ⟨_, es', ep', hL, r'⟩) hok I.bare
theorem Inv.call {g' : Array GenState} {t' : Nat} {d' : Drawn} {ch : List Addr} (I : Inv X pins σ H s) (u : Un (frs X.stack) ch H H' s.heap h') (hok : HOk X.prog X.w H' h') (hg : AllBare g')
    (hch : ∀ b ∈ ch, (b ∈ X.ex ∨ X.s₀.heap.objs.size ≤ b) ∧ b ≠ X.env.locals ∧ (∀ x c, X.env.cells.lookup x = some c → c ≠ b) ∧ ∀ p ∈ X.pn ++ pins, p.1 ≠ b) :
    Inv X pins σ H' { s with heap := h', gens := g', drawn := d', toks := t' } := by
  obtain ⟨m, ⟨o, es, ep, ho, r⟩, _⟩ := id I.loc
  obtain ⟨sl, hL⟩ := u.any ho I.free fun z => (hch _ z).2.1 rfl
  exact I.step (ch := ch) hch (fun b o hL hb hc e n => u.keep b o e n (fun z => (List.mem_cons.mp (I.stkSub b z)).elim hL hb) hc) (fun b o _ _ hc e n => u.any e n hc) (fun b o hc e n => u.free b o e n hc) (fun b o hc e => u.there b o e hc) u.tups u.frzs u.tbls (fun m' hm => by
    obtain ⟨o', es', ep', ho', r'⟩ := hm
    rw [ho] at ho'; cases ho'
    exact ⟨_, es', ep', hL, r'⟩) hok hg
theorem Inv.turned {t' : Nat} {it : Addr} (I : Inv X pins σ H s) (k : ∀ b o, b ≠ it → s.heap.get? b = some o → h'.get? b = some o) (hn : H it = none) (hL : it ≠ X.env.locals)
    (h1 : it ∈ X.ex ∨ X.s₀.heap.objs.size ≤ it) (h2 : ∀ x c, X.env.cells.lookup x = some c → c ≠ it) (h3 : ∀ p ∈ X.pn ++ pins, p.1 ≠ it) : Inv X pins σ H { s with heap := h', toks := t' } := by
  have nit : ∀ b u, H b = some u → b ≠ it := fun b u e z => by rw [z, hn] at e; cases e
  refine I.step (g' := s.gens) (d' := s.drawn) (ch := [it]) (fun b hb => ?_) (fun b o _ _ hc e _ => k b o (fun z => hc (by simp [z])) e) (fun b o _ _ hc e _ => ⟨o.slots, k b o (fun z => hc (by simp [z])) e⟩) (fun _ _ _ _ n => n)
    (fun b o hc e => ⟨o, k b o (fun z => hc (by simp [z])) e⟩) (fun _ _ e => e) (fun _ _ _ e => e) (fun b ps e => ⟨#[], by rw [e]; simp⟩) (fun m hm => ?_) (fun b u e => ?_) I.bare
  · have e : b = it := by simpa using hb
    subst e
    exact ⟨h1, hL, h2, h3⟩
  · obtain ⟨o, es, ep, ho, r⟩ := hm
    exact ⟨o, es, ep, k _ o (Ne.symm hL) ho, r⟩
  · refine (I.hok b u e).stay (fun c v hc q => k c v ?_ q) (fun _ q => q) fun _ _ q => q
    rcases hc with z | z
    · rw [z]; exact nit b u e
    · exact nit c _ z
theorem Inv.tok (I : Inv X pins σ H s) (t : Nat) : Inv X pins σ H { s with toks := t } := I.un (h' := s.heap) (t' := t) Un.refl I.hok
theorem Inv.kept {t' : Nat} (I : Inv X pins σ H s) (k : ∀ b u, s.heap.get? b = some u → h'.get? b = some u) : Inv X pins σ H { s with heap := h', toks := t' } := I.un (Un.kept k) (I.hok.kept k)
theorem Inv.laid {a : Addr} {o : HO} {t' : Nat} (I : Inv X pins σ H s) (k : ∀ b u, s.heap.get? b = some u → h'.get? b = some u) (hp : s.heap.objs.size ≤ a) (new : ObjOk X.prog X.w (upd H a o) h' a o) :
    Inv X pins σ (upd H a o) { s with heap := h', toks := t' } := I.un (Un.laid k hp (I.hok.fresh hp)) (I.hok.laid k hp new)
theorem Inv.write {x e : Addr} {o : HO} {t' : Nat} (I : Inv X pins σ H s) (mu : Mut (H x)) (he : e = x ∨ H e = some (.own x)) (k : ∀ b u, b ≠ e → s.heap.get? b = some u → h'.get? b = some u) (heo : ∃ u, h'.get? e = some u)
    (new : ObjOk X.prog X.w (upd H x o) h' x o) : Inv X pins σ (upd H x o) { s with heap := h', toks := t' } := I.un (Un.write mu he k heo) (I.hok.write mu he k heo new)
theorem Inv.weak {σ' : List (Option V)} (I : Inv X pins σ H s) (hl : σ'.length = σ.length) (w : ∀ (i : Nat) v, σ'[i]? = some (some v) → σ[i]? = some (some v)) : Inv X pins σ' H s :=
  ⟨I.ok, I.os, I.bare, I.base, let ⟨m, hn, hl'⟩ := I.loc; ⟨m, hn, fun i x v e1 e2 e3 => hl' i x v e1 (w i v e2) e3⟩, I.cell, I.free, I.freeC, I.pin, I.hok, hl.trans I.len⟩
theorem Inv.pins_of {pins' : List (Addr × Obj)} (I : Inv X pins σ H s) (h : ∀ p ∈ pins', s.heap.get? p.1 = some p.2 ∧ H p.1 = none ∧ p.1 ≠ X.env.locals ∧ p.1 ∉ X.fs ∧ ∀ v, p.2.data ≠ .cell v) : Inv X pins' σ H s :=
  ⟨I.ok, I.os, I.bare, I.base, I.loc, I.cell, I.free, I.freeC, fun p hp => (List.mem_append.mp hp).elim (fun z => I.pin p (List.mem_append_left _ z)) (h p), I.hok, I.len⟩

theorem nodup_ix {N : List Str} (hN : N.Nodup) {i j : Nat} {x : Str} (a : N[i]? = some x) (b : N[j]? = some x) : i = j := by
  obtain ⟨h1, e1⟩ := List.getElem?_eq_some_iff.mp a
  obtain ⟨h2, e2⟩ := List.getElem?_eq_some_iff.mp b
  exact (List.getElem_inj hN).mp (e1.trans e2.symm)

theorem store_ok2 {M : Model} {A : Around} {E : Value → Shared → Prop} {i : Nat} {x : Str} {v : V} {u : Value} {Q : Unit → Shared → Prop} (I : Inv X pins σ H s) (hN : X.N.Nodup) (hi : X.N[i]? = some x) (hx : Loc X.env.scope x) (r : RelV v u)
    (h : ∀ s', Inv X pins (σ.set i (some v)) H s' → (∃ a, Heap.SameBut a s.heap s'.heap ∧ (a = X.env.locals ∨ X.env.cells.lookup x = some a)) → Q () s') (hf : X.fn x = true ∨ X.env.scope.names.lookup x = some .local := by first | exact .inl rfl | exact .inr rfl | assumption) : wpAny M A (storeName X.env x u) Q E s := by
  obtain ⟨m, hn, hl⟩ := id I.loc
  have hcls : (X.env.scope.kind == .class || (X.env.scope.kind == .module && X.env.locals != X.env.globals)) = false := by rw [I.ok.kind]; rfl
  have hiσ : i < σ.length := by rw [I.len]; exact (List.getElem?_eq_some_iff.mp hi).1
  have cne := I.cne
  have tracked : ∀ {a : Addr} {h' : Heap}, (∃ o, s.heap.get? a = some o ∧ H a = none) → Heap.SameBut a s.heap h' → HOk X.prog X.w H h' := fun {a h'} ha hs b ob e => by
    obtain ⟨_, _, hfree⟩ := ha
    refine (I.hok b ob e).stay (fun c w' hc q => (hs.2 c ?_).trans q) (fun _ q => q) fun _ _ q => q
    rintro rfl
    rcases hc with rfl | hc
    · rw [hfree] at e; cases e
    · rw [hfree] at hc; cases hc
  rcases hx with hk | hk
  · refine wpAny_storeName_local hk hn (fun h' hn' hs => ?_) hcls
    obtain ⟨oL, _, _, hoL, _⟩ := id hn
    refine h _ ⟨I.ok, I.os, I.bare, ⟨fun b o e n hb hx => ?_, fun b o e n hb hx => ?_, I.base.free, fun b o e hx => ?_, I.base.tups, I.base.frzs, I.base.tbls⟩, ⟨_, hn', fun j y v' e1 e2 e3 => ?_⟩, fun y c e => ?_, I.free, I.freeC, fun p hp => ?_, tracked ⟨oL, hoL, I.free⟩ hs, by simpa using I.len⟩ ⟨_, hs, .inl rfl⟩
    · exact (hs.2 b (Nat.ne_of_lt (Nat.lt_of_lt_of_le (Heap.lt_size e) I.ok.above))).trans (I.base.keep b o e n hb hx)
    · obtain ⟨sl, e1⟩ := I.base.slot b o e n hb hx
      exact ⟨sl, (hs.2 b (Nat.ne_of_lt (Nat.lt_of_lt_of_le (Heap.lt_size e) I.ok.above))).trans e1⟩
    · obtain ⟨o', e1⟩ := I.base.there b o e hx
      exact ⟨o', (hs.2 b (Nat.ne_of_lt (Nat.lt_of_lt_of_le (Heap.lt_size e) I.ok.above))).trans e1⟩
    · by_cases hj : j = i
      · subst hj
        rw [hi] at e1; cases e1
        rw [List.getElem?_set_self hiσ] at e2
        cases e2
        exact ⟨u, r, .inl ⟨hk, by simp⟩⟩
      · rw [List.getElem?_set_ne (Ne.symm hj)] at e2
        obtain ⟨u', r', q⟩ := hl j y v' e1 e2 e3
        refine ⟨u', r', ?_⟩
        rcases q with ⟨k, e⟩ | ⟨k, c, e, z⟩
        · refine .inl ⟨k, ?_⟩
          have : y ≠ x := fun e => hj (nodup_ix hN e1 (e ▸ hi))
          simp [this, e]
        · exact .inr ⟨k, c, e, z.sameBut hs (cne y c e)⟩
    · obtain ⟨w', z⟩ := I.cell y c e
      exact ⟨w', z.sameBut hs (cne y c e)⟩
    · obtain ⟨e, n, ne, nf, d⟩ := I.pin p hp
      exact ⟨(hs.2 p.1 ne).trans e, n, ne, nf, d⟩
  · have hfn : X.fn x = true := by
      rcases hf with z | z
      · exact z
      · rw [z] at hk; cases hk
    obtain ⟨c, hc⟩ := I.ok.has x (.inl hk)
    obtain ⟨w', z⟩ := I.cell x c hc
    refine wpAny_storeName_cell I.ok.kind hk hc z (fun h' hc' hs => ?_)
    obtain ⟨oc, hoc, hocd⟩ := id z
    refine h { s with heap := h' } ⟨I.ok, I.os, I.bare, ⟨fun b o e n hb hx => ?_, fun b o e n hb hx => ?_, I.base.free, fun b o e hx => ?_, I.base.tups, I.base.frzs, I.base.tbls⟩, ⟨m, hn.sameBut hs (Ne.symm (cne x c hc)), fun j y v' e1 e2 e3 => ?_⟩, fun y c' e => ?_, I.free, I.freeC, fun p hp => ?_, tracked ⟨oc, hoc, I.freeC x c hc⟩ hs, by simpa using I.len⟩ ⟨c, hs, .inr hc⟩
    · exact (hs.2 b (Nat.ne_of_lt (Nat.lt_of_lt_of_le (Heap.lt_size e) (I.ok.cab x c hfn hc)))).trans (I.base.keep b o e n hb hx)
    · obtain ⟨sl, e1⟩ := I.base.slot b o e n hb hx
      exact ⟨sl, (hs.2 b (Nat.ne_of_lt (Nat.lt_of_lt_of_le (Heap.lt_size e) (I.ok.cab x c hfn hc)))).trans e1⟩
    · obtain ⟨o', e1⟩ := I.base.there b o e hx
      exact ⟨o', (hs.2 b (Nat.ne_of_lt (Nat.lt_of_lt_of_le (Heap.lt_size e) (I.ok.cab x c hfn hc)))).trans e1⟩
    · by_cases hj : j = i
      · subst hj
        rw [hi] at e1; cases e1
        rw [List.getElem?_set_self hiσ] at e2
        cases e2
        exact ⟨u, r, .inr ⟨.inl hk, c, hc, hc'⟩⟩
      · rw [List.getElem?_set_ne (Ne.symm hj)] at e2
        obtain ⟨u', r', q⟩ := hl j y v' e1 e2 e3
        refine ⟨u', r', ?_⟩
        rcases q with q | ⟨k, c', e, z'⟩
        · exact .inl q
        · refine .inr ⟨k, c', e, z'.sameBut hs ?_⟩
          rintro rfl
          exact hj (nodup_ix hN e1 (I.ok.inj _ _ _ e hc ▸ hi))
    · by_cases hcc : c' = c
      · subst hcc; exact ⟨_, hc'⟩
      · obtain ⟨w2, z2⟩ := I.cell y c' e
        exact ⟨w2, z2.sameBut hs hcc⟩
    · obtain ⟨e, n, ne, nf, d⟩ := I.pin p hp
      refine ⟨(hs.2 p.1 ?_).trans e, n, ne, nf, d⟩
      intro q
      rw [q, hoc] at e
      have q' : oc = p.2 := Option.some.inj e
      exact d w' (by rw [← q']; exact hocd)
theorem store_ok {M : Model} {A : Around} {E : Value → Shared → Prop} {i : Nat} {x : Str} {v : V} {u : Value} {Q : Unit → Shared → Prop} (I : Inv X pins σ H s) (hN : X.N.Nodup) (hi : X.N[i]? = some x) (hx : Loc X.env.scope x) (r : RelV v u)
    (h : ∀ s', Inv X pins (σ.set i (some v)) H s' → Q () s') (hf : X.fn x = true ∨ X.env.scope.names.lookup x = some .local := by first | exact .inl rfl | exact .inr rfl | assumption) : wpAny M A (storeName X.env x u) Q E s :=
  store_ok2 I hN hi hx r (fun s' I' _ => h s' I') hf
theorem Inv.call' {s' : Shared} {ch : List Addr} (I : Inv X pins σ H s) (ho : s'.os = s.os) (u : Un (frs X.stack) ch H H' s.heap s'.heap) (hok : HOk X.prog X.w H' s'.heap) (hg : AllBare s'.gens)
    (hch : ∀ b ∈ ch, (b ∈ X.ex ∨ X.s₀.heap.objs.size ≤ b) ∧ b ≠ X.env.locals ∧ (∀ x c, X.env.cells.lookup x = some c → c ≠ b) ∧ ∀ p ∈ X.pn ++ pins, p.1 ≠ b) : Inv X pins σ H' s' := by
  obtain ⟨h', g', d', t', o'⟩ := s'
  have e : o' = s.os := ho
  subst e
  exact I.call (g' := g') (t' := t') (d' := d') u hok hg hch
end

abbrev XK := Value → Option Addr → Hp → Prop
abbrev St := List (Option V)
abbrev VK := V → Hp → Prop
abbrev TE := St → Hp → VK → Prop
abbrev TT := St → Hp → (Bool → Hp → Prop) → Prop
abbrev TA := St → Hp → (List V → Hp → Prop) → Prop
structure Ends where
  nx : St → Hp → Prop
  rt : VK
  bk : St → Hp → Prop := fun _ _ => False
  ct : St → Hp → Prop := fun _ _ => False
abbrev TS := Ends → St → Hp → Prop

def EP (X : Cx) (pins : List (Addr × Obj)) (σ : St) (Q : VK) (u : Value) (s' : Shared) : Prop := ∃ v H', Inv X pins σ H' s' ∧ RelV v u ∧ Q v H'
def TP (X : Cx) (pins : List (Addr × Obj)) (σ : St) (Q : Bool → Hp → Prop) (b : Bool) (s' : Shared) : Prop := ∃ H', Inv X pins σ H' s' ∧ Q b H'
def AP (X : Cx) (pins : List (Addr × Obj)) (σ : St) (Q : List V → Hp → Prop) (us : List Value) (s' : Shared) : Prop := ∃ vs H', Inv X pins σ H' s' ∧ Vals vs us ∧ Q vs H'
def SP (X : Cx) (pins : List (Addr × Obj)) (D : Ends) (f : Flow) (s' : Shared) : Prop :=
  match f with
  | .next => ∃ σ' H', Inv X pins σ' H' s' ∧ D.nx σ' H'
  | .brk => ∃ σ' H', Inv X pins σ' H' s' ∧ D.bk σ' H'
  | .cont => ∃ σ' H', Inv X pins σ' H' s' ∧ D.ct σ' H'
  | .ret u => ∃ v σ' H', Inv X pins σ' H' s' ∧ RelV v u ∧ D.rt v H'

def PE (X : Cx) (e : Expr) (t : TE) : Prop :=
  ∀ (pins : List (Addr × Obj)) (s : Shared) (σ : St) (H : Hp) (Q : VK), Inv X pins σ H s → t σ H Q → wpAny (model X.prog X.w) X.A (eval e X.env) (EP X pins σ Q) X.xe s
def PT (X : Cx) (e : Expr) (t : TT) : Prop :=
  ∀ (pins : List (Addr × Obj)) (s : Shared) (σ : St) (H : Hp) (Q : Bool → Hp → Prop), Inv X pins σ H s → t σ H Q → wpAny (model X.prog X.w) X.A (isTrue e X.env (eval e X.env)) (TP X pins σ Q) X.xe s
def PW (X : Cx) (e : Expr) (t : TT) : Prop :=
  ∀ (whole : Sem Value) (pins : List (Addr × Obj)) (s : Shared) (σ : St) (H : Hp) (Q : Bool → Hp → Prop), Inv X pins σ H s → t σ H Q → wpAny (model X.prog X.w) X.A (isTrue e X.env whole) (TP X pins σ Q) X.xe s
theorem PW.pt {X : Cx} {e : Expr} {t : TT} (h : PW X e t) : PT X e t := h _
def PA (X : Cx) (es : List Expr) (t : TA) : Prop :=
  ∀ (pos : Pos) (pins : List (Addr × Obj)) (s : Shared) (σ : St) (H : Hp) (Q : List V → Hp → Prop), Inv X pins σ H s → t σ H Q → wpAny (model X.prog X.w) X.A (spliced (backTo pos (starEach es X.env))) (AP X pins σ Q) X.xe s
def PS (X : Cx) (st : Stmt) (t : TS) : Prop :=
  ∀ (pins : List (Addr × Obj)) (s : Shared) (σ : St) (H : Hp) (D : Ends), Inv X pins σ H s → t D σ H → wpAny (model X.prog X.w) X.A (exec st X.env) (SP X pins D) X.xe s
def PSs (X : Cx) (st : List Stmt) (t : TS) : Prop :=
  ∀ (pins : List (Addr × Obj)) (s : Shared) (σ : St) (H : Hp) (D : Ends), Inv X pins σ H s → t D σ H → wpAny (model X.prog X.w) X.A (execs st X.env) (SP X pins D) X.xe s
theorem thn {α : Type} {t : Sem α} {Q Q' : α → Shared → Prop} {M : Model} {A : Around} {E : Value → Shared → Prop} {s : Shared} (h : wpAny M A t Q E s) (hQ : ∀ a s, Q a s → Q' a s) : wpAny M A t Q' E s := wpAny_mono h hQ fun _ _ x => x
end L2

namespace L2
open PySem PySem.Spec PyProof.Rows
section
variable {X : Cx}

def tVar (i : Nat) : TE := fun σ H Q => ∃ v, σ[i]? = some (some v) ∧ Q v H
def tC (v : V) : TE := fun _ H Q => Q v H
theorem pe_var {i : Nat} {x : Str} {pos : Pos} (hN : X.N[i]? = some x) (hv : Vis X.env.scope x) (hd : (x == ("__debug__" : Str)) = false := by decide) (hcd : (x == ("__classdict__" : Str)) = false := by decide) : PE X (.Name x pos) (tVar i) := by
  intro pins s σ H Q I h
  obtain ⟨v, e, h⟩ := h
  obtain ⟨m, hn, hl⟩ := I.loc
  obtain ⟨u, r, l⟩ := hl i x v hN e hv
  have fin : EP X pins σ Q u s := ⟨v, H, I, r, h⟩
  rcases l with ⟨hk, hm⟩ | ⟨hk, c, hc, hcell⟩
  · exact wpAny_Name (wpAny_loadName_local I.ok.kind hk hn hm fin) hd
  · rcases hk with hk | hk
    · exact wpAny_Name (wpAny_loadName_cell I.ok.kind hk hc hcell fin) hd
    · exact wpAny_Name (wpAny_loadName_free I.ok.kind hk hc hcell fin hcd) hd
theorem pe_int {i j pos} : PE X (.Constant (.int i) j pos) (tC (.int i)) := fun _ _ _ H _ I h => wpAny_Constant_int ⟨.int i, H, I.tok _, ⟨_, rfl⟩, h⟩
theorem pe_bl {b j pos} : PE X (.Constant (.bool b) j pos) (tC (.bl b)) := fun _ _ _ H _ I h => Constant_bool ⟨.bl b, H, I, rfl, h⟩
theorem pe_non {j pos} : PE X (.Constant .none j pos) (tC .non) := fun _ _ _ H _ I h => Constant_none ⟨.non, H, I, rfl, h⟩
theorem pe_str {x j pos} : PE X (.Constant (.str x) j pos) (tC (.str x)) := fun _ _ _ H _ I h => Calls.Constant_str ⟨.str x, H, I.tok _, ⟨_, rfl⟩, h⟩

def Gl (X : Cx) (x : Str) : Prop := X.env.kindOf x = some .globalImplicit
theorem ld_glob {E : Value → Shared → Prop} {pins : List (Addr × Obj)} {s : Shared} {σ : St} {H : Hp} {x : Str} {u : Value} {pos : Pos} {Q : Value → Shared → Prop} (I : Inv X pins σ H s) (hg : Gl X x) (hm : X.mg x = some u) (h : Q u s)
    (hd : (x == ("__debug__" : Str)) = false := by decide) : wpAny (model X.prog X.w) X.A (eval (.Name x pos) X.env) Q E s :=
  Calls.Name_function_global I.ok.kind hg (Calls.loadGlobal_global (by rw [I.ok.glob]; exact I.mod.glob.keeps I.bk) hm h) hd
theorem ld_blt {E : Value → Shared → Prop} {pins : List (Addr × Obj)} {s : Shared} {σ : St} {H : Hp} {x : Str} {u : Value} {pos : Pos} {Q : Value → Shared → Prop} (I : Inv X pins σ H s) (hg : Gl X x) (hm : X.mg x = none) (hv : bootBuiltins x = some u) (h : Q u s)
    (hn : x ≠ "__name__" := by decide) (hd : (x == ("__debug__" : Str)) = false := by decide) : wpAny (model X.prog X.w) X.A (eval (.Name x pos) X.env) Q E s := by
  obtain ⟨mb, h1, h2⟩ := I.mod.blt
  exact Calls.Name_function_global I.ok.kind hg (Calls.loadGlobal_builtin (by rw [I.ok.glob]; exact I.mod.glob.keeps I.bk) hm (by rw [I.ok.blt]; exact h1.keeps I.bk) ((h2 x hn).trans hv) h) hd
theorem pe_glob {x : Str} {v : V} {u : Value} {pos : Pos} (hg : Gl X x) (hm : X.mg x = some u) (r : RelV v u) (hd : (x == ("__debug__" : Str)) = false := by decide) : PE X (.Name x pos) (tC v) :=
  fun _ _ _ H _ I h => ld_glob I hg hm ⟨v, H, I, r, h⟩ hd
theorem pe_bltn {x : Str} {v : V} {u : Value} {pos : Pos} (hg : Gl X x) (hm : X.mg x = none) (hv : bootBuiltins x = some u) (r : RelV v u) (hn : x ≠ "__name__" := by decide) (hd : (x == ("__debug__" : Str)) = false := by decide) : PE X (.Name x pos) (tC v) :=
  fun _ _ _ H _ I h => ld_blt I hg hm hv ⟨v, H, I, r, h⟩ hn hd

variable {a b : Expr} {ta tb : TE} {pos : Pos}
def tB (t : TE) : TT := fun σ H Q => t σ H fun x H1 => ∃ c, x = .bl c ∧ Q c H1
variable {tA tB' : TT} {rest : List Expr}
def tAnd (t u : TT) : TT := fun σ H Q => t σ H fun c H1 => if c = true then u σ H1 Q else Q false H1
def tOr (t u : TT) : TT := fun σ H Q => t σ H fun c H1 => if c = true then Q true H1 else u σ H1 Q
def tNot (t : TT) : TT := fun σ H Q => t σ H fun c H1 => Q (!c) H1
theorem pw_and1 (ha : PT X a tA) : PW X (.BoolOp .And [a] pos) tA := by
  intro wh pins s σ H Q I h
  refine isTrue_and (thn (ha pins s σ H Q I h) fun c s1 e => ?_)
  cases c with
  | true => exact isTrue_and_nil e
  | false => exact e
theorem pw_or1 (ha : PT X a tA) : PW X (.BoolOp .Or [a] pos) tA := by
  intro wh pins s σ H Q I h
  refine isTrue_or (thn (ha pins s σ H Q I h) fun c s1 e => ?_)
  cases c with
  | false => exact isTrue_or_nil e
  | true => exact e
theorem pw_and (ha : PT X a tA) (hb : PW X (.BoolOp .And (b :: rest) pos) tB') : PW X (.BoolOp .And (a :: b :: rest) pos) (tAnd tA tB') := by
  intro wh pins s σ H Q I h
  refine isTrue_and (thn (ha pins s σ H _ I h) fun c s1 ⟨H1, I1, q1⟩ => ?_)
  cases c with
  | true => exact hb wh pins s1 σ H1 Q I1 q1
  | false => exact ⟨H1, I1, q1⟩
theorem pw_or (ha : PT X a tA) (hb : PW X (.BoolOp .Or (b :: rest) pos) tB') : PW X (.BoolOp .Or (a :: b :: rest) pos) (tOr tA tB') := by
  intro wh pins s σ H Q I h
  refine isTrue_or (thn (ha pins s σ H _ I h) fun c s1 ⟨H1, I1, q1⟩ => ?_)
  cases c with
  | true => exact ⟨H1, I1, q1⟩
  | false => exact hb wh pins s1 σ H1 Q I1 q1
theorem pt_not (ha : PT X a tA) : PT X (.UnaryOp .Not a pos) (tNot tA) := by
  intro pins s σ H Q I h
  exact isTrue_not (ha pins s σ H (fun c H1 => Q (!c) H1) I h)
def tAndV (ta tb : TE) : TE := fun σ H Q => ta σ H fun x H1 => ∃ c, x = .bl c ∧ if c = true then tb σ H1 Q else Q (.bl false) H1
def tOrV (ta tb : TE) : TE := fun σ H Q => ta σ H fun x H1 => ∃ c, x = .bl c ∧ if c = true then Q (.bl true) H1 else tb σ H1 Q
def tNotV (ta : TE) : TE := fun σ H Q => ta σ H fun x H1 => ∃ c, x = .bl c ∧ Q (.bl (!c)) H1
theorem pe_one {op} {t : TE} (h : PE X a t) : PE X (.BoolOp op [a] pos) t := fun pins s σ H Q I hw => BoolOp_one (h pins s σ H Q I hw)
theorem pe_and (ha : PE X a ta) (hb : PE X (.BoolOp .And (b :: rest) pos) tb) : PE X (.BoolOp .And (a :: b :: rest) pos) (tAndV ta tb) := by
  intro pins s σ H Q I h
  refine BoolOp_and (thn (ha pins s σ H _ I h) fun v s1 ⟨x, H1, I1, r1, q1⟩ => ?_)
  obtain ⟨c, rfl, q1⟩ := q1
  cases r1
  refine wpAny_truthy_bool ?_
  cases c with
  | true => exact hb pins s1 σ H1 Q I1 q1
  | false => exact ⟨.bl false, H1, I1, rfl, q1⟩
def tIf (t : TT) (ta tb : TE) : TE := fun σ H Q => t σ H fun c H1 => if c = true then ta σ H1 Q else tb σ H1 Q
end
end L2

namespace L2
open PySem PySem.Spec PyProof.Rows

def SqL (K : PySem.W.Frag) (H : Hp) (a : Addr) (xs : List V) : Prop :=
  Rd H a (.lst xs) ∨
    ∃ (o : Obj) (its : Array Value) (n : Nat), K.lookup a = some o ∧ o.cls = .type "list" ∧ o.dict = none ∧ o.data = .seq its n ∧ its.size ≤ sizeLine ∧ Vals xs its.toList
def SqT (K : PySem.W.Frag) (H : Hp) (a : Addr) (xs : List V) : Prop :=
  Rd H a (.tup xs) ∨
    ∃ (o : Obj) (its : Array Value) (n : Nat), K.lookup a = some o ∧ o.cls = .type "tuple" ∧ o.data = .seq its n ∧ its.size ≤ sizeLine ∧ Vals xs its.toList
def absV : Value → Option V
  | .none => some .non
  | .bool b => some (.bl b)
  | .int i _ => some (.int i)
  | .str x _ => some (.str x)
  | .bytes b _ => some (.byt b)
  | .float b _ => some (.flt b)
  | .ref a => some (.ref a)
  | .type n => some (.ty n)
  | _ => none
theorem RelV.abs {x : V} {u : Value} (r : RelV x u) : absV u = some x := by
  cases x with
  | non => cases r; rfl
  | bl _ => cases r; rfl
  | int _ => obtain ⟨t, rfl⟩ := r; rfl
  | str _ => obtain ⟨t, rfl⟩ := r; rfl
  | byt _ => obtain ⟨t, rfl⟩ := r; rfl
  | flt _ => obtain ⟨t, rfl⟩ := r; rfl
  | ref _ => cases r; rfl
  | ty _ => cases r; rfl
theorem RelV.inj {x y : V} {u : Value} (r : RelV x u) (q : RelV y u) : x = y := Option.some.inj (r.abs.symm.trans q.abs)
theorem Vals.inj : ∀ {xs ys : List V} {us : List Value}, Vals xs us → Vals ys us → xs = ys
  | _, _, _, .nil, .nil => rfl
  | _, _, _, .cons r t, .cons r' t' => by rw [r.inj r', Vals.inj t t']
section
variable {X : Cx} {pins : List (Addr × Obj)} {σ : St} {H : Hp} {s : Shared} {a : Addr} {xs ys : List V}
theorem SqL.of {K : PySem.W.Frag} (h : H a = some (.lst xs)) : SqL K H a xs := .inl (.inl h)
theorem SqT.of {K : PySem.W.Frag} (h : H a = some (.tup xs)) : SqT K H a xs := .inl (.inl h)
theorem Inv.list (I : Inv X pins σ H s) (h : SqL X.K H a xs) : ∃ its : List Value, Vals xs its ∧ PlainL s.heap a its.toArray ∧ xs.length ≤ sizeLine := by
  rcases h with h | ⟨o, its, n, hk, hc, hd, hs, hz, r⟩
  · obtain ⟨z, its, n, r, e⟩ := h.ok I.hok
    exact ⟨its, r, ⟨_, n, e, rfl, rfl, rfl⟩, z⟩
  · refine ⟨its.toList, r, ⟨o, n, I.kIn a o hk, hc, hd, by simpa using hs⟩, ?_⟩
    have e := r.length
    simp only [Array.length_toList] at e
    omega
theorem Inv.tuple (I : Inv X pins σ H s) (h : SqT X.K H a xs) : ∃ its : List Value, Vals xs its ∧ IsTup s.heap a its.toArray ∧ xs.length ≤ sizeLine := by
  rcases h with h | ⟨o, its, n, hk, hc, hs, hz, r⟩
  · obtain ⟨z, its, r, p⟩ := h.ok I.hok
    exact ⟨its, r, p, z⟩
  · refine ⟨its.toList, r, ⟨o, I.kIn a o hk, hc, n, by simpa using hs⟩, ?_⟩
    have e := r.length
    simp only [Array.length_toList] at e
    omega
theorem Inv.list_inj (I : Inv X pins σ H s) (h : SqL X.K H a xs) (h' : SqL X.K H a ys) : xs = ys := by
  obtain ⟨its, r, ⟨o, n, e, _, _, d⟩, _⟩ := I.list h
  obtain ⟨its', r', ⟨o', n', e', _, _, d'⟩, _⟩ := I.list h'
  rw [e] at e'; cases e'
  rw [d] at d'
  injection d' with d1 _
  have : its = its' := by simpa using congrArg Array.toList d1
  subst this
  exact r.inj r'
theorem Inv.tuple_inj (I : Inv X pins σ H s) (h : SqT X.K H a xs) (h' : SqT X.K H a ys) : xs = ys := by
  obtain ⟨its, r, ⟨o, e, _, n, d⟩, _⟩ := I.tuple h
  obtain ⟨its', r', ⟨o', e', _, n', d'⟩, _⟩ := I.tuple h'
  rw [e] at e'; cases e'
  rw [d] at d'
  injection d' with d1 _
  have : its = its' := by simpa using congrArg Array.toList d1
  subst this
  exact r.inj r'
end

abbrev Cx.wish (X : Cx) (E : Value → Shared → Prop) : Cx := { X with xe := E }
abbrev Cx.nox (X : Cx) : Cx := X.wish fun _ _ => False
theorem Cx.Ok.wish {X : Cx} (ok : X.Ok) (E : Value → Shared → Prop) : (X.wish E).Ok :=
  ⟨ok.mod, ok.kind, ok.glob, ok.blt, ok.above, ok.inj, ok.has, ok.cab, ok.hd, ok.frames, ok.stk, ok.exf, ok.bs, ok.bsz, ok.noex, ok.exfs, ok.funs, ok.frf⟩
theorem Cx.Ok.unwish {X : Cx} {E : Value → Shared → Prop} (ok : (X.wish E).Ok) : X.Ok :=
  ⟨ok.mod, ok.kind, ok.glob, ok.blt, ok.above, ok.inj, ok.has, ok.cab, ok.hd, ok.frames, ok.stk, ok.exf, ok.bs, ok.bsz, ok.noex, ok.exfs, ok.funs, ok.frf⟩
section
variable {X : Cx} {pins : List (Addr × Obj)} {σ : St} {H : Hp} {s : Shared} {E : Value → Shared → Prop}
theorem Inv.wish (I : Inv X pins σ H s) (E : Value → Shared → Prop) : Inv (X.wish E) pins σ H s := ⟨I.ok.wish E, I.os, I.bare, I.base, I.loc, I.cell, I.free, I.freeC, I.pin, I.hok, I.len⟩
theorem Inv.unwish (I : Inv (X.wish E) pins σ H s) : Inv X pins σ H s := ⟨I.ok.unwish, I.os, I.bare, I.base, I.loc, I.cell, I.free, I.freeC, I.pin, I.hok, I.len⟩
theorem SP.unwish {D : Ends} {f : Flow} {s' : Shared} (h : SP (X.wish E) pins D f s') : SP X pins D f s' := by
  cases f with
  | next => obtain ⟨σ', H', I, q⟩ := h; exact ⟨σ', H', I.unwish, q⟩
  | brk => obtain ⟨σ', H', I, q⟩ := h; exact ⟨σ', H', I.unwish, q⟩
  | cont => obtain ⟨σ', H', I, q⟩ := h; exact ⟨σ', H', I.unwish, q⟩
  | ret u => obtain ⟨v, σ', H', I, r, q⟩ := h; exact ⟨v, σ', H', I.unwish, r, q⟩
theorem PE.nox {e : Expr} {t : TE} (h : PE X.nox e t) : PE X e t := fun pins s σ H Q I hw =>
  wpAny_mono (h pins s σ H Q (I.wish _) hw) (fun _ _ ⟨v, H', I', r, q⟩ => ⟨v, H', I'.unwish, r, q⟩) fun _ _ z => False.elim z
theorem PT.nox {e : Expr} {t : TT} (h : PT X.nox e t) : PT X e t := fun pins s σ H Q I hw =>
  wpAny_mono (h pins s σ H Q (I.wish _) hw) (fun _ _ ⟨H', I', q⟩ => ⟨H', I'.unwish, q⟩) fun _ _ z => False.elim z
theorem PSs.nox {st : List Stmt} {t : TS} (h : PSs X.nox st t) : PSs X st t := fun pins s σ H D I hw =>
  wpAny_mono (h pins s σ H D (I.wish _) hw) (fun _ _ q => q.unwish) fun _ _ z => False.elim z
end

section
variable {X : Cx} {st : Stmt} {rest : List Stmt} {t u : TS} {e : Expr} {te : TE} {pos : Pos}
def tNext : TS := fun D σ H => D.nx σ H
def tSeq (t u : TS) : TS := fun D σ H => t { D with nx := u D } σ H
theorem pss_nil : PSs X [] tNext := fun _ _ σ H _ I h => wpAny_execs_nil ⟨σ, H, I, h⟩
theorem pss_cons (h1 : PS X st t) (h2 : PSs X rest u) : PSs X (st :: rest) (tSeq t u) := by
  intro pins s σ H D I h
  refine wpAny_execs_cons (thn (h1 pins s σ H { D with nx := u D } I h) fun f s1 q => ?_)
  cases f with
  | next =>
    obtain ⟨σ', H', I', q⟩ := q
    exact h2 pins s1 σ' H' D I' q
  | ret v => exact q
  | brk => exact q
  | cont => exact q
theorem pss_one (h1 : PS X st t) : PSs X [st] t := by
  intro pins s σ H D I h
  refine wpAny_execs_cons (thn (h1 pins s σ H D I h) fun f s1 q => ?_)
  cases f with
  | next => exact wpAny_execs_nil q
  | ret v => exact q
  | brk => exact q
  | cont => exact q
theorem Inv.quiet {pins : List (Addr × Obj)} {σ : St} {H : Hp} {s : Shared} (I : Inv X pins σ H s) : interactive X.env = false := by simp [interactive, I.ok.kind]
def tDrop (te : TE) : TS := fun D σ H => te σ H fun _ H1 => D.nx σ H1
theorem ps_expr (he : PE X e te) (hs : swapsWith e none pos.line X.env = pure false := by rfl) : PS X (.Expr e pos) (tDrop te) := by
  intro pins s σ H D I h
  exact wpAny_Expr_any (thn (he pins s σ H _ I h) fun v s1 ⟨x, H1, I1, r1, q1⟩ => ⟨σ, H1, I1, q1⟩) I.quiet hs
def tRet (te : TE) : TS := fun D σ H => te σ H D.rt
theorem ps_ret (he : PE X e te) : PS X (.Return (some e) pos) (tRet te) := by
  intro pins s σ H D I h
  exact wpAny_Return_some (thn (he pins s σ H _ I h) fun v s1 ⟨x, H1, I1, r1, q1⟩ => ⟨x, σ, H1, I1, r1, q1⟩)
def tIfS (c : TT) (t u : TS) : TS := fun D σ H => c σ H fun b H1 => if b = true then t D σ H1 else u D σ H1
theorem ps_if {c : Expr} {a b : List Stmt} {tc : TT} (hc : PT X c tc) (ha : PSs X a t) (hb : PSs X b u) : PS X (.If c a b pos) (tIfS tc t u) := by
  intro pins s σ H D I h
  refine wpAny_If (thn (hc pins s σ H _ I h) fun d s1 ⟨H1, I1, q1⟩ => ?_)
  cases d with
  | true => exact ha pins s1 σ H1 D I1 q1
  | false => exact hb pins s1 σ H1 D I1 q1
end

abbrev TG := V → St → Hp → (St → Hp → Prop) → Prop
abbrev TGs := List V → St → Hp → (St → Hp → Prop) → Prop
def PG (X : Cx) (target : Expr) (t : TG) : Prop :=
  ∀ (pins : List (Addr × Obj)) (s : Shared) (σ : St) (H : Hp) (v : V) (u : Value) (Q : St → Hp → Prop), Inv X pins σ H s → RelV v u → t v σ H Q →
    wpAny (model X.prog X.w) X.A (assign target X.env u) (fun _ s' => ∃ σ' H', Inv X pins σ' H' s' ∧ Q σ' H') X.xe s
def PGs (X : Cx) (ts : List Expr) (t : TGs) : Prop :=
  ∀ (pins : List (Addr × Obj)) (s : Shared) (σ : St) (H : Hp) (vs : List V) (us : List Value) (Q : St → Hp → Prop), Inv X pins σ H s → Vals vs us → t vs σ H Q →
    wpAny (model X.prog X.w) X.A (assignInOrder ((assignEach ts X.env).map (·.2)) us) (fun _ s' => ∃ σ' H', Inv X pins σ' H' s' ∧ Q σ' H') X.xe s
abbrev TSet := V → V → V → Hp → (Hp → Prop) → Prop
abbrev TIp := V → V → Hp → VK → Prop
def PIp (X : Cx) (op : Operator) (t : TIp) : Prop :=
  ∀ (pins : List (Addr × Obj)) (s : Shared) (σ : St) (H : Hp) (x y : V) (v u : Value) (Q : VK), Inv X pins σ H s → RelV x v → RelV y u → t x y H Q →
    wpAny (model X.prog X.w) X.A (inplaceOp op v u) (EP X pins σ Q) X.xe s
section
variable {X : Cx} {pos : Pos}
def gName (i : Nat) : TG := fun v σ H Q => Q (σ.set i (some v)) H
theorem pg_name {i : Nat} {x : Str} (hN : X.N.Nodup) (hi : X.N[i]? = some x) (hx : Loc X.env.scope x) (hf : X.fn x = true ∨ X.env.scope.names.lookup x = some .local := by first | exact .inl rfl | exact .inr rfl | assumption) : PG X (.Name x pos) (gName i) := by
  intro pins s σ H v u Q I r h
  exact wpAny_assign_Name (store_ok I hN hi hx r (fun s' I' => ⟨_, H, I', h⟩) hf)
def gNil : TGs := fun vs σ H Q => vs = [] ∧ Q σ H
def gCons (t : TG) (u : TGs) : TGs := fun vs σ H Q => ∃ v r, vs = v :: r ∧ t v σ H fun σ' H' => u r σ' H' Q
theorem pgs_nil : PGs X [] gNil := by
  intro pins s σ H vs us Q I r h
  obtain ⟨e, h⟩ := h
  subst e
  cases r
  exact assignInOrder_nil ⟨σ, H, I, h⟩
theorem pgs_cons {e : Expr} {es : List Expr} {t : TG} {u : TGs} (h1 : PG X e t) (h2 : PGs X es u)
    (hs : (assignEach (e :: es) X.env).map (·.2) = assign e X.env :: (assignEach es X.env).map (·.2) := by rfl) : PGs X (e :: es) (gCons t u) := by
  intro pins s σ H vs us Q I r h
  obtain ⟨v, vr, e1, h⟩ := h
  subst e1
  cases r with
  | cons r rr =>
    rw [hs]
    refine assignInOrder_cons (thn (h1 pins s σ H _ _ _ I r h) fun _ s1 ⟨σ1, H1, I1, q1⟩ => ?_)
    exact h2 pins s1 σ1 H1 _ _ Q I1 rr q1
def gTup (K : PySem.W.Frag) (n : Nat) (t : TGs) : TG := fun v σ H Q => ∃ a xs, v = .ref a ∧ SqT K H a xs ∧ xs.length = n ∧ t xs σ H Q
theorem pg_tup {es : List Expr} {k : Nat} {t : TGs} {n : Nat} (hc : X.calm = true) (h : PGs X es t)
    (hn : (assignEach es X.env).length = n := by rfl) (hst : (assignEach es X.env).findIdx? (·.1) = none := by rfl) : PG X (.Tuple es k pos) (gTup X.K n t) := by
  intro pins s σ H v u Q I r hw
  obtain ⟨a, xs, e1, hq, hl, hw⟩ := hw
  subst e1
  cases r
  obtain ⟨its, rv, ht, hz⟩ := I.tuple hq
  refine assign_Tuple_tuple (I.ok.hd hc) ht (by simp [hn, ← hl, rv.length]) hst fun h' hx => ?_
  have I1 : Inv X pins σ H { s with heap := h' } := I.kept (t' := s.toks) fun b o e => hx b o (Nat.ne_of_lt (Heap.lt_size e)) e
  exact h pins _ σ H xs _ Q I1 (by simpa using rv) hw
def gSub (to ti : TE) (t : TSet) : TG := fun v σ H Q => to σ H fun o H1 => ti σ H1 fun i H2 => t o i v H2 fun H3 => Q σ H3
def tAsg (te : TE) (g : TG) : TS := fun D σ H => te σ H fun x H1 => g x σ H1 D.nx
theorem ps_asg {tg e : Expr} {te : TE} {g : TG} (he : PE X e te) (hg : PG X tg g) (hs : swapsWithSole [tg] e pos.line X.env = pure false := by rfl) (hw : swappedStores [tg] e X.env = pure none := by rfl)
    (h1 : (assignEach [tg] X.env).map (·.2) = [assign tg X.env] := by rfl) : PS X (.Assign [tg] e pos) (tAsg te g) := by
  intro pins s σ H D I h
  refine wpAny_Assign_stores (thn (he pins s σ H _ I h) fun v s1 ⟨x, H1, I1, r1, q1⟩ => ?_) hs hw
  rw [h1]
  exact thn (hg pins s1 σ H1 x v _ I1 r1 q1) fun _ s2 q => q
theorem ps_set {i : Nat} {x : Str} {e : Expr} {te : TE} {pos' : Pos} (hN : X.N.Nodup) (hi : X.N[i]? = some x) (hx : Loc X.env.scope x) (he : PE X e te) (hs : swapsWith e (some (.Name x pos')) pos.line X.env = pure false := by rfl) (hf : X.fn x = true ∨ X.env.scope.names.lookup x = some .local := by first | exact .inl rfl | exact .inr rfl | assumption) :
    PS X (.Assign [.Name x pos'] e pos) (tAsg te (gName i)) := by
  intro pins s σ H D I h
  refine wpAny_Assign_Name (thn (he pins s σ H _ I h) fun v s1 ⟨y, H1, I1, r1, q1⟩ => ?_) hs
  exact store_ok I1 hN hi hx r1 (fun s2 I2 => ⟨_, H1, I2, q1⟩) hf
def tAug (i : Nat) (te : TE) (ti : TIp) : TS := fun D σ H => ∃ x, σ[i]? = some (some x) ∧ te σ H fun y H1 => ti x y H1 fun z H2 => D.nx (σ.set i (some z)) H2
theorem ps_aug {i : Nat} {x : Str} {e : Expr} {te : TE} {op : Operator} {ti : TIp} {pos' : Pos} (hN : X.N.Nodup) (hi : X.N[i]? = some x) (hx : Loc X.env.scope x) (he : PE X e te) (ho : PIp X op ti) (hf : X.fn x = true ∨ X.env.scope.names.lookup x = some .local := by first | exact .inl rfl | exact .inr rfl | assumption) :
    PS X (.AugAssign (.Name x pos') op e pos) (tAug i te ti) := by
  intro pins s σ H D I h
  obtain ⟨v, e1, h⟩ := h
  obtain ⟨m, hn, hl⟩ := I.loc
  have vis : Vis X.env.scope x := by rcases hx with k | k; exact .inl k; exact .inr (.inl k)
  obtain ⟨u, r, l⟩ := hl i x v hi e1 vis
  refine wpAny_AugAssign_Name ?_
  have go : wpAny (model X.prog X.w) X.A (eval e X.env) (fun w s₂ => wpAny (model X.prog X.w) X.A (inplaceOp op u w) (fun r s₃ => wpAny (model X.prog X.w) X.A (storeName X.env x r) (fun _ => SP X pins D .next) X.xe s₃) X.xe s₂) X.xe s := by
    refine thn (he pins s σ H _ I h) fun w s1 ⟨y, H1, I1, r1, q1⟩ => ?_
    refine thn (ho pins s1 σ H1 v y u w _ I1 r r1 q1) fun z s2 ⟨zv, H2, I2, r2, q2⟩ => ?_
    exact store_ok I2 hN hi hx r2 (fun s3 I3 => ⟨_, H2, I3, q2⟩) hf
  rcases l with ⟨hk, hm⟩ | ⟨hk, c, hc, hcell⟩
  · exact wpAny_loadName_local I.ok.kind hk hn hm go
  · rcases hk with hk | hk
    · exact wpAny_loadName_cell I.ok.kind hk hc hcell go
    · rcases hx with k | k
      · have : X.env.scope.names.lookup x = some .free := hk
        rw [k] at this; cases this
      · have : X.env.scope.names.lookup x = some .free := hk
        rw [k] at this; cases this
def ipI (f : Int → Int → Int) : TIp := fun x y H Q => ∃ i j, x = .int i ∧ y = .int j ∧ Q (.int (f i j)) H
theorem ip_add : PIp X .Add (ipI fun i j => i + j) := by
  intro pins s σ H x y v u Q I r1 r2 h
  obtain ⟨i, j, e1, e2, q⟩ := h
  subst e1; subst e2
  obtain ⟨t, rfl⟩ := r1
  obtain ⟨t', rfl⟩ := r2
  exact iadd_int ⟨.int _, H, I.tok _, ⟨_, rfl⟩, q⟩
end

section
variable {X : Cx} {pos : Pos}
end

structure It where
  go : Nat → Hp → Prop
  yld : Nat → Hp → V → Hp → Prop
  stop : Nat → Hp → Prop
def FpOk (X : Cx) (pins : List (Addr × Obj)) (H : Hp) (b : Addr) : Prop :=
  H b = none ∧ b ≠ X.env.locals ∧ b ∉ X.fs ∧ (b ∈ X.ex ∨ X.s₀.heap.objs.size ≤ b) ∧ (∀ x c, X.env.cells.lookup x = some c → c ≠ b) ∧ ∀ p ∈ X.pn ++ pins, p.1 ≠ b
theorem Inv.fpOk {X : Cx} {pins : List (Addr × Obj)} {σ : St} {H H' : Hp} {s : Shared} {b : Addr} (I : Inv X pins σ H s) (hb : s.heap.objs.size ≤ b) (hn : H' b = none) : FpOk X pins H' b := by
  refine ⟨hn, Nat.ne_of_gt (Nat.lt_of_lt_of_le I.lt hb), I.nofs hb, .inr (Nat.le_trans I.sz hb), fun x c e z => ?_, fun p hp z => ?_⟩
  · obtain ⟨v, q⟩ := I.cell x c e
    exact absurd (Nat.lt_of_lt_of_le q.lt (by rw [z]; exact hb)) (Nat.lt_irrefl _)
  · exact absurd (Nat.lt_of_lt_of_le (Heap.lt_size (I.pin p hp).1) (by rw [z]; exact hb)) (Nat.lt_irrefl _)
structure Turn (P : Program) (w : World) (K : PySem.W.Frag) (tg : Expr) (J : It) (fp : List Addr) (it : Addr) (tn : Nat → Heap → Prop) : Prop where
  mem : it ∈ fp
  obj : ∀ i h, tn i h → ∀ b ∈ fp, ∃ o, h.get? b = some o ∧ ∀ v, o.data ≠ .cell v
  keep : ∀ i h h', tn i h → (∀ b ∈ fp, ∀ o, h.get? b = some o → h'.get? b = some o) → tn i h'
  item : ∀ (X : Cx), X.prog = P → X.w = w → X.K = K → X.calm = true → ∀ (i : Nat) (pins : List (Addr × Obj)) (s : Shared) (σ : St) (H : Hp) (E : Value → Shared → Prop), Inv X pins σ H s → (∀ b ∈ fp, FpOk X pins H b) → tn i s.heap → J.go i H →
    wpAny (model P w) X.A (pyNext (.ref it)) (fun r s1 => ∃ u, r = some u ∧
      wpAny (model P w) X.A (letOwnedTupleGo tg (.ref it) u) (fun _ s2 => ∃ x H', Inv X pins σ H' s2 ∧ RelV x u ∧ J.yld i H x H' ∧ tn (i + 1) s2.heap ∧ ∀ b ∈ fp, H' b = none) E s1) E s
  done : ∀ (X : Cx), X.prog = P → X.w = w → X.K = K → X.calm = true → ∀ (i : Nat) (pins : List (Addr × Obj)) (s : Shared) (σ : St) (H : Hp) (E : Value → Shared → Prop), Inv X pins σ H s → (∀ b ∈ fp, FpOk X pins H b) → tn i s.heap → J.stop i H →
    wpAny (model P w) X.A (pyNext (.ref it)) (fun r s1 => r = none ∧ Inv X pins σ H s1) E s
  self : ∀ (A : Around) (i : Nat) (s : Shared) (Q : Value → Shared → Prop) (E : Value → Shared → Prop), tn i s.heap → Q (.ref it) s → wpAny (model P w) A (pyIter (.ref it)) Q E s
abbrev TI := St → Hp → (It → Hp → Prop) → Prop
def PIE (X : Cx) (pins : List (Addr × Obj)) (σ : St) (tg : Expr) (R : It → Hp → Prop) (itv : Value) (s2 : Shared) : Prop :=
  ∃ (it : Addr) (fp : List Addr) (tn : Nat → Heap → Prop) (J : It) (H' : Hp), itv = .ref it ∧ Inv X pins σ H' s2 ∧ Turn X.prog X.w X.K tg J fp it tn ∧ tn 0 s2.heap ∧ (∀ b ∈ fp, FpOk X pins H' b) ∧ R J H'
def PI (X : Cx) (tg iter : Expr) (wi : TI) : Prop :=
  ∀ (pins : List (Addr × Obj)) (s : Shared) (σ : St) (H : Hp) (R : It → Hp → Prop), Inv X pins σ H s → wi σ H R →
    wpAny (model X.prog X.w) X.A (eval iter X.env) (fun v s1 => wpAny (model X.prog X.w) X.A (pyIter v) (PIE X pins σ tg R) X.xe s1) X.xe s

theorem go_of {M : Model} {A : Around} {E : Value → Shared → Prop} {s : Shared} {tg : Expr} {it : Addr} {u : Value} {o : Obj} {n : String} {vs : Array Value} {Q : Unit → Shared → Prop} (ho : s.heap.get? it = some o) (hc : o.cls = .type n) (hd : o.data = .fields vs)
    (hn : ["enumerate", "zip", "dict_itemiterator", "dict_reverseitemiterator", "odict_iterator", "itertools.zip_longest", "itertools.pairwise"].contains n = false) (hQ : Q () s) : wpAny M A (letOwnedTupleGo tg (.ref it) u) Q E s := by
  unfold letOwnedTupleGo
  cases tg <;> first
    | exact wpAny_pure hQ
    | (cases u <;> first
        | exact wpAny_pure hQ
        | (refine wpAny_bind (wpAny_load ho ?_)
           rw [hc, hd]
           show wpAny M A (if (["enumerate", "zip", "dict_itemiterator", "dict_reverseitemiterator", "odict_iterator", "itertools.zip_longest", "itertools.pairwise"].contains n && vs[0]? == some (rawInt _)) = true then _ else _) Q E s
           rw [if_neg (by intro h; rw [hn, Bool.false_and] at h; cases h)]
           exact wpAny_pure hQ))

def Itl (K : PySem.W.Frag) (a : Addr) : It :=
  ⟨fun i H => ∃ xs x, SqL K H a xs ∧ xs[i]? = some x, fun i H x H' => H' = H ∧ ∀ xs, SqL K H a xs → xs[i]? = some x, fun i H => ∃ xs, SqL K H a xs ∧ xs.length ≤ i⟩
def Itt (K : PySem.W.Frag) (a : Addr) : It :=
  ⟨fun i H => ∃ xs x, SqT K H a xs ∧ xs[i]? = some x, fun i H x H' => H' = H ∧ ∀ xs, SqT K H a xs → xs[i]? = some x, fun i H => ∃ xs, SqT K H a xs ∧ xs.length ≤ i⟩
def Itr (lo : Int) (n : Nat) : It := ⟨fun i _ => i < n, fun i H x H' => H' = H ∧ x = .int (lo + i), fun i _ => n ≤ i⟩
theorem turn_list {P : Program} {w : World} {K : PySem.W.Frag} {tg : Expr} (a it : Addr) : Turn P w K tg (Itl K a) [it] it (fun i h => h.IsListIter it a i) where
  mem := by simp
  obj := fun i h st b hb => by
    have e : b = it := by simpa using hb
    subst e
    obtain ⟨o, e, c, d⟩ := st
    exact ⟨o, e, fun v z => by rw [d] at z; cases z⟩
  keep := fun i h h' st k => st.at fun o e => k it (by simp) o e
  item := by
    intro X hP hw hK hc i pins s σ H E I hf st hg
    subst hP hw hK
    obtain ⟨xs, x, hq, hx⟩ := hg
    obtain ⟨its, rv, p, hz⟩ := I.list hq
    obtain ⟨u, hu, ru⟩ := rv.get hx
    obtain ⟨f0, f1, f2, f3, f4, f5⟩ := hf it (by simp)
    refine wpAny_pyNext_list_item st p.isList (x := u) (by simpa using hu) fun h' st' sb => ?_
    have I1 : Inv X pins σ H { s with heap := h' } := I.turned (t' := s.toks) (fun b o hb e => (sb.2 b hb).trans e) f0 f1 f3 f4 f5
    obtain ⟨o, e, c, d⟩ := id st'
    exact ⟨u, rfl, go_of (s := { s with heap := h' }) e c d (by decide) ⟨x, H, I1, ru, ⟨rfl, fun ys hy => by rw [I.list_inj hy hq]; exact hx⟩, st', fun b hb => (hf b hb).1⟩⟩
  done := by
    intro X hP hw hK hc i pins s σ H E I hf st hg
    subst hP hw hK
    obtain ⟨xs, hq, hx⟩ := hg
    obtain ⟨its, rv, p, hz⟩ := I.list hq
    obtain ⟨f0, f1, f2, f3, f4, f5⟩ := hf it (by simp)
    have hl := rv.length
    exact wpAny_pyNext_list_end (I.ok.hd hc) st p.isList (by simp; omega) fun h' eb => ⟨rfl, I.turned (t' := s.toks) (fun b o hb e => eb b o hb e) f0 f1 f3 f4 f5⟩
  self := fun _ _ _ _ _ st h => wpAny_pyIter_listiter st h
theorem turn_tuple {P : Program} {w : World} {K : PySem.W.Frag} {tg : Expr} (a it : Addr) : Turn P w K tg (Itt K a) [it] it (fun i h => h.IsTupleIter it a i) where
  mem := by simp
  obj := fun i h st b hb => by
    have e : b = it := by simpa using hb
    subst e
    obtain ⟨o, e, c, d⟩ := st
    exact ⟨o, e, fun v z => by rw [d] at z; cases z⟩
  keep := fun i h h' st k => st.at fun o e => k it (by simp) o e
  item := by
    intro X hP hw hK hc i pins s σ H E I hf st hg
    subst hP hw hK
    obtain ⟨xs, x, hq, hx⟩ := hg
    obtain ⟨its, rv, p, hz⟩ := I.tuple hq
    obtain ⟨u, hu, ru⟩ := rv.get hx
    obtain ⟨f0, f1, f2, f3, f4, f5⟩ := hf it (by simp)
    refine wpAny_pyNext_tuple_item st (show s.heap.IsTuple a its.toArray from p) (x := u) (by simpa using hu) fun h' st' sb => ?_
    have I1 : Inv X pins σ H { s with heap := h' } := I.turned (t' := s.toks) (fun b o hb e => (sb.2 b hb).trans e) f0 f1 f3 f4 f5
    obtain ⟨o, e, c, d⟩ := id st'
    exact ⟨u, rfl, go_of (s := { s with heap := h' }) e c d (by decide) ⟨x, H, I1, ru, ⟨rfl, fun ys hy => by rw [I.tuple_inj hy hq]; exact hx⟩, st', fun b hb => (hf b hb).1⟩⟩
  done := by
    intro X hP hw hK hc i pins s σ H E I hf st hg
    subst hP hw hK
    obtain ⟨xs, hq, hx⟩ := hg
    obtain ⟨its, rv, p, hz⟩ := I.tuple hq
    obtain ⟨f0, f1, f2, f3, f4, f5⟩ := hf it (by simp)
    have hl := rv.length
    exact wpAny_pyNext_tuple_end (I.ok.hd hc) st (show s.heap.IsTuple a its.toArray from p) (by simp; omega) fun h' eb => ⟨rfl, I.turned (t' := s.toks) (fun b o hb e => eb b o hb e) f0 f1 f3 f4 f5⟩
  self := fun _ _ _ _ _ st h => wpAny_pyIter_tupleiter st h
theorem turn_range {P : Program} {w : World} {K : PySem.W.Frag} {tg : Expr} (it : Addr) (lo : Int) (n : Nat) : Turn P w K tg (Itr lo n) [it] it (fun i h => IsRangeIter h it (lo + (i : Nat) * 1) ((n : Int) - (i : Nat)) 1) where
  mem := by simp
  obj := fun i h st b hb => by
    have e : b = it := by simpa using hb
    subst e
    exact ⟨_, st, fun v z => by
      have z' : Data.fields _ = Data.cell v := z
      cases z'⟩
  keep := fun i h h' st k => k it (by simp) _ st
  item := by
    intro X hP hw hK hc i pins s σ H E I hf st hg
    subst hP hw hK
    obtain ⟨f0, f1, f2, f3, f4, f5⟩ := hf it (by simp)
    have W := Walks.range (prog := X.prog) (w := X.w) (I.ok.hd hc) it lo 1 n
    refine W.item i s _ _ hg st fun v h' tk hv st' kk => ?_
    obtain ⟨t, rfl⟩ := hv
    have I1 : Inv X pins σ H { s with heap := h', toks := tk } := I.turned (fun b o hb e => kk b o (by simpa using hb) e) f0 f1 f3 f4 f5
    refine ⟨_, rfl, go_of (s := { s with heap := h', toks := tk }) (n := "range_iterator") st' rfl rfl (by decide) ⟨.int (lo + i), H, I1, ⟨t, ?_⟩, ⟨rfl, rfl⟩, st', fun b hb => (hf b hb).1⟩⟩
    rw [Int.mul_one]
  done := by
    intro X hP hw hK hc i pins s σ H E I hf st hg
    subst hP hw hK
    obtain ⟨f0, f1, f2, f3, f4, f5⟩ := hf it (by simp)
    exact wpAny_pyNext_range_end (I.ok.hd hc) st (by have : n ≤ i := hg; omega) fun h' eb => ⟨rfl, I.turned (t' := s.toks) (fun b o hb e => eb b o hb e) f0 f1 f3 f4 f5⟩
  self := fun _ _ _ _ _ st h => wpAny_pyIter_rangeiter st h
end L2

namespace L2
open PySem PySem.Spec PyProof.Rows
section
variable {X : Cx} {tg : Expr}
def iList (K : PySem.W.Frag) (tl : TE) : TI := fun σ H R => tl σ H fun x H1 => ∃ a, x = .ref a ∧ (∃ xs, SqL K H1 a xs) ∧ R (Itl K a) H1
def iTup (K : PySem.W.Frag) (tl : TE) : TI := fun σ H R => tl σ H fun x H1 => ∃ a, x = .ref a ∧ (∃ xs, SqT K H1 a xs) ∧ R (Itt K a) H1
theorem pi_list {l : Expr} {tl : TE} (hl : PE X l tl) : PI X tg l (iList X.K tl) := by
  intro pins s σ H R I h
  refine thn (hl pins s σ H _ I h) fun v s1 ⟨x, H1, I1, r1, q1⟩ => ?_
  obtain ⟨a, e, ⟨xs, hq⟩, q⟩ := q1
  subst e
  cases r1
  obtain ⟨its, rv, p, hz⟩ := I1.list hq
  refine wpAny_pyIter_list p.isList ?_
  refine ⟨s1.heap.objs.size, [s1.heap.objs.size], _, _, H1, rfl, I1.kept (t' := s1.toks) fun b o e => Heap.get?_push_of_some _ e, turn_list a _, ⟨_, Heap.get?_push_size _ rfl, rfl, rfl⟩, fun b hb => ?_, q⟩
  have e : b = s1.heap.objs.size := by simpa using hb
  subst e
  exact I1.fpOk (Nat.le_refl _) (I1.hok.fresh (Nat.le_refl _))
theorem pi_tup {l : Expr} {tl : TE} (hl : PE X l tl) : PI X tg l (iTup X.K tl) := by
  intro pins s σ H R I h
  refine thn (hl pins s σ H _ I h) fun v s1 ⟨x, H1, I1, r1, q1⟩ => ?_
  obtain ⟨a, e, ⟨xs, hq⟩, q⟩ := q1
  subst e
  cases r1
  obtain ⟨its, rv, p, hz⟩ := I1.tuple hq
  refine wpAny_pyIter_tuple (show s1.heap.IsTuple a its.toArray from p) ?_
  refine ⟨s1.heap.objs.size, [s1.heap.objs.size], _, _, H1, rfl, I1.kept (t' := s1.toks) fun b o e => Heap.get?_push_of_some _ e, turn_tuple a _, ⟨_, Heap.get?_push_size _ rfl, rfl, rfl⟩, fun b hb => ?_, q⟩
  have e : b = s1.heap.objs.size := by simpa using hb
  subst e
  exact I1.fpOk (Nat.le_refl _) (I1.hok.fresh (Nat.le_refl _))
theorem range_it {pins : List (Addr × Obj)} {σ : St} {H : Hp} {s : Shared} {R : It → Hp → Prop} {E : Value → Shared → Prop} {lo hi : Int} {t u v : Tok} {tk : Nat} (I : Inv X pins σ H s) (h1 : -(2 ^ 62) ≤ lo) (h2 : lo < 2 ^ 62) (h3 : -(2 ^ 62) ≤ hi) (h4 : hi < 2 ^ 62)
    (q : R (Itr lo (hi - lo).toNat) H) : wpAny (model X.prog X.w) X.A (pyIter (.ref s.heap.objs.size)) (PIE X pins σ tg R) E { s with heap := s.heap.push { cls := .type "range", data := .fields #[.int lo t, .int hi u, .int 1 v] }, toks := tk } := by
  refine wpAny_pyIter_range (IsRange.new ..) (small_one h1 h2 h3 h4) ?_
  have I1 : Inv X pins σ H { s with heap := s.heap.push { cls := .type "range", data := .fields #[.int lo t, .int hi u, .int 1 v] }, toks := tk } := I.kept fun b o e => Heap.get?_push_of_some _ e
  refine ⟨(s.heap.push { cls := .type "range", data := .fields #[.int lo t, .int hi u, .int 1 v] }).objs.size, [(s.heap.push { cls := .type "range", data := .fields #[.int lo t, .int hi u, .int 1 v] }).objs.size], _, _, H, rfl,
    I1.kept (t' := tk) fun b o e => Heap.get?_push_of_some _ e, turn_range _ lo (hi - lo).toNat, ?_, fun b hb => ?_, q⟩
  · have e1 : lo + ((0 : Nat) : Int) * 1 = lo := by simp
    have e2 : (((hi - lo).toNat : Nat) : Int) - ((0 : Nat) : Int) = Builtin.Range.rangeSize lo hi 1 := by rw [rangeSize_one]; split <;> omega
    show IsRangeIter _ _ (lo + ((0 : Nat) : Int) * 1) ((((hi - lo).toNat : Nat) : Int) - ((0 : Nat) : Int)) 1
    rw [e1, e2]
    exact Heap.get?_push_size _ rfl
  · have e : b = (s.heap.push { cls := .type "range", data := .fields #[.int lo t, .int hi u, .int 1 v] }).objs.size := by simpa using hb
    subst e
    exact I1.fpOk (Nat.le_refl _) (I1.hok.fresh (Nat.le_refl _))
def iRng1 (ta : TA) : TI := fun σ H R => ta σ H fun vs H1 => ∃ j : Int, vs = [.int j] ∧ -(2 ^ 62) ≤ j ∧ j < 2 ^ 62 ∧ R (Itr 0 j.toNat) H1
theorem pi_range1 {a : Expr} {ta : TA} {p pos : Pos} (hg : Gl X "range") (hm : X.mg "range" = none) (ha : PA X [a] ta) (hs : starEach [a] X.env = [(false, eval a X.env)] := by rfl) : PI X tg (.Call (.Name "range" p) [a] [] pos) (iRng1 ta) := by
  intro pins s σ H R I h
  refine Call_ (ld_blt I hg hm boot_range (PyProof.Rows.callWith_type1 (thn (ha pos pins s σ H _ I h) fun us s1 ⟨vs, H1, I1, r1, q1⟩ => ?_) hs rfl))
  obtain ⟨j, e, q1, q2, q⟩ := q1
  subst e
  cases r1 with
  | cons r rr =>
    cases rr
    obtain ⟨t, rfl⟩ := r
    exact call_range_1 (range_it I1 (by omega) (by omega) q1 q2 (by simpa using q))
def tFor (wi : TI) (g : TG) (tb : TS) : TS := fun D σ H => wi σ H fun J H1 => ∃ W : Nat → Nat → St → Hp → Prop, (∃ m, W 0 m σ H1) ∧ ∀ i m σ H, W i m σ H →
  (J.stop i H ∧ D.nx σ H) ∨ (J.go i H ∧ ∃ N : St → Hp → Prop, (∀ σ' H', N σ' H' → ∃ m', m' < m ∧ W (i + 1) m' σ' H') ∧ ∀ x H', J.yld i H x H' → g x σ H' fun σ2 H2 => tb { D with nx := N, ct := N, bk := D.nx } σ2 H2)
def pinsAt (fp : List Addr) (h : Heap) : List (Addr × Obj) := fp.filterMap fun b => (h.get? b).map fun o => (b, o)
theorem mem_pinsAt {fp : List Addr} {h : Heap} {b : Addr} {o : Obj} (hb : b ∈ fp) (e : h.get? b = some o) : (b, o) ∈ pinsAt fp h := List.mem_filterMap.mpr ⟨b, hb, by rw [e]; rfl⟩
theorem of_pinsAt {fp : List Addr} {h : Heap} {p : Addr × Obj} (hp : p ∈ pinsAt fp h) : p.1 ∈ fp ∧ h.get? p.1 = some p.2 := by
  obtain ⟨b, hb, e⟩ := List.mem_filterMap.mp hp
  cases q : h.get? b with
  | none => rw [q] at e; cases e
  | some o =>
    rw [q] at e
    have e' : (b, o) = p := Option.some.inj e
    subst e'
    exact ⟨hb, q⟩
theorem Inv.pinned {pins : List (Addr × Obj)} {σ : St} {H : Hp} {s : Shared} {fp : List Addr} (I : Inv X pins σ H s) (hf : ∀ b ∈ fp, FpOk X pins H b) (ho : ∀ b ∈ fp, ∃ o, s.heap.get? b = some o ∧ ∀ v, o.data ≠ .cell v) : Inv X (pins ++ pinsAt fp s.heap) σ H s :=
  I.pins_of fun p hp => (List.mem_append.mp hp).elim (fun z => I.pin p (List.mem_append_right _ z)) fun z => by
    obtain ⟨hb, e⟩ := of_pinsAt z
    obtain ⟨f0, f1, f2, _⟩ := hf p.1 hb
    obtain ⟨o, e', d⟩ := ho p.1 hb
    rw [e] at e'; cases e'
    exact ⟨e, f0, f1, f2, d⟩
theorem Inv.unpinned {pins pl : List (Addr × Obj)} {σ : St} {H : Hp} {s : Shared} (I : Inv X (pins ++ pl) σ H s) : Inv X pins σ H s := I.pins_of fun p hp => I.pin p (List.mem_append_right _ (List.mem_append_left _ hp))
theorem ps_for {iter : Expr} {body : List Stmt} {wi : TI} {g : TG} {tb : TS} {pos : Pos} (hp : PassesOwn (model X.prog X.w) X.A X.env X.xe) (hc : X.calm = true) (hi : PI X tg iter wi) (hg : PG X tg g) (hb : PSs X body tb)
    (hs : ∀ x, foldedSetIterable iter X.env x = pure x := by intro _; rfl) : PS X (.For tg iter body [] pos) (tFor wi g tb) := by
  intro pins s σ H D I h
  refine wpAny_For (thn (hi pins s σ H _ I h) fun v s1 h1 => thn h1 fun itv s2 h2 => ?_) hs
  obtain ⟨it, fp, tn, J, H2, e, I2, T, st2, f2, W, ⟨m0, w0⟩, turn⟩ := h2
  subst e
  -- what stays true of the iterator's objects through the loop
  have stat : ∀ {H' : Hp}, (∀ b ∈ fp, H' b = none) → ∀ b ∈ fp, FpOk X pins H' b := fun hn b hb => ⟨hn b hb, (f2 b hb).2⟩
  refine codeAny_forLoop_any (fun n s' => ∃ i σ' H', Inv X pins σ' H' s' ∧ tn i s'.heap ∧ (∀ b ∈ fp, H' b = none) ∧ W i n σ' H') ?_ m0 ⟨0, σ, H2, I2, st2, fun b hb => (f2 b hb).1, w0⟩
  rintro n s3 ⟨i, σ3, H3, I3, st3, fr3, w3⟩
  rcases turn i n σ3 H3 w3 with ⟨stop, qn⟩ | ⟨go, N, hN, step⟩
  · refine wpAny_passesOwn hp (thn (T.done X rfl rfl rfl hc i pins s3 σ3 H3 X.xe I3 (stat fr3) st3 stop) fun r s4 ⟨hr, I4⟩ => ?_)
    subst hr
    exact wpAny_execs_nil ⟨σ3, H3, I4, qn⟩
  · refine wpAny_passesOwn hp (thn (T.item X rfl rfl rfl hc i pins s3 σ3 H3 X.xe I3 (stat fr3) st3 go) fun r s4 ⟨u, hr, h4⟩ => ?_)
    subst hr
    refine wpAny_passesOwn hp (thn h4 fun _ s5 ⟨x, H5, I5, r5, y5, st5, fr5⟩ => ?_)
    have I5' := I5.pinned (stat fr5) (T.obj _ _ st5)
    refine wpAny_passesOwn hp (thn (hg _ s5 σ3 H5 x u _ I5' r5 (step x H5 y5)) fun _ s6 ⟨σ6, H6, I6, q6⟩ => ?_)
    refine wpAny_passesOwn hp (thn (hb _ s6 σ6 H6 _ I6 q6) fun f s7 q7 => ?_)
    have again : ∀ {σ7 : St} {H7 : Hp}, Inv X (pins ++ pinsAt fp s5.heap) σ7 H7 s7 → N σ7 H7 → ∃ m, m < n ∧ ∃ i σ' H', Inv X pins σ' H' s7 ∧ tn i s7.heap ∧ (∀ b ∈ fp, H' b = none) ∧ W i m σ' H' := fun {σ7 H7} I7 n7 => by
      obtain ⟨m', hm, w7⟩ := hN σ7 H7 n7
      refine ⟨m', hm, i + 1, σ7, H7, I7.unpinned, T.keep _ _ _ st5 fun b hb o e => (I7.pin (b, o) (List.mem_append_right _ (List.mem_append_right _ (mem_pinsAt hb e)))).1, fun b hb => ?_, w7⟩
      obtain ⟨o, e, d⟩ := T.obj _ _ st5 b hb
      exact (I7.pin (b, o) (List.mem_append_right _ (List.mem_append_right _ (mem_pinsAt hb e)))).2.1
    cases f with
    | next => obtain ⟨σ7, H7, I7, n7⟩ := q7; exact again I7 n7
    | cont => obtain ⟨σ7, H7, I7, n7⟩ := q7; exact again I7 n7
    | brk => obtain ⟨σ7, H7, I7, q7⟩ := q7; exact ⟨σ7, H7, I7.unpinned, q7⟩
    | ret v => obtain ⟨x7, σ7, H7, I7, r7, q7⟩ := q7; exact ⟨x7, σ7, H7, I7.unpinned, r7, q7⟩
end

end L2

namespace L2
open PySem PySem.Spec PyProof.Rows

abbrev R2 := V → V → Hp → VK → Prop
def OpR (X : Cx) (f : Value → Value → Sem Value) (r : R2) : Prop :=
  ∀ (pins : List (Addr × Obj)) (s : Shared) (σ : St) (H : Hp) (x y : V) (v u : Value) (Q : VK), Inv X pins σ H s → RelV x v → RelV y u → r x y H Q →
    wpAny (model X.prog X.w) X.A (f v u) (EP X pins σ Q) X.xe s
def CallR (X : Cx) (f : Value) (r : List V → Hp → VK → Prop) : Prop :=
  ∀ (pins : List (Addr × Obj)) (s : Shared) (σ : St) (H : Hp) (xs : List V) (us : List Value) (Q : VK), Inv X pins σ H s → Vals xs us → r xs H Q →
    wpAny (model X.prog X.w) X.A (call f us) (EP X pins σ Q) X.xe s
def TruR (X : Cx) (r : V → Hp → (Bool → Hp → Prop) → Prop) : Prop :=
  ∀ (pins : List (Addr × Obj)) (s : Shared) (σ : St) (H : Hp) (x : V) (v : Value) (Q : Bool → Hp → Prop), Inv X pins σ H s → RelV x v → r x H Q →
    wpAny (model X.prog X.w) X.A (truthy v) (TP X pins σ Q) X.xe s

def tOp (r : R2) (ta tb : TE) : TE := fun σ H Q => ta σ H fun x H1 => tb σ H1 fun y H2 => r x y H2 Q
def tUn (r : V → Hp → VK → Prop) (ta : TE) : TE := fun σ H Q => ta σ H fun x H1 => r x H1 Q
def rI (C : Int → Int → Prop) (g : Int → Int → V) : R2 := fun x y H Q => ∃ i j, x = .int i ∧ y = .int j ∧ C i j ∧ Q (g i j) H
def rI0 (g : Int → Int → V) : R2 := fun x y H Q => ∃ i j, x = .int i ∧ y = .int j ∧ Q (g i j) H
def rU (g : Int → V) : V → Hp → VK → Prop := fun x H Q => ∃ i, x = .int i ∧ Q (g i) H

section
variable {X : Cx} {a b c : Expr} {ta tb tc : TE} {pos : Pos}

theorem binT (ha : PE X a ta) (hb : PE X b tb) {pins : List (Addr × Obj)} {s : Shared} {σ : St} {H : Hp} {R : V → V → Hp → Prop} (I : Inv X pins σ H s)
    (h : ta σ H fun x H1 => tb σ H1 fun y H2 => R x y H2) {Q : Value → Shared → Prop} {f : Value → Value → Sem Value}
    (hf : ∀ v u s2 x y H2, Inv X pins σ H2 s2 → RelV x v → RelV y u → R x y H2 → wpAny (model X.prog X.w) X.A (f v u) Q X.xe s2) :
    wpAny (model X.prog X.w) X.A (eval a X.env) (fun v s₁ => wpAny (model X.prog X.w) X.A (eval b X.env) (fun u s₂ => wpAny (model X.prog X.w) X.A (f v u) Q X.xe s₂) X.xe s₁) X.xe s := by
  refine thn (ha pins s σ H _ I h) fun v s1 ⟨x, H1, I1, r1, q1⟩ => ?_
  refine thn (hb pins s1 σ H1 _ I1 q1) fun u s2 ⟨y, H2, I2, r2, q2⟩ => ?_
  exact hf v u s2 x y H2 I2 r1 r2 q2

theorem pe_op {op : Operator} {r : R2} (ho : OpR X (binaryOp op) r) (ha : PE X a ta) (hb : PE X b tb) : PE X (.BinOp a op b pos) (tOp r ta tb) := by
  intro pins s σ H Q I h
  exact wpAny_BinOp (binT ha hb I h fun v u s2 x y H2 I2 rx ry q => ho pins s2 σ H2 x y v u Q I2 rx ry q)
theorem opI {f : Value → Value → Sem Value} {C : Int → Int → Prop} {g : Int → Int → Int}
    (rule : ∀ (i j : Int) (t u : Tok) (s : Shared) (Q : Value → Shared → Prop) (E : Value → Shared → Prop), C i j → Q (.int (g i j) s.toks) { s with toks := s.toks + 1 } → wpAny (model X.prog X.w) X.A (f (.int i t) (.int j u)) Q E s) :
    OpR X f (rI C fun i j => .int (g i j)) := by
  intro pins s σ H x y v u Q I rx ry h
  obtain ⟨i, j, rfl, rfl, hc, q⟩ := h
  obtain ⟨t, rfl⟩ := rx
  obtain ⟨t', rfl⟩ := ry
  exact rule i j t t' s _ _ hc ⟨.int (g i j), H, I.tok _, ⟨_, rfl⟩, q⟩
theorem opI0 {f : Value → Value → Sem Value} {g : Int → Int → Int}
    (rule : ∀ (i j : Int) (t u : Tok) (s : Shared) (Q : Value → Shared → Prop) (E : Value → Shared → Prop), Q (.int (g i j) s.toks) { s with toks := s.toks + 1 } → wpAny (model X.prog X.w) X.A (f (.int i t) (.int j u)) Q E s) :
    OpR X f (rI0 fun i j => .int (g i j)) := by
  intro pins s σ H x y v u Q I rx ry h
  obtain ⟨i, j, rfl, rfl, q⟩ := h
  obtain ⟨t, rfl⟩ := rx
  obtain ⟨t', rfl⟩ := ry
  exact rule i j t t' s _ _ ⟨.int (g i j), H, I.tok _, ⟨_, rfl⟩, q⟩
theorem opB0 {f : Value → Value → Sem Value} {g : Int → Int → Bool}
    (rule : ∀ (i j : Int) (t u : Tok) (s : Shared) (Q : Value → Shared → Prop) (E : Value → Shared → Prop), Q (.bool (g i j)) s → wpAny (model X.prog X.w) X.A (f (.int i t) (.int j u)) Q E s) :
    OpR X f (rI0 fun i j => .bl (g i j)) := by
  intro pins s σ H x y v u Q I rx ry h
  obtain ⟨i, j, rfl, rfl, q⟩ := h
  obtain ⟨t, rfl⟩ := rx
  obtain ⟨t', rfl⟩ := ry
  exact rule i j t t' s _ _ ⟨.bl (g i j), H, I, rfl, q⟩

def CDiv (i j : Int) : Prop := 0 < j ∧ j < 1073741824
def CPow (i j : Int) : Prop := 0 ≤ j ∧ j ≤ 1000000 ∧ i.natAbs < 2 ^ 64
def CMul (i j : Int) : Prop := (-(2 ^ 64) < i ∧ i < 2 ^ 64) ∨ (-(2 ^ 64) < j ∧ j < 2 ^ 64)
theorem CMul.ok {i j : Int} (h : CMul i j) : IntMulOk i j := by
  rcases h with ⟨h1, h2⟩ | ⟨h1, h2⟩
  · exact .of_left (intBits_le_64 h1 h2)
  · exact .of_right (intBits_le_64 h1 h2)
theorem op_add : OpR X (binaryOp .Add) (rI0 fun i j => .int (i + j)) := opI0 fun _ _ _ _ _ _ _ q => add_int q
theorem op_sub : OpR X (binaryOp .Sub) (rI0 fun i j => .int (i - j)) := opI0 fun _ _ _ _ _ _ _ q => sub_int q
theorem op_mul : OpR X (binaryOp .Mult) (rI CMul fun i j => .int (i * j)) := opI fun _ _ _ _ _ _ _ hc q => mul_int q hc.ok
theorem op_fdiv : OpR X (binaryOp .FloorDiv) (rI CDiv fun i j => .int (i / j)) := opI fun i j _ _ _ _ _ hc q => by
  have h1 : (0 : Int) < j := hc.1
  have h2 : j < 1073741824 := hc.2
  exact floordiv_int (by omega) (by rw [Int.fdiv_eq_ediv_of_nonneg i (by omega)]; exact q) (.inl (PyProof.noPylong_small (by omega)))
theorem op_mod : OpR X (binaryOp .Mod) (rI (fun _ j => 0 < j) fun i j => .int (i % j)) := opI fun i j _ _ _ _ _ hc q => by
  have h1 : (0 : Int) < j := hc
  exact mod_int' (by omega) (by rw [Int.fmod_eq_emod_of_nonneg i (by omega)]; exact q)
theorem op_pow : OpR X (binaryOp .Pow) (rI CPow fun i j => .int (i ^ j.toNat)) := opI fun _ _ _ _ _ _ _ hc q => pow_int_small hc.1 hc.2.1 hc.2.2 q
end

def scal : V → V → Bool
  | .non, .non => true | .non, .int _ => true | .int _, .non => true | .non, .bl _ => true | .bl _, .non => true | .non, .str _ => true | .str _, .non => true
  | .int _, .int _ => true | .bl _, .bl _ => true | .str _, .str _ => true | .byt _, .byt _ => true
  | .int _, .str _ => true | .str _, .int _ => true | .bl _, .str _ => true | .str _, .bl _ => true
  | _, _ => false
def rEq : R2 := fun x y H Q => scal x y = true ∧ Q (.bl (decide (x = y))) H
def rNe : R2 := fun x y H Q => scal x y = true ∧ Q (.bl (!decide (x = y))) H

theorem dec_int {i j : Int} : decide (V.int i = V.int j) = (i == j) := by
  rw [Bool.eq_iff_iff]
  simp
theorem dec_bl {i j : Bool} : decide (V.bl i = V.bl j) = (i == j) := by
  rw [Bool.eq_iff_iff]
  simp
theorem dec_str {i j : Str} : decide (V.str i = V.str j) = (i == j) := by
  rw [Bool.eq_iff_iff]
  simp
theorem dec_byt {i j : Array UInt8} : decide (V.byt i = V.byt j) = (i.toList == j.toList) := by
  rw [Bool.eq_iff_iff]
  cases i
  cases j
  simp

section
variable {X : Cx} {a b c : Expr} {ta tb tc : TE} {pos : Pos}
theorem fin_bl {pins : List (Addr × Obj)} {σ : St} {H : Hp} {s : Shared} {Q : VK} {k k' : Bool} (I : Inv X pins σ H s) (q : Q (.bl k) H) (e : k = k') : EP X pins σ Q (.bool k') s := by
  subst e
  exact ⟨.bl k, H, I, rfl, q⟩
theorem op_eq : OpR X (compareOp .Eq) rEq := by
  intro pins s σ H x y v u Q I rx ry h
  obtain ⟨hs, q⟩ := h
  cases x with
  | non =>
    cases rx
    cases y with
    | non => cases ry; exact PySem.EqNone.eq_none_none (fin_bl I q (by simp))
    | bl j => cases ry; exact PySem.EqNone.eq_none_bool (fin_bl I q (by simp))
    | int j => obtain ⟨t', rfl⟩ := ry; exact PySem.EqNone.eq_none_int (fin_bl I q (by simp))
    | str j => obtain ⟨t', rfl⟩ := ry; exact PySem.EqNone.eq_none_str (fin_bl I q (by simp))
    | _ => exact absurd (show false = true from hs) Bool.false_ne_true
  | bl i =>
    cases rx
    cases y with
    | non => cases ry; exact PySem.EqNone.eq_bool_none (fin_bl I q (by simp))
    | bl j => cases ry; exact eq_bool (fin_bl I q dec_bl)
    | str j => obtain ⟨t', rfl⟩ := ry; exact PySem.EqMixed.eq_bool_str (fin_bl I q (by simp))
    | _ => exact absurd (show false = true from hs) Bool.false_ne_true
  | int i =>
    obtain ⟨t, rfl⟩ := rx
    cases y with
    | non => cases ry; exact PySem.EqNone.eq_int_none (fin_bl I q (by simp))
    | int j => obtain ⟨t', rfl⟩ := ry; exact eq_int (fin_bl I q dec_int)
    | str j => obtain ⟨t', rfl⟩ := ry; exact PySem.EqMixed.eq_int_str (fin_bl I q (by simp))
    | _ => exact absurd (show false = true from hs) Bool.false_ne_true
  | str i =>
    obtain ⟨t, rfl⟩ := rx
    cases y with
    | non => cases ry; exact PySem.EqNone.eq_str_none (fin_bl I q (by simp))
    | bl j => cases ry; exact PySem.EqMixed.eq_str_bool (fin_bl I q (by simp))
    | int j => obtain ⟨t', rfl⟩ := ry; exact PySem.EqMixed.eq_str_int (fin_bl I q (by simp))
    | str j => obtain ⟨t', rfl⟩ := ry; exact eq_str (fin_bl I q dec_str)
    | _ => exact absurd (show false = true from hs) Bool.false_ne_true
  | byt i =>
    obtain ⟨t, rfl⟩ := rx
    cases y with
    | byt j => obtain ⟨t', rfl⟩ := ry; exact PySem.W.eq_bytes (fin_bl I q dec_byt)
    | _ => exact absurd (show false = true from hs) Bool.false_ne_true
  | _ => cases y <;> exact absurd (show false = true from hs) Bool.false_ne_true
theorem op_ne : OpR X (compareOp .NotEq) rNe := by
  intro pins s σ H x y v u Q I rx ry h
  obtain ⟨hs, q⟩ := h
  cases x with
  | non =>
    cases rx
    cases y with
    | non => cases ry; exact PySem.EqNone.ne_none_none (fin_bl I q (by simp))
    | bl j => cases ry; exact PySem.EqNone.ne_none_bool (fin_bl I q (by simp))
    | int j => obtain ⟨t', rfl⟩ := ry; exact PySem.EqNone.ne_none_int (fin_bl I q (by simp))
    | str j => obtain ⟨t', rfl⟩ := ry; exact PySem.EqNone.ne_none_str (fin_bl I q (by simp))
    | _ => exact absurd (show false = true from hs) Bool.false_ne_true
  | bl i =>
    cases rx
    cases y with
    | non => cases ry; exact PySem.EqNone.ne_bool_none (fin_bl I q (by simp))
    | bl j => cases ry; exact ne_bool (fin_bl I q (congrArg not dec_bl))
    | str j => obtain ⟨t', rfl⟩ := ry; exact PySem.EqMixed.ne_bool_str (fin_bl I q (by simp))
    | _ => exact absurd (show false = true from hs) Bool.false_ne_true
  | int i =>
    obtain ⟨t, rfl⟩ := rx
    cases y with
    | non => cases ry; exact PySem.EqNone.ne_int_none (fin_bl I q (by simp))
    | int j => obtain ⟨t', rfl⟩ := ry; exact ne_int (fin_bl I q (congrArg not dec_int))
    | str j => obtain ⟨t', rfl⟩ := ry; exact PySem.EqMixed.ne_int_str (fin_bl I q (by simp))
    | _ => exact absurd (show false = true from hs) Bool.false_ne_true
  | str i =>
    obtain ⟨t, rfl⟩ := rx
    cases y with
    | non => cases ry; exact PySem.EqNone.ne_str_none (fin_bl I q (by simp))
    | bl j => cases ry; exact PySem.EqMixed.ne_str_bool (fin_bl I q (by simp))
    | int j => obtain ⟨t', rfl⟩ := ry; exact PySem.EqMixed.ne_str_int (fin_bl I q (by simp))
    | str j => obtain ⟨t', rfl⟩ := ry; exact ne_str (fin_bl I q (congrArg not dec_str))
    | _ => exact absurd (show false = true from hs) Bool.false_ne_true
  | byt i =>
    obtain ⟨t, rfl⟩ := rx
    cases y with
    | byt j => obtain ⟨t', rfl⟩ := ry; exact PySem.W.ne_bytes (fin_bl I q (congrArg not dec_byt))
    | _ => exact absurd (show false = true from hs) Bool.false_ne_true
  | _ => cases y <;> exact absurd (show false = true from hs) Bool.false_ne_true

theorem op_lt : OpR X (compareOp .Lt) (rI0 fun i j => .bl (decide (i < j))) := opB0 fun _ _ _ _ _ _ _ q => lt_int q
theorem op_le : OpR X (compareOp .LtE) (rI0 fun i j => .bl (decide (i ≤ j))) := opB0 fun _ _ _ _ _ _ _ q => le_int q
theorem op_gt : OpR X (compareOp .Gt) (rI0 fun i j => .bl (decide (j < i))) := opB0 fun _ _ _ _ _ _ _ q => gt_int q
theorem op_ge : OpR X (compareOp .GtE) (rI0 fun i j => .bl (decide (j ≤ i))) := opB0 fun _ _ _ _ _ _ _ q => ge_int q
theorem OpR.or {f : Value → Value → Sem Value} {r r' : R2} (h : OpR X f r) (h' : OpR X f r') : OpR X f (fun x y H Q => r x y H Q ∨ r' x y H Q) := by
  intro pins s σ H x y v u Q I rx ry q
  rcases q with q | q
  · exact h pins s σ H x y v u Q I rx ry q
  · exact h' pins s σ H x y v u Q I rx ry q

theorem nomark (b : Expr) {op : CmpOp} (h : op ≠ .In := by decide) (h2 : op ≠ .NotIn := by decide) : behindInMarks op b = false := by
  have e1 : (op == CmpOp.In) = false := by cases op <;> first | rfl | exact absurd rfl h
  have e2 : (op == CmpOp.NotIn) = false := by cases op <;> first | rfl | exact absurd rfl h2
  cases b <;> simp [behindInMarks, e1, e2]
theorem pe_cmpR {op : CmpOp} {r : R2} (ho : OpR X (compareOp op) r) (ha : PE X a ta) (hb : PE X b tb) (hm : behindInMarks op b = false) : PE X (.Compare a [op] [b] pos) (tOp r ta tb) := by
  intro pins s σ H Q I h
  exact wpAny_Compare1 (binT ha hb I h fun v u s2 x y H2 I2 rx ry q => ho pins s2 σ H2 x y v u Q I2 rx ry q) hm
def tTest (t : TE) : TT := fun σ H Q => t σ H fun x H' => ∃ k, x = .bl k ∧ Q k H'
theorem pt_cmpR {op : CmpOp} {r : R2} (ho : OpR X (compareOp op) r) (ha : PE X a ta) (hb : PE X b tb) (hm : behindInMarks op b = false) : PT X (.Compare a [op] [b] pos) (tTest (tOp r ta tb)) := by
  intro pins s σ H Q I h
  refine wpAny_isTrue_Compare1 (thn (ha pins s σ H _ I h) fun v s1 ⟨x, H1, I1, r1, q1⟩ => thn (hb pins s1 σ H1 _ I1 q1) fun u s2 ⟨y, H2, I2, r2, q2⟩ =>
    thn (ho pins s2 σ H2 x y v u _ I2 r1 r2 q2) fun c s3 ⟨z, H3, I3, r3, k, e, q3⟩ => ?_) hm
  subst e
  cases r3
  exact wpAny_truthy_bool ⟨H3, I3, q3⟩
def tChain (r r' : R2) (ta tb tc : TE) : TE := fun σ H Q => ta σ H fun x H1 => tb σ H1 fun y H2 => r x y H2 fun z H3 => ∃ k, z = .bl k ∧
  (if k = true then tc σ H3 fun w' H4 => r' y w' H4 Q else Q (.bl false) H3)
def TruV (K : PySem.W.Frag) (x : V) (H : Hp) (k : Bool) : Prop :=
  match x with
  | .non => k = false
  | .bl b => k = b
  | .int i => k = (i != 0)
  | .str y => y.length ≤ sizeLine ∧ k = ((y.length : Int) != 0)
  | .byt y => y.size ≤ sizeLine ∧ k = ((y.size : Int) != 0)
  | .ref p => (∃ xs, SqL K H p xs ∧ k = !xs.isEmpty) ∨ (∃ xs, SqT K H p xs ∧ k = !xs.isEmpty) ∨ ∃ kvs, H p = some (.dK kvs) ∧ k = !kvs.isEmpty
  | _ => False
theorem isEmpty_kv {κ : Type} {kvs : List (κ × V)} {vs : List (κ × Value)} (r : KV kvs vs) : (!vs.isEmpty) = !kvs.isEmpty := by
  cases r <;> rfl
theorem isEmpty_of {xs : List V} {its : List Value} (r : Vals xs its) : (!its.toArray.isEmpty) = !xs.isEmpty := by
  cases r <;> simp
theorem line63 : (sizeLine : Nat) < 2 ^ 63 := by rw [sizeLine_eq]; decide
theorem tru_ok : TruR X (fun x H Q => ∃ k, TruV X.K x H k ∧ Q k H) := by
  intro pins s σ H x v Q I rx h
  obtain ⟨k, e, q⟩ := h
  have hl := line63
  have hs : sizeLine = 16777216 := sizeLine_eq
  cases x with
  | non =>
    cases rx
    have e' : k = false := e
    subst e'
    exact truthy_none ⟨H, I, q⟩
  | bl b =>
    cases rx
    have e' : k = b := e
    subst e'
    exact wpAny_truthy_bool ⟨H, I, q⟩
  | int i =>
    obtain ⟨t, rfl⟩ := rx
    have e' : k = (i != 0) := e
    subst e'
    exact PySem.P.truthy_int ⟨H, I, q⟩
  | str y =>
    obtain ⟨t, rfl⟩ := rx
    obtain ⟨hy, e'⟩ : y.length ≤ sizeLine ∧ k = ((y.length : Int) != 0) := e
    subst e'
    exact PySem.P.truthy_str (by omega) ⟨H, I.tok _, q⟩
  | byt y =>
    obtain ⟨t, rfl⟩ := rx
    obtain ⟨hy, e'⟩ : y.size ≤ sizeLine ∧ k = ((y.size : Int) != 0) := e
    subst e'
    exact PySem.W.truthy_bytes (by omega) ⟨H, I.tok _, q⟩
  | ref p =>
    cases rx
    have e' : (∃ xs, SqL X.K H p xs ∧ k = !xs.isEmpty) ∨ (∃ xs, SqT X.K H p xs ∧ k = !xs.isEmpty) ∨ ∃ kvs, H p = some (.dK kvs) ∧ k = !kvs.isEmpty := e
    rcases e' with ⟨xs, hx, e'⟩ | ⟨xs, hx, e'⟩ | ⟨kvs, hx, e'⟩
    · subst e'
      obtain ⟨its, r, pl, hz⟩ := I.list hx
      have hlen := r.length
      exact wpAny_truthy_list pl.isList (by simp only [List.size_toArray]; omega) ⟨H, I.tok _, by rw [isEmpty_of r]; exact q⟩
    · subst e'
      obtain ⟨its, r, pl, hz⟩ := I.tuple hx
      have hlen := r.length
      exact truthy_tuple pl (by simp only [List.size_toArray]; omega) ⟨H, I.tok _, by rw [isEmpty_of r]; exact q⟩
    · subst e'
      obtain ⟨hz, hS, vs, r, m⟩ : kvs.length ≤ sizeLine ∧ (p == sysModules) = false ∧ ∃ vs, KV kvs vs ∧ s.heap.DictOf (mixKind X.prog X.w) p vs := I.hok p _ hx
      have hlen : kvs.length = vs.length := Paired.length r
      exact wpAny_truthy_dict hS m (by omega) ⟨H, I.tok _, by rw [isEmpty_kv r]; exact q⟩
  | _ => exact (show False from e).elim
theorem pt_truth (ha : PE X a ta) (he : ∀ whole, isTrue a X.env whole = (do let v ← whole; standAt a.pos; holding [v] (truthy v))) :
    PT X a (fun σ H Q => ta σ H fun x H' => ∃ k, TruV X.K x H' k ∧ Q k H') := by
  intro pins s σ H Q I h
  exact isTrue_plain (thn (ha pins s σ H _ I h) fun v s1 ⟨x, H1, I1, r1, q1⟩ => tru_ok pins s1 σ H1 x v Q I1 r1 q1) (he _)

theorem op_add_str : OpR X (binaryOp .Add) (fun x y H Q => ∃ i j, x = .str i ∧ y = .str j ∧ i.length + j.length ≤ sizeLine ∧ Q (.str (i ++ j)) H) := by
  intro pins s σ H x y v u Q I rx ry h
  obtain ⟨i, j, rfl, rfl, hz, q⟩ := h
  obtain ⟨t, rfl⟩ := rx
  obtain ⟨t', rfl⟩ := ry
  exact add_str (fun t' tk => ⟨.str (i ++ j), H, I.tok _, ⟨_, rfl⟩, q⟩) hz
theorem vals1 {x : V} {us : List Value} (r : Vals [x] us) : ∃ u, us = [u] ∧ RelV x u := by
  cases r with
  | cons r1 r2 => cases r2; exact ⟨_, rfl, r1⟩
theorem vals2 {x y : V} {us : List Value} (r : Vals [x, y] us) : ∃ u w', us = [u, w'] ∧ RelV x u ∧ RelV y w' := by
  cases r with
  | cons r1 r2 =>
    cases r2 with
    | cons r3 r4 => cases r4; exact ⟨_, _, rfl, r1, r3⟩
theorem call_min2 (hc : X.calm = true) : CallR X (.builtin "min") (fun xs H Q => ∃ i j, xs = [.int i, .int j] ∧ Q (.int (if j < i then j else i)) H) := by
  intro pins s σ H xs us Q I r h
  obtain ⟨i, j, rfl, q⟩ := h
  obtain ⟨u, w', rfl, ⟨t, rfl⟩, ⟨t', rfl⟩⟩ := vals2 r
  refine min_two_ints (I.ok.hd hc) fun h' tk k => ⟨_, H, I.kept k, ?_, q⟩
  by_cases hj : j < i
  · rw [if_pos hj, if_pos hj]; exact ⟨_, rfl⟩
  · rw [if_neg hj, if_neg hj]; exact ⟨_, rfl⟩
theorem call_int1 : CallR X (.type "int") (fun xs H Q => (∃ i, xs = [.int i] ∧ Q (.int i) H) ∨ ∃ k, xs = [.bl k] ∧ Q (.int (if k then 1 else 0)) H) := by
  intro pins s σ H xs us Q I r h
  rcases h with ⟨i, rfl, q⟩ | ⟨k, rfl, q⟩
  · obtain ⟨u, rfl, t, rfl⟩ := vals1 r
    exact call_int_int ⟨.int i, H, I, ⟨_, rfl⟩, q⟩
  · obtain ⟨u, rfl, r1⟩ := vals1 r
    cases r1
    exact call_int_bool ⟨.int (if k then 1 else 0), H, I.tok _, ⟨_, rfl⟩, q⟩
def LenV (K : PySem.W.Frag) (x : V) (H : Hp) (n : Nat) : Prop :=
  match x with
  | .str y => y.length ≤ sizeLine ∧ n = y.length
  | .byt y => y.size ≤ sizeLine ∧ n = y.size
  | .ref p => (∃ xs, SqL K H p xs ∧ n = xs.length) ∨ ∃ xs, SqT K H p xs ∧ n = xs.length
  | _ => False
theorem call_len : CallR X (.builtin "len") (fun xs H Q => ∃ x n, xs = [x] ∧ LenV X.K x H n ∧ Q (.int n) H) := by
  intro pins s σ H xs us Q I r h
  obtain ⟨x, n, rfl, e, q⟩ := h
  obtain ⟨u, rfl, rx⟩ := vals1 r
  have hl := line63
  have hs : sizeLine = 16777216 := sizeLine_eq
  cases x with
  | str y =>
    obtain ⟨t, rfl⟩ := rx
    obtain ⟨hy, e'⟩ : y.length ≤ sizeLine ∧ n = y.length := e
    subst e'
    exact len_str (by omega) ⟨.int _, H, I.tok _, ⟨_, rfl⟩, q⟩
  | byt y =>
    obtain ⟨t, rfl⟩ := rx
    obtain ⟨hy, e'⟩ : y.size ≤ sizeLine ∧ n = y.size := e
    subst e'
    exact PySem.W.len_bytes (by omega) ⟨.int _, H, I.tok _, ⟨_, rfl⟩, q⟩
  | ref p =>
    cases rx
    have e' : (∃ xs, SqL X.K H p xs ∧ n = xs.length) ∨ ∃ xs, SqT X.K H p xs ∧ n = xs.length := e
    rcases e' with ⟨xs, hx, e'⟩ | ⟨xs, hx, e'⟩
    · subst e'
      obtain ⟨its, r', pl, hz⟩ := I.list hx
      have hlen := r'.length
      exact Calls.call_len_list pl.isList (by simp only [List.size_toArray]; omega) ⟨.int xs.length, H, I.tok _, ⟨_, by simp only [List.size_toArray]; rw [hlen]⟩, q⟩
    · subst e'
      obtain ⟨its, r', pl, hz⟩ := I.tuple hx
      have hlen := r'.length
      exact len_tuple pl (by simp only [List.size_toArray]; omega) ⟨.int xs.length, H, I.tok _, ⟨_, by simp only [List.size_toArray]; rw [hlen]⟩, q⟩
  | _ => exact (show False from e).elim
end
end L2

namespace L2
open PySem PySem.Spec PyProof.Rows

structure ObjM (h : Heap) (x dx C : Addr) (mA : Str → Option Value) : Prop where
  obj : h.get? x = some (PySem.W.instObj C dx)
  ns : h.Ns1 dx mA
  ne : dx ≠ x

theorem lookIn_ns {h : Heap} {dx : Addr} {mA : Str → Option Value} (n : h.Ns1 dx mA) : ∃ od, h.get? dx = some od ∧ ∀ name, PySem.W.lookIn name od = some (mA name) := by
  obtain ⟨o, es, ep, ho, hd, hk, _, hm⟩ := n
  refine ⟨o, ho, fun name => ?_⟩
  have e := hm name
  unfold nsFind findBy at e
  rw [← Array.find?_toList] at e
  unfold PySem.W.lookIn
  rw [hd]
  dsimp only
  split
  · rename_i y q
    rw [q] at e
    exact congrArg some e
  · rename_i q
    rw [q] at e
    have a : es.toList.any (·.refKey) = false := by
      rw [List.any_eq_false]
      intro y hy
      obtain ⟨z, t, hkey⟩ := hk y (Array.mem_toList_iff.mp hy)
      simp [DictEntry.refKey, hkey]
    have a' : ¬ es.toList.any (·.refKey) = true := by rw [a]; exact Bool.false_ne_true
    rw [if_neg a']
    exact congrArg some e

theorem ObjM.look {h : Heap} {x dx C : Addr} {mA : Str → Option Value} (I : ObjM h x dx C mA) : ∃ od, PySem.W.InstAt h x (PySem.W.instObj C dx) C (some od) ∧ ∀ name, PySem.W.lookIn name od = some (mA name) :=
  let ⟨od, ho, hl⟩ := lookIn_ns I.ns
  ⟨od, ⟨I.obj, rfl, rfl, ho⟩, hl⟩

section
variable {prog : Program} {w : World} {A : Around} {E : Value → Shared → Prop} {s : Shared} {K : PySem.W.Frag} {x dx C f : Addr} {mA : Str → Option Value} {name : Str} {v : Value}

end

def putF (f : Str) (v : V) : List (Str × V) → List (Str × V)
  | [] => [(f, v)]
  | (g, x) :: r => if g = f then (g, v) :: r else (g, x) :: putF f v r
theorem RelO.some_of {v : V} {o : Option Value} (r : RelO (some v) o) : ∃ u, o = some u ∧ RelV v u := by
  cases o with
  | none => exact (show False from r).elim
  | some u => exact ⟨u, rfl, r⟩
section
variable {P : Program} {w : World} {H H' : Hp} {h h' : Heap} {a C dx : Addr} {fs fs' : List (Str × V)}
theorem ins_get (hok : HOk P w H h) (e : H a = some (.ins C dx fs)) : ∃ mA, ObjM h a dx C mA ∧ (∀ f, RelO (fs.lookup f) (mA f)) ∧ PySem.Within mA (fs.map (·.1)) ∧ fs.length ≤ 1000 ∧ H dx = some (.own a) := by
  obtain ⟨d, z, ne, ob, mA, n, r, q⟩ := (show ObjOk P w H h a (.ins C dx fs) from hok a _ e)
  exact ⟨mA, ⟨ob, n, ne⟩, r, q, z, d⟩
end

structure Cls (K : PySem.W.Frag) (C : Addr) : Prop where
  pg : PySem.W.plainGet K C Str.empty = true
  hd : PySem.W.hasDictIn K C = true
  po : PySem.W.plainOver K C = true
  sa : PySem.W.findIn K (.ref C) "__setattr__" = some (some (.builtin "object.__setattr__"))
theorem Cls.get {K : PySem.W.Frag} {C : Addr} (c : Cls K C) (f : Str) : PySem.W.plainGet K C f = true := c.pg
def NoAttr (K : PySem.W.Frag) (C : Addr) (f : Str) : Prop := PySem.W.findIn K (.ref C) f = some none
structure Con (K : PySem.W.Frag) (C : Addr) (f : Str) (v : V) (u : Value) : Prop where
  at_ : PySem.W.findIn K (.ref C) f = some (some u)
  rel : RelV v u
  get : PySem.W.specialIn K u "__get__" = some none
  cp : PySem.W.copiedNames.contains f = false
structure Meth (K : PySem.W.Frag) (C : Addr) (m : Str) (f : Addr) : Prop where
  at_ : PySem.W.findIn K (.ref C) m = some (some (.ref f))
  fn : PySem.W.isFn K (.ref f) = true
  kp : PySem.W.keepIn K (.ref f) = true

section
variable {X : Cx} {pins : List (Addr × Obj)} {σ : St} {H : Hp} {s : Shared} {a C dx : Addr} {fs : List (Str × V)} {f : Str} {v : V} {A : Around} {E : Value → Shared → Prop}

theorem Inv.made (I : Inv X pins σ H s) : Inv X pins σ (upd (upd H s.heap.objs.size (.own (s.heap.objs.size + 1))) (s.heap.objs.size + 1) (.ins C s.heap.objs.size []))
    { s with heap := (s.heap.push PySem.W.emptyDict).push (PySem.W.instObj C s.heap.objs.size) } := by
  have e1 : (s.heap.push PySem.W.emptyDict).get? s.heap.objs.size = some PySem.W.emptyDict := Heap.get?_push_size s.heap rfl
  have e2 : ((s.heap.push PySem.W.emptyDict).push (PySem.W.instObj C s.heap.objs.size)).get? (s.heap.objs.size + 1) = some (PySem.W.instObj C s.heap.objs.size) := by
    have := Heap.get?_push_size (s.heap.push PySem.W.emptyDict) (o := PySem.W.instObj C s.heap.objs.size) rfl
    rwa [Heap.size_push] at this
  have e3 : (s.heap.push PySem.W.emptyDict).Ns s.heap.objs.size (fun _ => none) := ⟨PySem.W.emptyDict, #[], _, e1, rfl, (fun e he => absurd he (by simp)), fun _ => rfl⟩
  have I1 := I.laid (a := s.heap.objs.size) (o := .own (s.heap.objs.size + 1)) (h' := s.heap.push PySem.W.emptyDict) (t' := s.toks) (fun b u q => Heap.get?_push_of_some _ q) (Nat.le_refl _) ⟨_, e1⟩
  refine I1.laid (a := s.heap.objs.size + 1) (o := .ins C s.heap.objs.size []) (t' := s.toks) (fun b u q => Heap.get?_push_of_some _ q) (Nat.le_of_eq (Heap.size_push _ _)) ?_
  have ne : s.heap.objs.size ≠ s.heap.objs.size + 1 := Nat.ne_of_lt (Nat.lt_succ_self _)
  refine ⟨by rw [upd_ne ne, upd_same], Nat.zero_le _, ne, e2, fun _ => none, (Heap.Ns1.of_empty e3).at fun o q => Heap.get?_push_of_some _ q, fun _ => True.intro, fun y hy => absurd rfl hy⟩

end

def tFld (K : PySem.W.Frag) (ta : TE) (f : Str) : TE := fun σ H Q => ta σ H fun x H1 => ∃ a C dx fs v, x = .ref a ∧ H1 a = some (.ins C dx fs) ∧ Cls K C ∧ NoAttr K C f ∧ fs.lookup f = some v ∧ Q v H1
def sFld (K : PySem.W.Frag) (ta tv : TE) (f : Str) : TS := fun D σ H => tv σ H fun y H1 => ta σ H1 fun x H2 => ∃ a C dx fs, x = .ref a ∧ H2 a = some (.ins C dx fs) ∧ Cls K C ∧ NoAttr K C f ∧ fs.length < 1000 ∧
  D.nx σ (upd H2 a (.ins C dx (putF f y fs)))
section
variable {X : Cx} {o e value : Expr} {f : Str} {pos pos' tpos : Pos} {ta tv : TE}
end

section
variable {X : Cx} {pins : List (Addr × Obj)} {σ : St} {H : Hp} {s : Shared} {A : Around} {E : Value → Shared → Prop} {Q : Value → Shared → Prop} {c : Value} {b : Bool}
inductive TyOf (K : PySem.W.Frag) (H : Hp) : V → Value → Prop where
  | non : TyOf K H .non (.type "NoneType")
  | bl (x : Bool) : TyOf K H (.bl x) (.type "bool")
  | int (i : Int) : TyOf K H (.int i) (.type "int")
  | str (x : Str) : TyOf K H (.str x) (.type "str")
  | flt (x : UInt64) : TyOf K H (.flt x) (.type "float")
  | lst {a : Addr} {xs : List V} (e : H a = some (.lst xs)) : TyOf K H (.ref a) (.type "list")
  | frz {a : Addr} {o : Obj} {xs : List V} (e : H a = some (.frz o (.lst xs))) : TyOf K H (.ref a) (.type "list")
  | tup {a : Addr} {xs : List V} (e : H a = some (.tup xs)) : TyOf K H (.ref a) (.type "tuple")
  | dK {a : Addr} {kvs : List (Key × V)} (e : H a = some (.dK kvs)) : TyOf K H (.ref a) (.type "dict")
  | dT {a : Addr} {kvs : List (List Key × V)} (e : H a = some (.dT kvs)) : TyOf K H (.ref a) (.type "dict")
  | ins {a C dx : Addr} {fs : List (Str × V)} (e : H a = some (.ins C dx fs)) (cl : Cls K C) (ha : PySem.W.findIn K (.ref C) "__class__" = some (some (.builtin "object.__class__")))
      (hn : PySem.W.specialIn K (.builtin "object.__class__") "__get__" = some (some (.builtin "getset_descriptor.__get__"))) (htk : PySem.W.takesIn K (.builtin "object.__class__") = some true)
      (hm : PySem.W.mroIn K C (.type "object") = some true) : TyOf K H (.ref a) (.ref C)
theorem isinst_ok {x : V} {u t : Value} (I : Inv X pins σ H s) (rx : RelV x u) (ty : TyOf X.K H x t) (e : PySem.W.kitOne X.K t c = some b) (h : ∀ tk, Q (.bool b) { s with toks := tk }) :
    wpAny (model X.prog X.w) A (call (.builtin "isinstance") [u, c]) Q E s := by
  cases ty with
  | non => cases (show u = Value.none from rx); exact PySem.W.kia_one PySem.W.kitx_none I.kIn True.intro e (fun z => nomatch z) h
  | bl y => cases (show u = Value.bool y from rx); exact PySem.W.kia_one PySem.W.kitx_bool I.kIn True.intro e (fun z => nomatch z) h
  | int i => obtain ⟨t, q⟩ := (show ∃ t, u = Value.int i t from rx); cases q; exact PySem.W.kia_one PySem.W.kitx_int I.kIn True.intro e (fun z => nomatch z) h
  | str y => obtain ⟨t, q⟩ := (show ∃ t, u = Value.str y t from rx); cases q; exact PySem.W.kia_one PySem.W.kitx_str I.kIn True.intro e (fun z => nomatch z) h
  | flt y => obtain ⟨t, q⟩ := (show ∃ t, u = Value.float y t from rx); cases q; exact PySem.W.kia_one PySem.W.kitx_float I.kIn True.intro e (fun z => nomatch z) h
  | @lst a xs ea =>
    cases (show u = Value.ref a from rx)
    obtain ⟨_, _, n, _, h1⟩ := (show ObjOk X.prog X.w H s.heap a (.lst xs) from I.hok a _ ea)
    exact PySem.W.kia_one PySem.W.kitx_list I.kIn ⟨_, h1, rfl⟩ e (fun z => nomatch z) h
  | @frz a ob xs ea =>
    cases (show u = Value.ref a from rx)
    obtain ⟨_, _, _, n, _, h1⟩ := (show ObjOk X.prog X.w H s.heap a (.frz ob (.lst xs)) from I.hok a _ ea)
    exact PySem.W.kia_one PySem.W.kitx_list I.kIn ⟨_, h1, rfl⟩ e (fun z => nomatch z) h
  | @tup a xs ea =>
    cases (show u = Value.ref a from rx)
    obtain ⟨_, _, _, p⟩ := (show ObjOk X.prog X.w H s.heap a (.tup xs) from I.hok a _ ea)
    obtain ⟨o, h1, h2, _⟩ := p
    exact PySem.W.kia_one PySem.W.kitx_tuple I.kIn ⟨o, h1, h2⟩ e (fun z => nomatch z) h
  | @dK a kvs ea =>
    cases (show u = Value.ref a from rx)
    obtain ⟨_, _, vs, _, p⟩ := (show ObjOk X.prog X.w H s.heap a (.dK kvs) from I.hok a _ ea)
    obtain ⟨o, es, ep, h1, h2, _⟩ := p
    exact PySem.W.kia_one PySem.W.kitx_dict I.kIn ⟨o, h1, h2.1⟩ e (fun z => nomatch z) h
  | @dT a kvs ea =>
    cases (show u = Value.ref a from rx)
    obtain ⟨_, _, xs, _, o, es, ep, h1, h2, _⟩ := (show ObjOk X.prog X.w H s.heap a (.dT kvs) from I.hok a _ ea)
    exact PySem.W.kia_one PySem.W.kitx_dict I.kIn ⟨o, h1, h2.1⟩ e (fun z => nomatch z) h
  | @ins a C dx fs ea cl ha hn htk hm =>
    cases (show u = Value.ref a from rx)
    obtain ⟨mA, O, _⟩ := ins_get I.hok ea
    obtain ⟨od, J, _⟩ := O.look
    exact PySem.W.kia_one (PySem.W.kitx_own (cl.get _) cl.hd ha hn htk hm) I.kIn J e (fun z => nomatch z) h
end
end L2

namespace L2
open PySem PySem.Spec PyProof.Rows

structure Room (k : Nat) (A : Around) : Prop where
  hd : A.handled = none
  dp : A.depth + 3 * k + 5 < recursionLimit
  un : A.units + 16 * k + 200 < cLine
theorem Room.mono {j k : Nat} {A : Around} (r : Room k A) (h : j ≤ k) : Room j A := ⟨r.hd, by have := r.dp; omega, by have := r.un; omega⟩
theorem Room.deeper {k : Nat} {A : Around} (r : Room (k + 1) A) (env : Env) : Room k (A.deeper env) :=
  ⟨r.hd, by have := r.dp; show A.depth + 1 + 3 * k + 5 < _; omega, by have := r.un; show A.units + 3 + 16 * k + 200 < _; omega⟩
theorem Room.in1 {k : Nat} {A : Around} (r : Room (k + 1) A) : Room k A.in1 :=
  ⟨r.hd, by have := r.dp; show A.depth + 3 * k + 5 < _; omega, by have := r.un; show A.units + 1 + 16 * k + 200 < _; omega⟩
theorem Room.depth {k : Nat} {A : Around} (r : Room k A) : A.depth < recursionLimit := by have := r.dp; omega
theorem Room.units {k : Nat} {A : Around} (r : Room k A) : A.units + 64 < cLine := by have := r.un; omega
def tNil : TA := fun _ H Q => Q [] H
def tCons (ta : TE) (tr : TA) : TA := fun σ H Q => ta σ H fun x H1 => tr σ H1 fun xs H2 => Q (x :: xs) H2
section
variable {X : Cx} {e : Expr} {es : List Expr} {te : TE} {t : TA} {pos : Pos}
theorem pa_nil : PA X [] tNil := fun _ _ _ _ H Q I h => Calls.spliced_nil ⟨[], H, I, .nil, h⟩
theorem pa_cons (ha : PE X e te) (hr : PA X es t) (hs : starEach (e :: es) X.env = (false, eval e X.env) :: starEach es X.env := by rfl) : PA X (e :: es) (tCons te t) := by
  intro pos pins s σ H Q I h
  rw [hs]
  show wpAny _ _ (spliced ((false, eval e X.env) :: backTo pos (starEach es X.env))) _ _ s
  refine Calls.spliced_cons (thn (ha pins s σ H _ I h) fun u s1 ⟨x, H1, I1, r1, q1⟩ => ?_)
  exact thn (hr pos pins s1 σ H1 _ I1 q1) fun us s2 ⟨xs, H2, I2, r2, q2⟩ => ⟨x :: xs, H2, I2, .cons r1 r2, q2⟩

def tTup (t : TA) : TE := fun σ H Q => t σ H fun xs H1 => xs.length ≤ sizeLine ∧ ∀ p, H1 p = none → Q (.ref p) (upd H1 p (.tup xs))
def tLst (t : TA) : TE := fun σ H Q => t σ H fun xs H1 => xs.length ≤ sizeLine ∧ ∀ p, H1 p = none → Q (.ref p) (upd H1 p (.lst xs))
theorem pe_tup {x1} (h : PA X es t) : PE X (.Tuple es x1 pos) (tTup t) := by
  intro pins s σ H Q I hq
  refine wpAny_Tuple_spliced (thn (h pos pins s σ H _ I hq) fun us s1 ⟨xs, H1, I1, r, z, q⟩ => ⟨by rw [← r.length]; exact z, ?_⟩)
  have hf : H1 s1.heap.objs.size = none := I1.hok.fresh (Nat.le_refl _)
  refine ⟨.ref s1.heap.objs.size, upd H1 s1.heap.objs.size (.tup xs), I1.laid (t' := s1.toks) (fun b u e => Heap.get?_push_of_some _ e) (Nat.le_refl _) ?_, rfl, q _ hf⟩
  exact ⟨z, us, r, ⟨_, Heap.get?_push_size _ rfl, rfl, _, rfl⟩⟩
theorem pe_lst (h : PA X es t) : PE X (.List es pos) (tLst t) := by
  intro pins s σ H Q I hq
  refine wpAny_List_spliced (thn (h pos pins s σ H _ I hq) fun us s1 ⟨xs, H1, I1, r, z, q⟩ => ⟨by rw [← r.length]; exact z, ?_⟩)
  have hf : H1 s1.heap.objs.size = none := I1.hok.fresh (Nat.le_refl _)
  refine ⟨.ref s1.heap.objs.size, upd H1 s1.heap.objs.size (.lst xs), I1.laid (t' := s1.toks) (fun b u e => Heap.get?_push_of_some _ e) (Nat.le_refl _) ?_, rfl, q _ hf⟩
  exact ⟨z, us, 0, r, Heap.get?_push_size _ rfl⟩
end

abbrev Sp := List V → Hp → VK → XK → Prop
abbrev CXT := List Env → Hp → Shared → XK → Value → Shared → Prop

structure Env0 (P : Program) (w : World) (K : PySem.W.Frag) (mg : Str → Option Value) (base : Heap) (A : Around) (outer : List Env) (s : Shared) (H : Hp) : Prop where
  frames : A.frames = some outer
  mod : Mod K mg base
  bs : ∀ b o, base.get? b = some o → s.heap.get? b = some o ∧ H b = none
  bsz : base.objs.size ≤ s.heap.objs.size
  funs : s.heap.FunFrames base outer
  frf : ∀ b ∈ frs outer, H b = none
  hok : HOk P w H s.heap
  bare : AllBare s.gens
def CE (outer : List Env) (P : Program) (w : World) (H : Hp) (s : Shared) (Q : VK) (u : Value) (s' : Shared) : Prop :=
  ∃ v H', s'.os = s.os ∧ AllBare s'.gens ∧ Un (frs outer) [] H H' s.heap s'.heap ∧ HOk P w H' s'.heap ∧ RelV v u ∧ Q v H'
def CR (CX : CXT) (outer : List Env) (P : Program) (w : World) (H : Hp) (s : Shared) (Q : VK) (E : XK) (r : Result) (s' : Shared) : Prop :=
  match r with
  | .ok (.ret u) => CE outer P w H s Q u s'
  | .ok _ => False
  | .error e => CX outer H s E e s'
structure FnOk (P : Program) (w : World) (K : PySem.W.Frag) (mg : Str → Option Value) (base : Heap) (CX : CXT) (k : Nat) (f : Addr) (fd : FuncData) (ps : List Str) (sp : Sp) : Prop where
  len : ∀ vs H Q E, sp vs H Q E → vs.length = ps.length
  run : ∀ (A : Around) (outer : List Env) (s : Shared) (H : Hp) (args : Args) (us : List Value) (vs : List V) (Q : VK) (E : XK), Room k A → Env0 P w K mg base A outer s H → BindsTo s fd args (ps.zip us) → Vals vs us → sp vs H Q E →
    codeAny (model P w) A (.call (.ref f) args) (CR CX outer P w H s Q E) s
theorem FnOk.mono {P : Program} {w : World} {K : PySem.W.Frag} {mg : Str → Option Value} {base : Heap} {CX : CXT} {j k : Nat} {f : Addr} {fd : FuncData} {ps : List Str} {sp : Sp} (F : FnOk P w K mg base CX j f fd ps sp) (h : j ≤ k) :
    FnOk P w K mg base CX k f fd ps sp := ⟨F.len, fun A outer s H args us vs Q E hr => F.run A outer s H args us vs Q E (hr.mono h)⟩
theorem FnOk.imp {P : Program} {w : World} {K : PySem.W.Frag} {mg : Str → Option Value} {base : Heap} {CX : CXT} {k : Nat} {f : Addr} {fd : FuncData} {ps : List Str} {sp sp' : Sp} (F : FnOk P w K mg base CX k f fd ps sp)
    (h : ∀ vs H Q E, sp' vs H Q E → sp vs H Q E) : FnOk P w K mg base CX k f fd ps sp' :=
  ⟨fun vs H Q E q => F.len vs H Q E (h _ _ _ _ q), fun A outer s H args us vs Q E hr he hb hv hs => F.run A outer s H args us vs Q E hr he hb hv (h _ _ _ _ hs)⟩

theorem Env0.in1 {P : Program} {w : World} {K : PySem.W.Frag} {mg : Str → Option Value} {base : Heap} {A : Around} {outer : List Env} {s : Shared} {H : Hp} (e : Env0 P w K mg base A outer s H) :
    Env0 P w K mg base A.in1 outer s H := ⟨e.frames, e.mod, e.bs, e.bsz, e.funs, e.frf, e.hok, e.bare⟩

section
variable {X : Cx} {pins : List (Addr × Obj)} {σ : St} {H : Hp} {s s' : Shared}
theorem Inv.env0 (I : Inv X pins σ H s) : Env0 X.prog X.w X.K X.mg X.base X.A X.stack s H :=
  ⟨I.ok.frames, I.ok.mod, I.bs, Nat.le_trans I.ok.bsz I.sz, I.stack, I.stkFree, I.hok, I.bare⟩
theorem Inv.after {Q : VK} {u : Value} (I : Inv X pins σ H s) (h : CE X.stack X.prog X.w H s Q u s') : EP X pins σ Q u s' := by
  obtain ⟨v, H', os, bare, un, hok, r, q⟩ := h
  obtain ⟨hh, g, d, t, os'⟩ := s'
  obtain rfl : os' = s.os := os
  exact ⟨v, H', I.call (h' := hh) (g' := g) (d' := d) (t' := t) (ch := []) un hok bare (fun b z => absurd z (by simp)), r, q⟩
end

def tCall (sp : Sp) (dvs : List V) (E : XK) (t : TA) : TE := fun σ H Q => t σ H fun vs H1 => sp (vs ++ dvs) H1 Q E
def tMake (C : Addr) (sp : Sp) (dvs : List V) (E : XK) (t : TA) : TE := fun σ H Q => t σ H fun vs H1 => ∀ x dx, H1 x = none → H1 dx = none → dx ≠ x →
  sp (.ref x :: (vs ++ dvs)) (upd (upd H1 dx (.own x)) x (.ins C dx [])) (fun v H2 => v = .non ∧ Q (.ref x) H2) E

def Binds (K : PySem.W.Frag) (fd : FuncData) (ps : List Str) (ds : List Value) : Prop :=
  ∀ (s : Shared) (us : List Value), K.In s.heap → (us ++ ds).length = ps.length → BindsTo s fd ⟨us, []⟩ (ps.zip (us ++ ds))
theorem Binds.all {K : PySem.W.Frag} {fd : FuncData} {ps : List Str} (h : ∀ us : List Value, us.length = ps.length → bindArgs fd ⟨us, []⟩ = pure (ps.zip us)) : Binds K fd ps [] := fun s us _ hl => by
  rw [List.append_nil] at hl ⊢
  exact .of_eq (h us hl)

def Passes (CX : CXT) (X : Cx) (E : XK) : Prop := ∀ (pins : List (Addr × Obj)) (σ : St) (H : Hp) (s : Shared) (e : Value) (s' : Shared), Inv X pins σ H s → CX X.stack H s E e s' → X.xe e s'

section
variable {X : Cx} {CX : CXT} {k : Nat} {f C : Addr} {fd : FuncData} {ps : List Str} {sp : Sp} {dvs : List V} {ds : List Value} {E : XK} {x m : Str} {p pos apos : Pos} {e o : Expr} {es : List Expr} {ta : TE} {t : TA}

theorem run_fn {pins : List (Addr × Obj)} {σ : St} {H : Hp} {s : Shared} {Q : VK} {us : List Value} {vs : List V} (F : FnOk X.prog X.w X.K X.mg X.base CX k f fd ps sp) (hr : Room k X.A) (hb : Binds X.K fd ps ds) (hd : Vals dvs ds) (hx : Passes CX X E)
    (I : Inv X pins σ H s) (r : Vals vs us) (h : sp (vs ++ dvs) H Q E) : wpAny (model X.prog X.w) X.A (call (.ref f) us) (EP X pins σ Q) X.xe s := by
  have r2 : Vals (vs ++ dvs) (us ++ ds) := r.append hd
  have hl : (us ++ ds).length = ps.length := by rw [← r2.length]; exact F.len _ _ _ _ h
  refine wpAny_call (codeAny_mono (F.run X.A X.stack s H ⟨us, []⟩ (us ++ ds) (vs ++ dvs) Q E hr I.env0 (hb s us I.kIn hl) r2 h) fun r s' hq => ?_)
  cases r with
  | error e => exact hx pins σ H s e s' I hq
  | ok fl =>
    cases fl with
    | ret u => exact I.after hq
    | next => exact False.elim hq
    | brk => exact False.elim hq
    | cont => exact False.elim hq

theorem pe_call (F : FnOk X.prog X.w X.K X.mg X.base CX k f fd ps sp) (hr : Room k X.A) (hg : Gl X x) (hm : X.mg x = some (.ref f)) (hk : PySem.W.keepIn X.K (.ref f) = true) (hb : Binds X.K fd ps ds) (hd : Vals dvs ds) (hx : Passes CX X E)
    (ha : PA X (e :: es) t) (hdb : (x == ("__debug__" : Str)) = false := by decide) (he : starEach (e :: es) X.env = (false, eval e X.env) :: starEach es X.env := by rfl) (hpl : (backTo pos (starEach es X.env)).any (·.1) = false := by rfl) :
    PE X (.Call (.Name x p) (e :: es) [] pos) (tCall sp dvs E t) := by
  intro pins s σ H Q I h
  refine wpAny_Call_Name_kw (ld_glob I hg hm ?_ hdb)
  refine PySem.W.callWith_K (h₀ := X.base) I.ok.mod.kin hk (thn (ha pos pins s σ H _ I h) fun us s1 ⟨vs, H1, I1, r, q⟩ => ⟨I1.kIn, ?_⟩) he hpl
  exact run_fn F hr hb hd hx I1 r q
structure Mk (K : PySem.W.Frag) (C f : Addr) : Prop where
  makes : PySem.W.makesIn K C = true
  init : PySem.W.findIn K (.ref C) "__init__" = some (some (.ref f))
  fn : PySem.W.isFn K (.ref f) = true
  kp : PySem.W.keepIn K (.ref C) = true

end

section
variable {X : Cx} {CX : CXT} {k : Nat} {f C : Addr} {fd : FuncData} {ps ks : List Str} {sp : Sp} {E : XK} {x m : Str} {p pos apos kpos : Pos} {e o : Expr} {es : List Expr} {kws : List Keyword} {te ta : TE} {t tk : TA} {nm : Option Str}
structure KBinds (K : PySem.W.Frag) (fd : FuncData) (ps ks : List Str) (g : List Value → List Value → List Value) (gV : List V → List V → List V) : Prop where
  to : ∀ (s : Shared) (us ws : List Value), K.In s.heap → (g us ws).length = ps.length → BindsTo s fd ⟨us, ks.zip ws⟩ (ps.zip (g us ws))
  rel : ∀ {vs : List V} {us : List Value} {zs : List V} {ws : List Value}, Vals vs us → Vals zs ws → Vals (gV vs zs) (g us ws)
variable {g : List Value → List Value → List Value} {gV : List V → List V → List V}
end

structure FnScope (N P : List Str) (sc : Scope) : Prop where
  kind : sc.kind = .function
  co : sc.isCoroutine = false
  gen : sc.isGenerator = false
  nd : N.Nodup
  pre : N.take P.length = P
  par : ∀ x ∈ P, sc.names.lookup x = some .local ∨ sc.names.lookup x = some .cell
  nofree : ∀ y ∈ sc.names, y.2 ≠ .free

theorem bindL_out {kindOf : Str → Option NameKind} {x : Str} : ∀ {binds : List (Str × Value)} {m : Str → Option Value}, (∀ v, (x, v) ∉ binds) → bindL kindOf binds m x = m x
  | [], _, _ => rfl
  | (n, v) :: r, m, h => by
    unfold bindL
    rw [bindL_out fun w hw => h w (List.mem_cons_of_mem _ hw)]
    split
    · have : x ≠ n := by rintro rfl; exact h v List.mem_cons_self
      simp [this]
    · rfl
theorem bindC_out {kindOf : Str → Option NameKind} {x : Str} : ∀ {binds : List (Str × Value)} {m : Str → Option Value}, (∀ v, (x, v) ∉ binds) → bindC kindOf binds m x = m x
  | [], _, _ => rfl
  | (n, v) :: r, m, h => by
    unfold bindC
    rw [bindC_out fun w hw => h w (List.mem_cons_of_mem _ hw)]
    split
    · rfl
    · have : x ≠ n := by rintro rfl; exact h v List.mem_cons_self
      simp [this]
theorem bindL_get {kindOf : Str → Option NameKind} {x : Str} {v : Value} : ∀ {P : List Str} {vs : List Value} {i : Nat} {m : Str → Option Value}, P.Nodup → P[i]? = some x → vs[i]? = some v → kindOf x = some .local →
    bindL kindOf (P.zip vs) m x = some v
  | [], _, _, _, _, h, _, _ => by simp at h
  | _ :: _, [], _, _, _, _, h, _ => by simp at h
  | p :: P, w :: vs, 0, m, nd, h1, h2, hk => by
    simp at h1 h2; subst h1; subst h2
    show bindL kindOf ((p, w) :: P.zip vs) m p = _
    unfold bindL
    rw [bindL_out fun v hv => (List.nodup_cons.mp nd).1 (List.of_mem_zip hv).1, if_pos hk]
    simp
  | p :: P, w :: vs, i + 1, m, nd, h1, h2, hk => by
    show bindL kindOf ((p, w) :: P.zip vs) m x = _
    unfold bindL
    exact bindL_get (i := i) (List.nodup_cons.mp nd).2 (by simpa using h1) (by simpa using h2) hk
theorem bindC_get {kindOf : Str → Option NameKind} {x : Str} {v : Value} : ∀ {P : List Str} {vs : List Value} {i : Nat} {m : Str → Option Value}, P.Nodup → P[i]? = some x → vs[i]? = some v → kindOf x ≠ some .local →
    bindC kindOf (P.zip vs) m x = some v
  | [], _, _, _, _, h, _, _ => by simp at h
  | _ :: _, [], _, _, _, _, h, _ => by simp at h
  | p :: P, w :: vs, 0, m, nd, h1, h2, hk => by
    simp at h1 h2; subst h1; subst h2
    show bindC kindOf ((p, w) :: P.zip vs) m p = _
    unfold bindC
    rw [bindC_out fun v hv => (List.nodup_cons.mp nd).1 (List.of_mem_zip hv).1, if_neg hk]
    simp
  | p :: P, w :: vs, i + 1, m, nd, h1, h2, hk => by
    show bindC kindOf ((p, w) :: P.zip vs) m x = _
    unfold bindC
    exact bindC_get (i := i) (List.nodup_cons.mp nd).2 (by simpa using h1) (by simpa using h2) hk

def start (N : List Str) (vs : List V) : St := vs.map some ++ List.replicate (N.length - vs.length) none

def cxOf (CX : CXT) (P : Program) (w : World) (K : PySem.W.Frag) (mg : Str → Option Value) (base : Heap) (N : List Str) (qual : Str) (scope : Scope) (f : Addr) (cd : Value) (A : Around) (outer : List Env) (s : Shared) (H : Hp) (E : XK) : Cx where
  prog := P
  w := w
  K := K
  mg := mg
  base := base
  A := A.deeper (envOfC qual scope s.heap.objs.size f cd)
  N := N
  s₀ := s
  H₀ := H
  env := envOfC qual scope s.heap.objs.size f cd
  outer := outer
  stack := envOfC qual scope s.heap.objs.size f cd :: outer
  ex := []
  calm := true
  fn := fun _ => true
  pn := []
  xe := fun e s' => wpAny (model P w) (A.deeper (envOfC qual scope s.heap.objs.size f cd)) (leaving (envOfC qual scope s.heap.objs.size f cd) e) (fun _ s'' => CX outer H s E e s'') (fun e' s'' => CX outer H s E e' s'') s'

theorem cell_has {sc : Scope} {n : Nat} {x : Str} (h : sc.names.lookup x = some .cell) : ∃ c, (cellsFrom n sc.names []).lookup x = some c := by
  have q := PySem.W.cellsFrom_some sc.names n [] (.inl h)
  exact Option.isSome_iff_exists.mp q

theorem inv_start {CX : CXT} {P : Program} {w : World} {K : PySem.W.Frag} {mg : Str → Option Value} {base : Heap} {N ps : List Str} {qual : Str} {scope : Scope} {f : Addr} {cd : Value} {A : Around} {outer : List Env} {s s1 : Shared} {H : Hp} {E : XK} {us : List Value} {vs : List V}
    (S : FnScope N ps scope) (hd : A.handled = none) (e0 : Env0 P w K mg base A outer s H) (hl : vs.length = ps.length) (r : Vals vs us)
    (x : InCallC s s.heap.objs.size (bindL (envOfC qual scope s.heap.objs.size f cd).kindOf (ps.zip us) fun _ => none) (cellsFrom (s.heap.objs.size + 1) scope.names []) (bindC (envOfC qual scope s.heap.objs.size f cd).kindOf (ps.zip us) fun _ => none) s1) :
    Inv (cxOf CX P w K mg base N qual scope f cd A outer s H E) [] (start N vs) H s1 := by
  have hpl : ps.length ≤ N.length := by have := congrArg List.length S.pre; rw [List.length_take] at this; omega
  obtain ⟨h1, tk, rfl, hk⟩ := x.done
  have noA : ∀ b : Addr, b ∉ (cxOf CX P w K mg base N qual scope f cd A outer s H E).ex := fun b z => absurd (show b ∈ ([] : List Addr) from z) (by simp)
  refine ⟨⟨e0.mod, S.kind, rfl, rfl, Nat.le_refl _, fun y z c h1 h2 => ?_, fun y hy => ?_, fun y c _ h => ?_, fun _ => hd, Around.frames_deeper e0.frames, .inr ⟨rfl, rfl⟩, fun b z => absurd z (noA b), e0.bs, e0.bsz, fun b _ _ => noA b, fun b z => absurd z (noA b), e0.funs, e0.frf⟩,
    rfl, e0.bare, Un.kept hk, ⟨_, x.toInCall.ns, fun i y v h1 h2 h3 => ?_⟩, fun y c h => ⟨_, x.cell y c h⟩, e0.hok.fresh (Nat.le_refl _), fun y c h => ?_, fun p hp => absurd (show p ∈ ([] : List (Addr × Obj)) from hp) (by simp), e0.hok.kept hk, ?_⟩
  · exact name_of_addr x.apart (PySem.mem_of_lookup h1) (PySem.mem_of_lookup h2)
  · have hy : scope.names.lookup y = some .cell ∨ scope.names.lookup y = some .free := hy
    rcases hy with hy | hy
    · exact cell_has hy
    · exact absurd rfl (S.nofree _ (PySem.mem_of_lookup hy))
  · exact Nat.le_of_lt (x.above y c (PySem.mem_of_lookup h))
  · have hi : i < vs.length := by
      unfold start at h2
      by_cases hi : i < vs.length
      · exact hi
      · rw [List.getElem?_append_right (by simpa using hi)] at h2
        rw [List.getElem?_replicate] at h2
        split at h2 <;> cases h2
    have ha : vs[i]? = some v := by
      unfold start at h2
      rw [List.getElem?_append_left (by simpa using hi), List.getElem?_map] at h2
      cases e : vs[i]? with
      | none => rw [e] at h2; cases h2
      | some a => rw [e] at h2; cases h2; rfl
    obtain ⟨u, hu, rv⟩ := r.get ha
    have hp : ps[i]? = some y := by
      rw [← S.pre, List.getElem?_take_of_lt (by omega)]; exact h1
    have ndP : ps.Nodup := by rw [← S.pre]; exact S.nd.sublist (List.take_sublist _ _)
    refine ⟨u, rv, ?_⟩
    rcases S.par y (List.mem_of_getElem? hp) with k | k
    · exact .inl ⟨k, bindL_get ndP hp hu k⟩
    · obtain ⟨c, e⟩ := cell_has (n := s.heap.objs.size + 1) k
      refine .inr ⟨.inl k, c, e, ?_⟩
      have q := x.cell y c e
      rw [bindC_get ndP hp hu (by show scope.names.lookup y ≠ _; rw [k]; decide)] at q
      exact q
  · exact e0.hok.fresh (Nat.le_of_lt (x.above y c (PySem.mem_of_lookup h)))
  · unfold start
    show _ = N.length
    rw [List.length_append, List.length_map, List.length_replicate]
    omega

theorem fn_of {CX : CXT} {P : Program} {w : World} {K : PySem.W.Frag} {mg : Str → Option Value} {base : Heap} {k : Nat} {f : Addr} {name qual : Str} {params : Arguments} {body : List Stmt} {scope : Scope} {dV kV doc pm cdv ct oc : Value} {an od : Option Addr}
    {osl : Array (Option Value)} {N ps : List Str} {sp : Sp} (lk : K.lookup f = some ⟨oc, od, .func (PySem.W.fnOf name qual params body scope dV kV doc pm an cdv ct), osl⟩) (hcd : PySem.W.codeIn K cdv qual = true) (S : FnScope N ps scope)
    (len : ∀ vs H Q E, sp vs H Q E → vs.length = ps.length)
    (hbody : ∀ (A : Around) (outer : List Env) (s : Shared) (H : Hp) (vs : List V) (Q : VK) (E : XK), Room k (A.deeper (envOfC qual scope s.heap.objs.size f cdv)) → sp vs H Q E →
      ∃ t, PSs (cxOf CX P w K mg base N qual scope f cdv A outer s H E) body t ∧ t { nx := fun _ H' => Q .non H', rt := Q } (start N vs) H) :
    FnOk P w K mg base CX (k + 1) f (PySem.W.fnOf name qual params body scope dV kV doc pm an cdv ct) ps sp := by
  refine ⟨len, fun A outer s H args us vs Q E hr e0 hb r hsp => ?_⟩
  have hl := len _ _ _ _ hsp
  have KX : K.In s.heap := e0.mod.kin.keeps fun b o e => (e0.bs b o e).1
  have lim : s.heap.NoLimit := e0.mod.nolimit.keeps fun b o e => (e0.bs b o e).1
  have hkind : ∀ y ∈ ps.zip us, scope.names.lookup y.1 = some .local ∨ (scope.names.lookup y.1 = some .cell ∧ ((cellsFrom (s.heap.objs.size + 1) scope.names []).lookup y.1).isSome = true) := fun ⟨n, v⟩ hy => by
    rcases S.par n (List.of_mem_zip hy).1 with q | q
    · exact .inl q
    · exact .inr ⟨q, PySem.W.cellsFrom_some _ _ _ (.inl q)⟩
  refine codeAny_call_function hr.depth (KX _ _ lk) rfl S.co S.gen rfl (PySem.W.codeRec_of KX hcd) (hb _ _ _ _ ?_)
  refine wpAny_newFunctionEnv_cells S.kind hkind fun env he s1 x => ?_
  subst he
  refine ⟨lim.keeps x.toInCall.keep, codeAny_func ?_⟩
  obtain ⟨t, ht, hq⟩ := hbody A outer s H vs Q E (hr.deeper _) hsp
  have I : Inv (cxOf CX P w K mg base N qual scope f cdv A outer s H E) [] (start N vs) H s1 := inv_start S hr.hd e0 hl r x
  refine wpAny_mono (ht [] s1 (start N vs) H _ I hq) (fun fl s' hs => ?_) fun e s' hs => hs
  have fin : ∀ {σ' : St} {H' : Hp} {v : V} {u : Value}, Inv (cxOf CX P w K mg base N qual scope f cdv A outer s H E) [] σ' H' s' → RelV v u → Q v H' → CE outer P w H s Q u s' :=
    fun {σ' H' v u} J rv q => ⟨v, H', J.os, J.bare, J.base, J.hok, rv, q⟩
  cases fl with
  | ret u =>
    obtain ⟨v, σ', H', J, rv, q⟩ := hs
    exact fin J rv q
  | next =>
    obtain ⟨σ', H', J, q⟩ := hs
    exact fin (v := V.non) (u := Value.none) J rfl q
  | brk =>
    obtain ⟨_, _, _, q⟩ := hs
    exact False.elim q
  | cont =>
    obtain ⟨_, _, _, q⟩ := hs
    exact False.elim q
end L2

namespace L2
open PySem PySem.Spec PyProof.Rows
section
variable {X : Cx} {x : Str} {p pos : Pos} {e : Expr} {es : List Expr} {t : TA} {id T : String} {r : List V → Hp → VK → Prop}

def tCB (r : List V → Hp → VK → Prop) (t : TA) : TE := fun σ H Q => t σ H fun vs H1 => r vs H1 Q
theorem pe_callB (hc : CallR X (.builtin id) r) (hg : Gl X x) (hm : X.mg x = none) (hv : bootBuiltins x = some (.builtin id)) (ha : PA X (e :: es) t) (hn : x ≠ "__name__" := by decide) (hdb : (x == ("__debug__" : Str)) = false := by decide)
    (he : starEach (e :: es) X.env = (false, eval e X.env) :: starEach es X.env := by rfl) (hpl : (backTo pos (starEach es X.env)).any (·.1) = false := by rfl) : PE X (.Call (.Name x p) (e :: es) [] pos) (tCB r t) := by
  intro pins s σ H Q I h
  refine wpAny_Call_Name_kw (ld_blt I hg hm hv ?_ hn hdb)
  exact PyProof.Rows.callWith_builtin1 (thn (ha pos pins s σ H _ I h) fun us s1 ⟨vs, H1, I1, r1, q1⟩ => hc pins s1 σ H1 vs us Q I1 r1 q1) he hpl
theorem pe_callTy (hc : CallR X (.type T) r) (hg : Gl X x) (hm : X.mg x = none) (hv : bootBuiltins x = some (.type T)) (ha : PA X (e :: es) t) (hn : x ≠ "__name__" := by decide) (hdb : (x == ("__debug__" : Str)) = false := by decide)
    (he : starEach (e :: es) X.env = (false, eval e X.env) :: starEach es X.env := by rfl) (hpl : (backTo pos (starEach es X.env)).any (·.1) = false := by rfl) : PE X (.Call (.Name x p) (e :: es) [] pos) (tCB r t) := by
  intro pins s σ H Q I h
  refine wpAny_Call_Name_kw (ld_blt I hg hm hv ?_ hn hdb)
  exact PyProof.Rows.callWith_type1 (thn (ha pos pins s σ H _ I h) fun us s1 ⟨vs, H1, I1, r1, q1⟩ => hc pins s1 σ H1 vs us Q I1 r1 q1) he hpl
end
end L2

namespace HT
open PySem PyProof.Rows

section
open PySem.SeqAt
open PySem.AutoSeq1 (wpAny_loadPart')
open PySem.MeetsSeq PySem.MeetsSeq2 PySem.MeetsSeq3

end

section
variable {prog : Program} {w : World} {A : Around} {E : Value → Shared → Prop} {s : Shared}

theorem cat_tup {t b : Addr} {vs ws : List Value} {Q : Value → Shared → Prop} (ht : IsTup s.heap t vs.toArray) (hb : IsTup s.heap b ws.toArray) (hv : vs ≠ [])
    (h1 : ws = [] → Q (.ref t) s) (h2 : ws ≠ [] → Q (.ref s.heap.objs.size) { s with heap := s.heap.push { cls := .type "tuple", data := .seq (vs ++ ws).toArray } })
    (hsz : vs.length + ws.length ≤ sizeLine) : wpAny (model prog w) A (binaryOp .Add (.ref t) (.ref b)) Q E s := by
  obtain ⟨⟨cls, dd, data, sl⟩, ho, hc, n, hd⟩ := id ht
  obtain ⟨⟨cls2, dd2, data2, sl2⟩, ho2, hc2, n2, hd2⟩ := id hb
  simp only at hc hd hc2 hd2
  subst hc hd hc2 hd2
  have e : vs.toArray ++ ws.toArray = (vs ++ ws).toArray := by simp
  by_cases hw : ws = []
  · exact concat_meets ⟨_, ho, rfl⟩ ⟨_, ho2, rfl⟩ noFill_tuple_add seq_tuple_add PySem.F.slot_tuple_add PySem.F.entry_tuple_add (PySem.F.args_tuple_add_2 _ _)
      (tuple_addW1 t b vs.toArray ws.toArray n n2 dd dd2 sl sl2 (by simpa using hv) (by simp [hw])) ⟨ho, ho2, h1 hw⟩
  · refine concat_meets ⟨_, ho, rfl⟩ ⟨_, ho2, rfl⟩ noFill_tuple_add seq_tuple_add PySem.F.slot_tuple_add PySem.F.entry_tuple_add (PySem.F.args_tuple_add_2 _ _)
      (tuple_addW2 t b vs.toArray ws.toArray n n2 dd dd2 sl sl2 (by simpa using hv) (by simpa using hw) (by rw [List.size_toArray, List.size_toArray]; exact hsz)) ⟨ho, ho2, ?_⟩
    rw [e]
    exact h2 hw

def sIx (n d : Nat) : Option Int → Nat
  | none => d
  | some v => if v < 0 then (v + (n : Int)).toNat else min v.toNat n
theorem sIx_none (n d : Nat) : sIx n d none = d := rfl
theorem sIx_nat (n d k : Nat) : sIx n d (some (k : Int)) = min k n := by
  show (if (k : Int) < 0 then ((k : Int) + (n : Int)).toNat else min (k : Int).toNat n) = min k n
  rw [if_neg (by omega), Int.toNat_natCast]
theorem sIx_le (n d : Nat) (hd : d ≤ n) (o : Option Int) : sIx n d o ≤ n := by
  cases o with
  | none => exact hd
  | some v =>
    show (if v < 0 then (v + (n : Int)).toNat else min v.toNat n) ≤ n
    by_cases hv : v < 0
    · rw [if_pos hv]; omega
    · rw [if_neg hv]; exact Nat.min_le_right _ _
theorem clip_eq (v : Int) (n d : Nat) : (if v < 0 then max (v + (n : Int)) 0 else min v (n : Int)) = ((sIx n d (some v) : Nat) : Int) := by
  show (if v < 0 then max (v + (n : Int)) 0 else min v (n : Int)) = (((if v < 0 then (v + (n : Int)).toNat else min v.toNat n) : Nat) : Int)
  by_cases hv : v < 0
  · simp only [if_pos hv]; omega
  · simp only [if_neg hv]; omega
theorem adjust_gen (lo hi : Option Int) (n : Nat) : Builtin.Slice.sliceAdjust lo hi 1 (n : Int) = (((sIx n 0 lo : Nat) : Int), ((sIx n n hi : Nat) : Int)) := by
  have h1 : ¬ ((1 : Int) < 0) := by omega
  unfold Builtin.Slice.sliceAdjust
  simp only [h1, if_false]
  refine Prod.ext ?_ ?_
  · cases lo with
    | none => rfl
    | some v => exact clip_eq v n 0
  · cases hi with
    | none => rfl
    | some v => exact clip_eq v n n
theorem places_gen (i j : Nat) : Builtin.Slice.slicePlaces (i : Int) (j : Int) 1 = j - i := by
  unfold Builtin.Slice.slicePlaces
  have h1 : (1 : Int) > 0 := by omega
  simp only [h1, if_true, Int.ediv_one]
  split <;> omega
theorem slicePart_ {v : Value} {o : Option Int} {Q : Option Int → Shared → Prop} (p : IsPart v o) (h : Q o s) : wpAny (model prog w) A (Builtin.Slice.slicePartIndex v) Q E s := by
  cases p with
  | none => exact slicePart_none h
  | int i t => exact slicePart_int h
theorem sliceApplied_gen {sl : Addr} {vl vu : Value} {lo hi : Option Int} {n : Nat} {Q : Int × Int × Nat → Shared → Prop} (hs : s.heap.IsSliceOf sl vl vu .none) (pl : IsPart vl lo) (pu : IsPart vu hi)
    (h : Q (((sIx n 0 lo : Nat) : Int), 1, sIx n n hi - sIx n 0 lo) s) : wpAny (model prog w) A (Builtin.Slice.sliceApplied (.ref sl) (pure (n : Int))) Q E s := by
  obtain ⟨os, hos, hcs, hds⟩ := id hs
  unfold Builtin.Slice.sliceApplied Builtin.Slice.sliceFields
  refine wpAny_bind (wpAny_bind (wpAny_field hos hds (x := vl) rfl (wpAny_bind (wpAny_field hos hds (x := vu) rfl (wpAny_bind (wpAny_field hos hds (x := .none) rfl (wpAny_pure ?_)))))))
  refine wpAny_bind (slicePart_none ?_)
  show wpAny _ _ (if ((1 : Int) == 0) = true then _ else _) _ _ s
  rw [if_neg (by decide)]
  refine wpAny_bind (slicePart_ pl (wpAny_bind (slicePart_ pu (wpAny_bind (wpAny_pure ?_)))))
  show wpAny _ _ (match Builtin.Slice.sliceAdjust lo hi 1 (n : Int) with | (lo, hi) => pure (lo, (1 : Int), Builtin.Slice.slicePlaces lo hi 1)) _ _ s
  rw [adjust_gen lo hi n]
  show wpAny _ _ (pure (((sIx n 0 lo : Nat) : Int), (1 : Int), Builtin.Slice.slicePlaces ((sIx n 0 lo : Nat) : Int) ((sIx n n hi : Nat) : Int) 1)) _ _ s
  rw [places_gen]
  exact wpAny_pure h
theorem pick_gen (xs : Array Value) (i k : Nat) : ((List.range k).filterMap fun (m : Nat) => xs[((i : Int) + (m : Int) * 1).toNat]?).toArray = ((xs.toList.drop i).take k).toArray := by
  have e : (fun (m : Nat) => xs[((i : Int) + (m : Int) * 1).toNat]?) = fun m => xs[i + m]? := by
    funext m
    have : ((i : Int) + (m : Int) * 1).toNat = i + m := by omega
    rw [this]
  rw [e]
  have := pick_run xs i k
  rw [List.filterMap_map] at this
  have e2 : ((fun x => xs[x]?) ∘ fun x => i + x) = fun m => xs[i + m]? := rfl
  rw [e2] at this
  rw [this]

theorem getItem_tuple_cut {t sl : Addr} {items : Array Value} {vl vu : Value} {lo hi : Option Int} {Q : Value → Shared → Prop} (ht : IsTup s.heap t items) (hs : s.heap.IsSliceOf sl vl vu .none) (pl : IsPart vl lo) (pu : IsPart vu hi)
    (hw : ¬ (sIx items.size 0 lo = 0 ∧ sIx items.size items.size hi = items.size))
    (h : Q (.ref s.heap.objs.size) { s with heap := s.heap.push { cls := .type "tuple", data := .seq ((items.toList.drop (sIx items.size 0 lo)).take (sIx items.size items.size hi - sIx items.size 0 lo)).toArray } })
    (hsz : items.size ≤ sizeLine) : wpAny (model prog w) A (getItem (.ref t) (.ref sl)) Q E s := by
  have htake : sizeOk (.seq ((items.toList.drop (sIx items.size 0 lo)).take (sIx items.size items.size hi - sIx items.size 0 lo)).toArray) := by
    show ((items.toList.drop (sIx items.size 0 lo)).take (sIx items.size items.size hi - sIx items.size 0 lo)).toArray.size ≤ sizeLine
    rw [List.size_toArray, List.length_take, List.length_drop, Array.length_toList]
    omega
  have hj : sIx items.size items.size hi ≤ items.size := sIx_le _ _ (Nat.le_refl _) hi
  obtain ⟨os, hos, hcs, hds⟩ := id hs
  have hTs : s.TypeIs (.ref sl) "slice" := ⟨os, hos, hcs⟩
  unfold getItem
  try with_reducible refine wpAny_holding ?_
  first | refine wpAny_bind (wpAny_pure ?_) | skip
  refine wpAny_bind (wpAny_sequenceKey ht.typeIs (by decide) ?_)
  refine wpAny_bind (wpAny_callSpecial?_slot (name := Str.ofString "__getitem__") ht.typeIs PyProof.Rows.slot_tuple_getitem
    (wpAny_call_entry PyProof.Rows.slot_tuple_getitem ht.typeIs entry_tuple_getitem ?_ (args_tuple_getitem _ _)))
  show wpAny _ _ (Builtin.Tuple.tupleItemsOf (.ref t) >>= _) _ _ s
  refine wpAny_bind (tupleItemsOf_ ht ?_)
  refine wpAny_bind (wpAny_typeOf hTs ?_)
  rw [if_pos (by decide)]
  refine wpAny_bind (sliceApplied_gen hs pl pu ?_)
  have hno : ¬ ((((sIx items.size 0 lo : Nat) : Int) == 0 && (1 : Int) == 1 && (sIx items.size items.size hi - sIx items.size 0 lo) == items.size) = true) := by
    intro q
    rw [Bool.and_eq_true, Bool.and_eq_true] at q
    have q1 : ((sIx items.size 0 lo : Nat) : Int) = 0 := eq_of_beq q.1.1
    have q2 : sIx items.size items.size hi - sIx items.size 0 lo = items.size := eq_of_beq q.2
    exact hw ⟨by omega, by omega⟩
  show wpAny _ _ (if (((sIx items.size 0 lo : Nat) : Int) == 0 && (1 : Int) == 1 && (sIx items.size items.size hi - sIx items.size 0 lo) == items.size) = true then _ else _) _ _ s
  rw [if_neg hno, pick_gen]
  first
    | exact wpAny_bind (m := Builtin.Tuple.tupleExact _) (wpAny_newObj_type (wpAny_pure ⟨_, rfl, wpAny_pure h⟩) htake)
    | exact wpAny_bind (m := Builtin.Tuple.tupleExact _) (wpAny_newObj_type (wpAny_bind (wpAny_pure (wpAny_pure ⟨_, rfl, wpAny_pure h⟩))) htake)
    | exact wpAny_bind (wpAny_bind (m := Builtin.Tuple.tupleExact _) (wpAny_newObj_type (wpAny_pure (wpAny_pure ⟨_, rfl, wpAny_pure h⟩)) htake))
    | exact wpAny_bind (wpAny_bind (m := Builtin.Tuple.tupleExact _) (wpAny_newObj_type (wpAny_pure ⟨_, rfl, wpAny_pure h⟩) htake))
end
end HT

namespace L2
open PySem PySem.Spec PyProof.Rows

abbrev TO := St → Hp → (Option Int → Hp → Prop) → Prop
def PO (X : Cx) (e : Option Expr) (t : TO) : Prop :=
  ∀ (pins : List (Addr × Obj)) (s : Shared) (σ : St) (H : Hp) (Q : Option Int → Hp → Prop), Inv X pins σ H s → t σ H Q →
    wpAny (model X.prog X.w) X.A (evalPart e X.env) (fun u s' => ∃ o H', Inv X pins σ H' s' ∧ IsPart u o ∧ Q o H') X.xe s
def tNoPart : TO := fun _ H Q => Q none H
def tPart (t : TE) : TO := fun σ H Q => t σ H fun x H1 => ∃ i, x = .int i ∧ Q (some i) H1

theorem intsAre_of {ns : List Int} : ∀ {us : List Value}, Vals (ns.map V.int) us → IntsAre us ns := by
  induction ns with
  | nil => intro us r; rw [List.map_nil] at r; cases r; exact .nil
  | cons n ns ih =>
    intro us r
    rw [List.map_cons] at r
    cases r with
    | cons r1 r2 =>
      obtain ⟨t, e⟩ := r1
      subst e
      exact .cons n t (ih r2)

section
variable {X : Cx} {e : Expr} {te : TE} {lo hi : Option Expr} {tl th : TO} {pos p2 : Pos}

theorem po_none : PO X none tNoPart := by
  intro pins s σ H Q I h
  rw [evalPart_none]
  exact wpAny_pure ⟨none, H, I, .none, h⟩
theorem po_some (h : PE X e te) : PO X (some e) (tPart te) := by
  intro pins s σ H Q I hw
  rw [evalPart_some]
  refine thn (h pins s σ H _ I hw) fun u s1 ⟨x, H1, I1, r1, q1⟩ => ?_
  obtain ⟨i, rfl, q⟩ := q1
  obtain ⟨t, rfl⟩ := r1
  exact ⟨some i, H1, I1, .int i t, q⟩

def SlR (X : Cx) (r : V → Option Int → Option Int → Hp → VK → Prop) : Prop :=
  ∀ (pins : List (Addr × Obj)) (s : Shared) (σ : St) (H : Hp) (x : V) (v vl vu : Value) (lo hi : Option Int) (sl : Addr) (Q : VK), Inv X pins σ H s → RelV x v → s.heap.IsSliceOf sl vl vu .none → IsPart vl lo → IsPart vu hi → r x lo hi H Q →
    ∃ T id, typeLookup (.type T) "__getitem__" = pure (some (.builtin id)) ∧ s.TypeIs v T ∧ wpAny (model X.prog X.w) X.A (getItem v (.ref sl)) (EP X pins σ Q) X.xe s
theorem SlR.or {r r' : V → Option Int → Option Int → Hp → VK → Prop} (h : SlR X r) (h' : SlR X r') : SlR X (fun x lo hi H Q => r x lo hi H Q ∨ r' x lo hi H Q) := by
  intro pins s σ H x v vl vu lo hi sl Q I rx hs pl pu q
  rcases q with q | q
  · exact h pins s σ H x v vl vu lo hi sl Q I rx hs pl pu q
  · exact h' pins s σ H x v vl vu lo hi sl Q I rx hs pl pu q
def tSl (r : V → Option Int → Option Int → Hp → VK → Prop) (te : TE) (tl th : TO) : TE := fun σ H Q => te σ H fun x H1 => tl σ H1 fun l H2 => th σ H2 fun u H3 => r x l u H3 Q
theorem pe_slice {r : V → Option Int → Option Int → Hp → VK → Prop} (hr : SlR X r) (he : PE X e te) (hl : PO X lo tl) (hu : PO X hi th) : PE X (.Subscript e (.Slice lo hi none p2) pos) (tSl r te tl th) := by
  intro pins s σ H Q I h
  refine Subscript_ (thn (he pins s σ H _ I h) fun v s1 ⟨x, H1, I1, r1, q1⟩ => ?_)
  refine wpAny_Slice (thn (hl pins s1 σ H1 _ I1 q1) fun vl s2 ⟨l, H2, I2, pl, q2⟩ => thn (hu pins s2 σ H2 _ I2 q2) fun vu s3 ⟨u, H3, I3, pu, q3⟩ => ?_)
  rw [evalPart_none]
  refine wpAny_pure ?_
  have I4 : Inv X pins σ H3 { s3 with heap := s3.heap.push { cls := .type "slice", data := .fields #[vl, vu, .none] } } := I3.kept (t' := s3.toks) fun b ob q => Heap.get?_push_of_some _ q
  obtain ⟨T, id, hT, ht, hg⟩ := hr pins { s3 with heap := s3.heap.push { cls := .type "slice", data := .fields #[vl, vu, .none] } } σ H3 x v vl vu l u s3.heap.objs.size Q I4 r1 (Heap.IsSliceOf.new ..) pl pu q3
  show wpAny (model X.prog X.w) X.A (subscriptTail e (.Slice lo hi none p2) v (.ref s3.heap.objs.size)) (EP X pins σ Q) X.xe { s3 with heap := s3.heap.push { cls := .type "slice", data := .fields #[vl, vu, .none] } }
  exact tail_any (ops := [.ref s3.heap.objs.size, v]) ht hT hg (by with_unfolding_all rfl)

def cutV (xs : List V) (lo hi : Option Int) : List V := (xs.drop (HT.sIx xs.length 0 lo)).take (HT.sIx xs.length xs.length hi - HT.sIx xs.length 0 lo)
theorem cutV_length (xs : List V) (lo hi : Option Int) : (cutV xs lo hi).length ≤ xs.length := by
  unfold cutV
  rw [List.length_take, List.length_drop]
  omega
def rSlT (K : PySem.W.Frag) : V → Option Int → Option Int → Hp → VK → Prop := fun x lo hi H Q => ∃ a xs, x = .ref a ∧ SqT K H a xs ∧
  ¬ (HT.sIx xs.length 0 lo = 0 ∧ HT.sIx xs.length xs.length hi = xs.length) ∧ ∀ p, H p = none → Q (.ref p) (upd H p (.tup (cutV xs lo hi)))
theorem sl_tup : SlR X (rSlT X.K) := by
  intro pins s σ H x v vl vu lo hi sl Q I rx hs pl pu h
  obtain ⟨a, xs, rfl, hx, hw, q⟩ := h
  cases rx
  obtain ⟨its, r, ht, hz⟩ := I.tuple hx
  have hlen : its.toArray.size = xs.length := by rw [List.size_toArray]; exact r.length.symm
  refine ⟨"tuple", _, PyProof.Rows.slot_tuple_getitem.lookup, ht.typeIs, ?_⟩
  refine HT.getItem_tuple_cut ht hs pl pu (by rw [hlen]; exact hw) ?_ (by rw [hlen]; exact hz)
  rw [hlen]
  refine ⟨.ref s.heap.objs.size, _, I.laid (t' := s.toks) (o := .tup (cutV xs lo hi)) (fun b ob q => Heap.get?_push_of_some _ q) (Nat.le_refl _) ?_, rfl, q _ (I.hok.fresh (Nat.le_refl _))⟩
  exact ⟨Nat.le_trans (cutV_length xs lo hi) hz, _, (r.drop (HT.sIx xs.length 0 lo)).take (HT.sIx xs.length xs.length hi - HT.sIx xs.length 0 lo), IsTup.new _ _⟩

def rCatT (K : PySem.W.Frag) : R2 := fun x y H Q => ∃ a b xs ys, x = .ref a ∧ y = .ref b ∧ SqT K H a xs ∧ SqT K H b ys ∧ xs ≠ [] ∧ xs.length + ys.length ≤ sizeLine ∧
  (ys = [] → Q (.ref a) H) ∧ (ys ≠ [] → ∀ p, H p = none → Q (.ref p) (upd H p (.tup (xs ++ ys))))
theorem Vals.nil_iff {xs : List V} {us : List Value} (r : Vals xs us) : us = [] ↔ xs = [] := by
  cases r with
  | nil => simp
  | cons _ _ => simp
theorem op_catT : OpR X (binaryOp .Add) (rCatT X.K) := by
  intro pins s σ H x y v u Q I rx ry h
  obtain ⟨a, b, xs, ys, rfl, rfl, ha, hb, hx, hz, q1, q2⟩ := h
  cases rx
  cases ry
  obtain ⟨its, r1, p1, _⟩ := I.tuple ha
  obtain ⟨its2, r2, p2, _⟩ := I.tuple hb
  refine HT.cat_tup p1 p2 (fun z => hx (r1.nil_iff.mp z)) (fun z => ⟨.ref a, H, I, rfl, q1 (r2.nil_iff.mp z)⟩) (fun z => ?_) (by rw [← r1.length, ← r2.length]; exact hz)
  refine ⟨.ref s.heap.objs.size, _, I.laid (t' := s.toks) (o := .tup (xs ++ ys)) (fun b ob q => Heap.get?_push_of_some _ q) (Nat.le_refl _) ?_, rfl, q2 (fun w => z (r2.nil_iff.mpr w)) _ (I.hok.fresh (Nat.le_refl _))⟩
  exact ⟨by rw [List.length_append]; exact hz, _, r1.append r2, IsTup.new _ _⟩
end
end L2

namespace L2
open PySem PySem.Spec PyProof.Rows

def ixN (n : Nat) (i : Int) : Option Nat := if 0 ≤ i then (if i < n then some i.toNat else none) else if -(n : Int) ≤ i then some (i + n).toNat else none
def atI {α : Type} (xs : List α) (i : Int) : Option α := (ixN xs.length i).bind fun j => xs[j]?
theorem ixN_seq {n : Nat} {i : Int} {j : Nat} (h : ixN n i = some j) : seqIndex? i n = some j ∧ j < n ∧ -(n : Int) ≤ i ∧ i < n := by
  unfold ixN at h
  by_cases h0 : 0 ≤ i
  · rw [if_pos h0] at h
    by_cases h1 : i < n
    · rw [if_pos h1] at h
      have e : i.toNat = j := Option.some.inj h
      exact ⟨by rw [seqIndex_of h0 h1, e], by omega, by omega, h1⟩
    · rw [if_neg h1] at h; cases h
  · rw [if_neg h0] at h
    by_cases h1 : -(n : Int) ≤ i
    · rw [if_pos h1] at h
      have e : (i + n).toNat = j := Option.some.inj h
      exact ⟨by rw [seqIndex_neg (by omega) h1, e], by omega, h1, by omega⟩
    · rw [if_neg h1] at h; cases h
theorem atI_get {α : Type} {xs : List α} {i : Int} {v : α} (h : atI xs i = some v) : ∃ j, seqIndex? i xs.length = some j ∧ xs[j]? = some v ∧ j < xs.length ∧ -(xs.length : Int) ≤ i ∧ i < xs.length := by
  unfold atI at h
  cases e : ixN xs.length i with
  | none => rw [e] at h; cases h
  | some j =>
    rw [e] at h
    obtain ⟨h1, h2, h3, h4⟩ := ixN_seq e
    exact ⟨j, h1, h, h2, h3, h4⟩
def PlainIx (b : Expr) : Prop := ∀ o i, subscripted b false o i = operate [o, i] (getItem o i)
def IxR (X : Cx) (r : R2) : Prop :=
  ∀ (value slice : Expr) (pins : List (Addr × Obj)) (s : Shared) (σ : St) (H : Hp) (x y : V) (v u : Value) (Q : VK), Inv X pins σ H s → RelV x v → RelV y u → r x y H Q →
    subscripted slice false v u = operate [v, u] (getItem v u) → wpAny (model X.prog X.w) X.A (subscriptTail value slice v u) (EP X pins σ Q) X.xe s
def MtR (X : Cx) (id : String) (r : V → List V → Hp → VK → Prop) : Prop :=
  ∀ (pins : List (Addr × Obj)) (s : Shared) (σ : St) (H : Hp) (x : V) (xs : List V) (v : Value) (us : List Value) (Q : VK), Inv X pins σ H s → RelV x v → Vals xs us → r x xs H Q →
    wpAny (model X.prog X.w) X.A (call (.builtin id) (v :: us)) (EP X pins σ Q) X.xe s
section
variable {X : Cx} {a b : Expr} {ta tb : TE} {pos : Pos}
theorem IxR.or {r r' : R2} (h : IxR X r) (h' : IxR X r') : IxR X (fun x y H Q => r x y H Q ∨ r' x y H Q) := by
  intro value slice pins s σ H x y v u Q I rx ry q hs
  rcases q with q | q
  · exact h value slice pins s σ H x y v u Q I rx ry q hs
  · exact h' value slice pins s σ H x y v u Q I rx ry q hs
theorem MtR.or {id : String} {r r' : V → List V → Hp → VK → Prop} (h : MtR X id r) (h' : MtR X id r') : MtR X id (fun x xs H Q => r x xs H Q ∨ r' x xs H Q) := by
  intro pins s σ H x xs v us Q I rx rs q
  rcases q with q | q
  · exact h pins s σ H x xs v us Q I rx rs q
  · exact h' pins s σ H x xs v us Q I rx rs q
theorem pe_ix {r : R2} (hr : IxR X r) (ha : PE X a ta) (hb : PE X b tb) (hs : PlainIx b) : PE X (.Subscript a b pos) (tOp r ta tb) := by
  intro pins s σ H Q I h
  exact Subscript_ (binT ha hb I h fun v u s2 x y H2 I2 rx ry q => hr a b pins s2 σ H2 x y v u Q I2 rx ry q (hs _ _))

def rIxL (K : PySem.W.Frag) : R2 := fun x y H Q => ∃ p xs i v, x = .ref p ∧ y = .int i ∧ SqL K H p xs ∧ atI xs i = some v ∧ Q v H
def rIxT (K : PySem.W.Frag) : R2 := fun x y H Q => ∃ p xs i v, x = .ref p ∧ y = .int i ∧ SqT K H p xs ∧ atI xs i = some v ∧ Q v H
def rIxS : R2 := fun x y H Q => ∃ z i c, x = .str z ∧ y = .int i ∧ z.length ≤ sizeLine ∧ atI z.cps.toList i = some c ∧ Q (.str ⟨#[c]⟩) H
theorem ix_list : IxR X (rIxL X.K) := by
  intro value slice pins s σ H x y v u Q I rx ry h hs
  obtain ⟨p, xs, i, z, rfl, rfl, hq, he, q⟩ := h
  cases rx
  obtain ⟨t, rfl⟩ := ry
  obtain ⟨its, r, pl, hz⟩ := I.list hq
  obtain ⟨j, h1, h2, h3, h4, h5⟩ := atI_get he
  obtain ⟨w, ew, rw'⟩ := r.get h2
  have hl := r.length
  have hn := line63
  have fin : EP X pins σ Q w s := ⟨z, H, I, rw', q⟩
  by_cases h0 : 0 ≤ i
  · have hj : i.toNat = j := by
      rw [seqIndex_of h0 h5] at h1
      exact Option.some.inj h1
    exact item_listR pl.isList h0 (by omega) (by rw [hj]; simpa using ew) fin hs
  · have hj : (i + (its.toArray.size : Int)).toNat = j := by
      rw [seqIndex_neg (by omega) h4] at h1
      rw [List.size_toArray, ← hl]
      exact Option.some.inj h1
    exact subscriptTail_builtinR (x := w) pl.isList.typeIs slot_list_getitem.lookup
      (wpAny_getItem_list_neg (Q := fun r s' => r = w ∧ EP X pins σ Q r s') pl.isList (by omega) (by rw [List.size_toArray] <;> omega) (by omega) (by rw [hj]; simpa using ew) ⟨rfl, fin⟩) hs
theorem ix_tup : IxR X (rIxT X.K) := by
  intro value slice pins s σ H x y v u Q I rx ry h hs
  obtain ⟨p, xs, i, z, rfl, rfl, hq, he, q⟩ := h
  cases rx
  obtain ⟨t, rfl⟩ := ry
  obtain ⟨its, r, pl, hz⟩ := I.tuple hq
  obtain ⟨j, h1, h2, h3, h4, h5⟩ := atI_get he
  obtain ⟨w, ew, rw'⟩ := r.get h2
  have hl := r.length
  have hn := line63
  have fin : EP X pins σ Q w s := ⟨z, H, I, rw', q⟩
  exact subscriptTail_builtinR (x := w) pl.typeIs slot_tuple_getitem.lookup
    (getItem_tuple (j := j) (Q := fun r s' => r = w ∧ EP X pins σ Q r s') pl (by omega) (by omega) (by rw [List.size_toArray, ← hl]; exact h1) (by simpa using ew) ⟨rfl, fin⟩) hs
theorem ix_str : IxR X rIxS := by
  intro value slice pins s σ H x y v u Q I rx ry h hs
  obtain ⟨z, i, c, rfl, rfl, hz, he, q⟩ := h
  obtain ⟨t, rfl⟩ := rx
  obtain ⟨t', rfl⟩ := ry
  obtain ⟨j, h1, h2, h3, h4, h5⟩ := atI_get he
  have hl : z.cps.toList.length = z.length := by simp [Str.length]
  rw [hl] at h1 h4 h5
  have hn := line63
  exact tail_any (typeIs_str s z t) slot_str_getitem.lookup (getItem_str (c := c) (by
    have e1 : decide (i < -(2 ^ 63 : Int)) = false := decide_eq_false (by omega)
    have e2 : decide (i ≥ 2 ^ 63) = false := decide_eq_false (by omega)
    rw [e1, e2, Bool.or_false]) (by rw [h1]; simpa using h2) ⟨.str ⟨#[c]⟩, H, I.tok _, ⟨_, rfl⟩, q⟩) hs
def rIx (K : PySem.W.Frag) : R2 := fun x y H Q => rIxL K x y H Q ∨ rIxT K x y H Q ∨ rIxS x y H Q
theorem ix_seq : IxR X (rIx X.K) := ix_list.or (ix_tup.or ix_str)

theorem Inv.lst {pins : List (Addr × Obj)} {σ : St} {H : Hp} {s : Shared} {p : Addr} {xs : List V} (I : Inv X pins σ H s) (h : H p = some (.lst xs)) :
    ∃ (its : List Value) (n : Nat), Vals xs its ∧ s.heap.get? p = some { cls := .type "list", data := .seq its.toArray n } ∧ xs.length ≤ sizeLine := by
  obtain ⟨z, its, n, r, e⟩ := I.hok p _ h
  exact ⟨its, n, r, e, z⟩
theorem slice_bounds (lo hi : Option Int) (n : Nat) : (sliceBounds lo hi none n).1 = ((HT.sIx n 0 lo : Nat) : Int) ∧ (sliceBounds lo hi none n).2.1 = ((HT.sIx n n hi : Nat) : Int) ∧ (sliceBounds lo hi none n).2.2 = 1 := by
  refine ⟨?_, ?_, rfl⟩
  · cases lo with
    | none => simp [sliceBounds, HT.sIx]
    | some i =>
      simp only [sliceBounds, HT.sIx, Option.getD_none, show (1 : Int) > 0 by decide, if_true]
      by_cases h : i < 0
      · simp only [h, if_true] <;> omega
      · simp only [h, if_false] <;> omega
  · cases hi with
    | none => simp [sliceBounds, HT.sIx]
    | some i =>
      simp only [sliceBounds, HT.sIx, Option.getD_none, show (1 : Int) > 0 by decide, if_true]
      by_cases h : i < 0
      · simp only [h, if_true] <;> omega
      · simp only [h, if_false] <;> omega
theorem slicePick_cut (its : List Value) (lo hi : Option Int) : slicePick its.toArray lo hi none = ((its.drop (HT.sIx its.length 0 lo)).take (HT.sIx its.length its.length hi - HT.sIx its.length 0 lo)).toArray := by
  obtain ⟨h1, h2, h3⟩ := slice_bounds lo hi its.toArray.size
  unfold slicePick
  rw [h1, h2, h3]
  simp only [sliceRange_one, pick_run, List.size_toArray] <;> rfl
def rSlL (K : PySem.W.Frag) : V → Option Int → Option Int → Hp → VK → Prop := fun x lo hi H Q => ∃ a xs, x = .ref a ∧ SqL K H a xs ∧ ∀ p, H p = none → Q (.ref p) (upd H p (.lst (cutV xs lo hi)))
theorem sl_list : SlR X (rSlL X.K) := by
  intro pins s σ H x v vl vu lo hi sl Q I rx hs pl pu h
  obtain ⟨a, xs, rfl, hx, q⟩ := h
  cases rx
  obtain ⟨its, r, ht, hz⟩ := I.list hx
  have hlen := r.length
  refine ⟨"list", _, slot_list_getitem.lookup, ht.isList.typeIs, ?_⟩
  refine wpAny_getItem_list_slice ht.isList hs pl pu .none (by simp) ?_ (by rw [List.size_toArray] <;> omega)
  rw [slicePick_cut, ← hlen]
  refine ⟨.ref s.heap.objs.size, _, I.laid (t' := s.toks) (o := .lst (cutV xs lo hi)) (fun b ob q => Heap.get?_push_of_some _ q) (Nat.le_refl _) ?_, rfl, q _ (I.hok.fresh (Nat.le_refl _))⟩
  exact ⟨Nat.le_trans (cutV_length xs lo hi) hz, _, 0, (r.drop (HT.sIx xs.length 0 lo)).take (HT.sIx xs.length xs.length hi - HT.sIx xs.length 0 lo), Heap.get?_push_size _ rfl⟩

theorem CallR.or {f : Value} {r r' : List V → Hp → VK → Prop} (h : CallR X f r) (h' : CallR X f r') : CallR X f (fun xs H Q => r xs H Q ∨ r' xs H Q) := by
  intro pins s σ H xs us Q I rs q
  rcases q with q | q
  · exact h pins s σ H xs us Q I rs q
  · exact h' pins s σ H xs us Q I rs q
theorem call_list_of : CallR X (.type "list") (fun xs H Q => ∃ p ys, xs = [.ref p] ∧ (SqL X.K H p ys ∨ SqT X.K H p ys) ∧ ∀ l, H l = none → Q (.ref l) (upd H l (.lst ys))) := by
  intro pins s σ H xs us Q I r h
  obtain ⟨p, ys, rfl, hq, q⟩ := h
  obtain ⟨u, rfl, rx⟩ := vals1 r
  cases rx
  have fin : ∀ (its : List Value), Vals ys its → ys.length ≤ sizeLine → ∀ (h' : Heap) (c' : Nat), (∀ b o', s.heap.get? b = some o' → h'.get? b = some o') →
      h'.get? s.heap.objs.size = some { cls := .type "list", dict := none, data := .seq its.toArray c', slots := #[] } → EP X pins σ Q (.ref s.heap.objs.size) { s with heap := h' } := fun its r' hz h' c' kp e =>
    ⟨.ref s.heap.objs.size, _, I.laid (t' := s.toks) kp (Nat.le_refl _) (show ObjOk X.prog X.w _ h' _ (.lst ys) from ⟨hz, its, c', r', e⟩), rfl, q _ (I.hok.fresh (Nat.le_refl _))⟩
  rcases hq with hq | hq
  · obtain ⟨its, r', pl, hz⟩ := I.list hq
    have hlen := r'.length
    obtain ⟨o, ho, hc, n, hd⟩ := pl.isList
    exact call_list_seq p (.inl rfl) ho hc hd (fun h' c' kp e => fin its r' hz h' c' kp e) (by simp only [List.size_toArray] <;> omega)
  · obtain ⟨its, r', pl, hz⟩ := I.tuple hq
    have hlen := r'.length
    obtain ⟨o, ho, hc, n, hd⟩ := pl
    exact call_list_seq p (.inr rfl) ho hc hd (fun h' c' kp e => fin its r' hz h' c' kp e) (by simp only [List.size_toArray] <;> omega)
def tyV (K : PySem.W.Frag) (T : String) (x : V) (H : Hp) : Prop := match x with
  | .str _ => T = "str"
  | .int _ => T = "int"
  | .ref p => (T = "list" ∧ ∃ xs, SqL K H p xs) ∨ (T = "tuple" ∧ ∃ o, K.lookup p = some o ∧ o.cls = .type "tuple" ∧ o.dict = none) ∨
      (T = "dict" ∧ ((∃ kvs, H p = some (.dK kvs)) ∨ ∃ kvs, H p = some (.dT kvs))) ∨ (T = "set" ∧ ∃ S n, H p = some (.set S n))
  | _ => False
theorem tyV_is {pins : List (Addr × Obj)} {σ : St} {H : Hp} {s : Shared} {T : String} {x : V} {v : Value} (I : Inv X pins σ H s) (r : RelV x v) (ty : tyV X.K T x H) :
    s.TypeIs v T ∧ ∀ a, v = .ref a → ∃ ob, s.heap.get? a = some ob ∧ ob.dict = none := by
  cases x with
  | str z =>
    obtain ⟨t, rfl⟩ := r
    cases (show T = "str" from ty)
    exact ⟨typeIs_str s z t, fun _ e => nomatch e⟩
  | int i =>
    obtain ⟨t, rfl⟩ := r
    cases (show T = "int" from ty)
    exact ⟨typeIs_int s i t, fun _ e => nomatch e⟩
  | ref p =>
    cases r
    rcases ty with ⟨rfl, xs, hq⟩ | ⟨rfl, o, hk, hc, hd⟩ | ⟨rfl, hk⟩ | ⟨rfl, S, n, hk⟩
    · obtain ⟨its, _, pl, _⟩ := I.list hq
      refine ⟨pl.isList.typeIs, fun a e => ?_⟩
      cases e
      obtain ⟨o, n, e, c, hd, _⟩ := pl
      exact ⟨o, e, hd⟩
    · refine ⟨⟨o, I.kIn p o hk, hc⟩, fun a e => ?_⟩
      cases e
      exact ⟨o, I.kIn _ o hk, hd⟩
    · have z : ∃ o, s.heap.get? p = some o ∧ o.ExactDict := by
        rcases hk with ⟨kvs, hk⟩ | ⟨kvs, hk⟩
        · obtain ⟨_, _, _, _, o, _, _, e, ex, _⟩ := I.hok p _ hk
          exact ⟨o, e, ex⟩
        · obtain ⟨_, _, _, _, o, _, _, e, ex, _⟩ := I.hok p _ hk
          exact ⟨o, e, ex⟩
      obtain ⟨o, e, ex⟩ := z
      refine ⟨⟨o, e, ex.1⟩, fun a e2 => ?_⟩
      cases e2
      exact ⟨o, e, ex.2.1⟩
    · obtain ⟨o, _, _, _, e, ex, _⟩ := I.hok p _ hk
      refine ⟨⟨o, e, ex.1⟩, fun a e2 => ?_⟩
      cases e2
      exact ⟨o, e, ex.2.1⟩
  | _ => exact False.elim ty
def tBM0 (K : PySem.W.Frag) (T : String) (r : V → List V → Hp → VK → Prop) (to : TE) : TE := fun σ H Q => to σ H fun x H1 => tyV K T x H1 ∧ r x [] H1 Q
def tBM (K : PySem.W.Frag) (T : String) (r : V → List V → Hp → VK → Prop) (to : TE) (t : TA) : TE := fun σ H Q => to σ H fun x H1 => tyV K T x H1 ∧ t σ H1 fun xs H2 => r x xs H2 Q
variable {o e : Expr} {es : List Expr} {to : TE} {t : TA} {name : Str} {apos cpos : Pos} {T id : String} {r : V → List V → Hp → VK → Prop}
theorem pe_bm0 (pa : PlainAttrs T) (slot : Slot T name id) (hty : typeOf (.builtin id) = pure (.type "method_descriptor")) (hm : MtR X id r) (ho : PE X o to)
    (hbase : attributeBase o name X.env (eval o X.env) = eval o X.env := by rfl) (hline : (apos.endLine == cpos.line) = true := by rfl) : PE X (.Call (.Attribute o name apos) [] [] cpos) (tBM0 X.K T r to) := by
  intro pins s σ H Q I h
  refine wpAny_Call_method0_late hbase hline (thn (ho pins s σ H _ I h) fun v s1 ⟨x, H1, I1, r1, ty, q1⟩ => ?_)
  obtain ⟨h1, h2⟩ := tyV_is I1 r1 ty
  exact ⟨T, id, pa, slot, hty, h1, h2, Calls.callWith_builtin rfl (PySem.evalArgs_none (hm pins s1 σ H1 x [] v [] Q I1 r1 .nil q1))⟩
theorem pe_bm (pa : PlainAttrs T) (slot : Slot T name id) (hty : typeOf (.builtin id) = pure (.type "method_descriptor")) (hm : MtR X id r) (ho : PE X o to) (ha : PA X (e :: es) t)
    (hbase : attributeBase o name X.env (eval o X.env) = eval o X.env := by rfl)
    (hfew : ((backTo cpos (starEach (e :: es) X.env)).all (fun x => !x.1) && (backToKw cpos (keywordEach [] X.env)).all (fun x => x.1.isSome)
      && decide ((e :: es).length + ([] : List Keyword).length + (if ([] : List Keyword).isEmpty then 0 else 1) < 30)) = true := by rfl)
    (hline : (apos.endLine == cpos.line) = true := by rfl) (hs : starEach (e :: es) X.env = (false, eval e X.env) :: starEach es X.env := by rfl) (hplain : (backTo cpos (starEach es X.env)).any (·.1) = false := by rfl) :
    PE X (.Call (.Attribute o name apos) (e :: es) [] cpos) (tBM X.K T r to t) := by
  intro pins s σ H Q I h
  refine wpAny_Call_method_late hbase hfew hline rfl (thn (ho pins s σ H _ I h) fun v s1 ⟨x, H1, I1, r1, ty, q1⟩ => ?_)
  obtain ⟨h1, h2⟩ := tyV_is I1 r1 ty
  refine ⟨T, id, pa, slot, hty, h1, h2, ?_⟩
  have hA := ha cpos pins s1 σ H1 _ I1 q1
  rw [hs] at hA ⊢
  refine Calls.callWith_builtin (by show (false || (backTo cpos (starEach es X.env)).any (·.1)) = false; rw [hplain] <;> rfl) (Calls.evalArgs_plain ?_)
  exact thn hA fun us s2 ⟨vs, H2, I2, r2, q2⟩ => hm pins s2 σ H2 x vs v us Q I2 r1 r2 q2
/- xs.append(e), list.index on a module's tuple .. are MtR facts of 06m -/
end
end L2

namespace L2
open PySem PySem.Spec PyProof.Rows

def MtM (X : Cx) (id : String) (r : V → List V → Hp → VK → Prop) : Prop :=
  ∀ (pins : List (Addr × Obj)) (s : Shared) (σ : St) (H : Hp) (x : V) (xs : List V) (v : Value) (us : List Value) (Q : VK), Inv X pins σ H s → RelV x v → Vals xs us → r x xs H Q →
    wpAny (model X.prog X.w) X.A (call (.builtin id) (v :: us)) (EP X pins σ Q) X.xe s

theorem Vals.one : ∀ {x : V} {us : List Value}, Vals [x] us → ∃ u, us = [u] ∧ RelV x u
  | _, _, .cons r .nil => ⟨_, rfl, r⟩
theorem Vals.two : ∀ {x y : V} {us : List Value}, Vals [x, y] us → ∃ u v, us = [u, v] ∧ RelV x u ∧ RelV y v
  | _, _, _, .cons r (.cons q .nil) => ⟨_, _, rfl, r, q⟩
theorem Vals.zero : ∀ {us : List Value}, Vals [] us → us = []
  | _, .nil => rfl
theorem Vals.reverse {xs : List V} {us : List Value} (h : Vals xs us) : Vals xs.reverse us.reverse := by
  induction h with
  | nil => exact .nil
  | cons r t ih => rw [List.reverse_cons, List.reverse_cons]; exact Vals.append ih (.cons r .nil)
theorem Vals.rep {xs : List V} {us : List Value} (h : Vals xs us) : ∀ k : Nat, Vals (List.replicate k xs).flatten (List.replicate k us).flatten
  | 0 => .nil
  | k + 1 => by
    rw [List.replicate_succ, List.replicate_succ, List.flatten_cons, List.flatten_cons]
    exact Vals.append h (Vals.rep h k)
section
variable {X : Cx} {pins : List (Addr × Obj)} {σ : St} {H : Hp} {s : Shared} {l b : Addr} {xs ys zs : List V}

theorem Inv.lset {its its' : List Value} {n : Nat} {f : Array Value → Array Value} {t' : Nat} (I : Inv X pins σ H s) (hH : H l = some (.lst xs))
    (e : s.heap.get? l = some { cls := .type "list", data := .seq its.toArray n }) (hf : f its.toArray = its'.toArray) (hv : Vals ys its') (hz : ys.length ≤ sizeLine) :
    Inv X pins σ (upd H l (.lst ys)) { s with heap := s.heap.update l (Obj.mapSeq f), toks := t' } := by
  have q := PySem.IsL.update e f
  rw [hf] at q
  refine I.write (x := l) (e := l) (by rw [hH]; exact trivial) (.inl rfl) (fun b' u hb hu => (Heap.get?_update_other s.heap (Obj.mapSeq f) (Ne.symm hb)).trans hu) ⟨_, q⟩ ?_
  exact ⟨hz, its', _, hv, q⟩
theorem Inv.lnew {its : List Value} {t' : Nat} (I : Inv X pins σ H s) (hv : Vals ys its) (hz : ys.length ≤ sizeLine) :
    Inv X pins σ (upd H s.heap.objs.size (.lst ys)) { s with heap := s.heap.push { cls := .type "list", data := .seq its.toArray }, toks := t' } :=
  I.laid (fun _ _ q => Heap.get?_push_of_some _ q) (Nat.le_refl _) ⟨hz, its, 0, hv, Heap.get?_push_size _ rfl⟩
theorem Inv.fresh (I : Inv X pins σ H s) : H s.heap.objs.size = none := I.hok.fresh (Nat.le_refl _)
theorem Inv.lstM (I : Inv X pins σ H s) (hH : H l = some (.lst xs)) : xs.length ≤ sizeLine ∧ ∃ (its : List Value) (n : Nat), Vals xs its ∧ xs.length = its.length ∧ s.heap.get? l = some { cls := .type "list", data := .seq its.toArray n } := by
  obtain ⟨z, its, n, r, e⟩ := I.hok l _ hH
  exact ⟨z, its, n, r, r.length, e⟩

end

section
variable {X : Cx}

def rAppend : V → List V → Hp → VK → Prop := fun x vs H Q => ∃ l xs y, x = .ref l ∧ vs = [y] ∧ H l = some (.lst xs) ∧ xs.length < sizeLine ∧ Q .non (upd H l (.lst (xs ++ [y])))
theorem mt_append : MtM X "list.append" rAppend := by
  intro pins s σ H x vs v us Q I rx rv h
  obtain ⟨l, xs, y, rfl, rfl, hH, hz, q⟩ := h
  cases rx
  obtain ⟨u, rfl, ru⟩ := rv.one
  obtain ⟨z, its, n, r, hl, e⟩ := I.lstM hH
  refine call_meets F.slot_list_append ⟨_, e, rfl⟩ F.entry_list_append (F.args_list_append_2 _ _) (PySem.list_append l its.toArray n u (by rw [List.size_toArray]; omega)) ⟨e, ?_⟩
  refine ⟨.non, _, I.lset (its' := its ++ [u]) hH e (by simp) (r.append (.cons ru .nil)) ?_, rfl, q⟩
  rw [List.length_append, List.length_singleton]
  omega

def rReverse : V → List V → Hp → VK → Prop := fun x vs H Q => ∃ l xs, x = .ref l ∧ vs = [] ∧ H l = some (.lst xs) ∧ Q .non (upd H l (.lst xs.reverse))
theorem mt_reverse : MtM X "list.reverse" rReverse := by
  intro pins s σ H x vs v us Q I rx rv h
  obtain ⟨l, xs, rfl, rfl, hH, q⟩ := h
  cases rx
  have hus := rv.zero
  subst hus
  obtain ⟨z, its, n, r, hl, e⟩ := I.lstM hH
  refine call_meets F.slot_list_reverse ⟨_, e, rfl⟩ F.entry_list_reverse (F.args_list_reverse_1 _) (AutoSeq1.list_reverse_list_0 l its.toArray n (by rw [List.size_toArray]; omega)) ⟨e, ?_⟩
  refine ⟨.non, _, I.lset (its' := its.reverse) hH e (by simp) r.reverse ?_, rfl, q⟩
  rw [List.length_reverse]
  omega

def rCat : R2 := fun x y H Q => ∃ l b xs zs, x = .ref l ∧ y = .ref b ∧ H l = some (.lst xs) ∧ H b = some (.lst zs) ∧ xs.length + zs.length ≤ sizeLine ∧ ∀ p, H p = none → Q (.ref p) (upd H p (.lst (xs ++ zs)))
theorem op_cat : OpR X (binaryOp .Add) rCat := by
  intro pins s σ H x y v u Q I rx ry h
  obtain ⟨l, b, xs, zs, rfl, rfl, hH, hB, hz, q⟩ := h
  cases rx
  cases ry
  obtain ⟨z, its, n, r, hl, e⟩ := I.lstM hH
  obtain ⟨z2, its2, n2, r2, hl2, e2⟩ := I.lstM hB
  refine PySem.P.add_list e e2 ?_ (by rw [List.size_toArray, List.size_toArray]; omega)
  have ea : its.toArray ++ its2.toArray = (its ++ its2).toArray := by simp
  rw [ea]
  exact ⟨.ref _, _, I.lnew (t' := s.toks) (r.append r2) (by rw [List.length_append]; omega), rfl, q _ I.fresh⟩
end

section
variable {prog : Program} {w : World} {A : Around} {E : Value → Shared → Prop} {s : Shared}
end

section
variable {X : Cx}
end
end L2

namespace Att
open PySem PySem.W PySem.Calls PyProof.Rows

theorem ints_of_wellAll {P : Params} {h : Heap} : ∀ (ns : List Int) (vs : List Value), WellAll P h vs (ns.map WData.int) → IntsAre vs ns := by
  intro ns
  induction ns with
  | nil =>
    intro vs w
    rw [List.map_nil] at w
    cases w
    exact .nil
  | cons n ns ih =>
    intro vs w
    rw [List.map_cons] at w
    cases w with
    | cons a b =>
      cases a
      exact .cons _ _ (ih _ b)

theorem script_of {l : OpenLaw} {n : Nat} (hn : l.most = some n) {P : Params} {h : Heap} {args : List WData} {vals : List Value}
    (hpre : l.row.toRowW.claim.pre args = true) (hwl : WellAll P h vals args) :
    ∃ a vs ns, vals = [Value.ref a] ∧ args = [WData.list (ns.map WData.int)] ∧ h.get? a = some { cls := .type "list", data := .seq vs.toArray } ∧ IntsAre vs ns ∧ ns.length ≤ n := by
  have hsh : WShape.hasAll [] args [.list .int] = true := (pre_splitW hpre).1
  have hc : l.pre.holds [] { args := args } = true := (pre_splitW hpre).2
  obtain ⟨d, r, rfl, h1, h2⟩ := hasAllW_cons hsh
  obtain rfl := hasAllW_nil h2
  obtain ⟨xs, rfl, h3⟩ := hasW_list h1
  obtain ⟨ns, rfl⟩ := items_int h3
  have hlen : ns.length ≤ n := by
    unfold OpenLaw.pre at hc
    have h4 : (WTm.not (.lt (.lit (.int (n : Int))) (.len (.arg 0)))).holds [] { args := [.list (ns.map .int)] } = true := by
      have h4 := (holds_andW hc).1
      rw [hn] at h4
      exact h4
    have h5 := condW_of h4 (w_not (w_lt w_lit (w_len_list (w_arg rfl))))
    rw [List.length_map] at h5
    refine Nat.le_of_not_lt fun q => ?_
    have q' : (n : Int) < ((ns.length : Nat) : Int) := by omega
    first
      | (rw [decide_eq_true q'] at h5; exact absurd h5 (by decide))
      | (simp at h5; omega)
  cases hwl with
  | cons w1 w2 =>
    cases w2
    cases w1 with
    | list ho hall => exact ⟨_, _, ns, rfl, rfl, ho, ints_of_wellAll ns _ hall, hlen⟩

theorem post_true (l : OpenLaw) (args : List WData) : l.row.toRowW.claim.post args (.bool true) args = true :=
  postW_of (r := l.row.toRowW) (X := (true == true))
    (show WShape.has [] (.bool true) .bool = true by first | rfl | decide | simp [WShape.has, WShape.arms, WShape.armsAll])
    (show (WTm.eq .res (.lit (.bool true))).value [] { args := args, res := some (.bool true), after := args } = some (.bool (true == true)) from w_eq_bool (w_res rfl) w_lit) rfl

theorem attach_call {l : OpenLaw} {n : Nat} {q : Program} {loose : List Str} {XP : (Str → Option Value) → Heap → Prop} {YP : World → Heap → Prop} {d : DefRec}
    (hn : l.most = some n) (hdf : d.params.defaults = [])
    (call : ∀ (w : World) (s₀ s₁ : Shared) (mg mb : Str → Option Value) (fa : Addr) (o : Obj) (pm cd doc : Value) (a : Addr) (vs : List Value) (ns : List Int),
      Ground q loose [] XP w s₀ mg mb s₁.heap → YP w s₁.heap →
      s₁.heap.get? fa = some o → o.data = .func (docDef d.name d.params d.body d.scope pm cd doc) → s₁.heap.CodeRec cd d.name → mg d.name = some (.ref fa) →
      s₁.heap.get? a = some { cls := .type "list", data := .seq vs.toArray } → IntsAre vs ns → ns.length ≤ n → s₁.gens = #[] →
      codeAny (model l.prog w) callerA (.call (.ref fa) ⟨[.ref a], []⟩) (fun r s' => r = .ok (.ret (.bool true)) ∧ OldK s₁.heap s'.heap ∧ s'.os = s₁.os ∧ AllBare s'.gens) s₁) :
    WalkO q loose XP YP l.row.toRowW d [] (fun f vs => PySem.call f vs) := by
  intro w s₀ s₁ mg mb G Y fa o pm cd doc dV kV ho hd hcd hD hmg hg args vals as hpre hlay hrd hwl hlo
  obtain rfl : dV = .none := Dflts.none hD hdf
  obtain rfl : kV = .none := Dflts.noKw hD
  obtain ⟨a, vs, ns, rfl, rfl, hobj, hints, hlen⟩ := script_of hn hpre hwl
  refine enter_call (codeAny_mono (call w s₀ s₁ mg mb fa o pm cd doc a vs ns G Y ho (fd_plain hd) hcd hmg hobj hints hlen hg) fun r s' hq => ?_)
  obtain ⟨rfl, h2, h3, h4⟩ := hq
  exact ⟨.inl ⟨.bool true, .bool true, [], rfl, fun _ => rfl, .bool true, post_true l _, fun _ => ⟨List.Pairwise.nil, fun _ hm => (nomatch hm)⟩⟩, h2, h3, h4⟩

section
variable {prog : Program} {w : World} {A : Around} {E : Value → Shared → Prop} {s : Shared} {K : Frag}

end
end Att

namespace L2
open PySem PySem.Spec PyProof.Rows

theorem vals_ints : ∀ {vs : List Value} {ns : List Int}, IntsAre vs ns → Vals (ns.map V.int) vs
  | _, _, .nil => .nil
  | _, _, .cons n t h => .cons ⟨t, rfl⟩ (vals_ints h)

def Only (H : Hp) : Prop := ∀ b, H b = none ∨ ∃ o xs, H b = some (.frz o (.lst xs))

theorem law_call {P : Program} {w : World} {K : PySem.W.Frag} {mg mb : Str → Option Value} {CX : CXT} {k : Nat} {fa a : Addr} {fd : FuncData} {x : Str} {sp : Sp} {s₁ : Shared} {vs : List Value} {ns : List Int}
    (KX : K.In s₁.heap) (hns : s₁.heap.Ns mainGlobals mg) (hb : s₁.heap.Ns builtinsNs mb) (hbb : ∀ x : Str, x ≠ "__name__" → mb x = bootBuiltins x) (hlim : s₁.heap.NoLimit) (hg : s₁.gens = #[])
    (ha : s₁.heap.get? a = some { cls := .type "list", data := .seq vs.toArray }) (hi : IntsAre vs ns) (hl : ns.length ≤ sizeLine) (hr : Room k callerA)
    (F : ∀ base : Heap, K.In base → base.Ns mainGlobals mg → FnOk P w K mg base CX k fa fd [x] sp) (hbind : ∀ (s : Shared) (u : Value), BindsTo s fd ⟨[u], []⟩ [(x, u)])
    (hsp : ∀ H : Hp, Only H → SqL K H a (ns.map V.int) → sp [.ref a] H (fun v _ => v = .bl true) fun _ _ _ => False)
    (hCX : ∀ H e s', CX [] H s₁ (fun _ _ _ => False) e s' → False) :
    codeAny (model P w) callerA (.call (.ref fa) ⟨[.ref a], []⟩) (fun r s' => r = .ok (.ret (.bool true)) ∧ OldK s₁.heap s'.heap ∧ s'.os = s₁.os ∧ AllBare s'.gens) s₁ := by
  have rv := vals_ints hi
  have lenV := hi.length
  -- from an abstract heap in which nothing but the script may be tracked
  have core : ∀ H : Hp, Only H → SqL K H a (ns.map V.int) → HOk P w H s₁.heap → (∀ b, H b ≠ none → b = a) → (H a ≠ none → K.lookup a = none) →
      codeAny (model P w) callerA (.call (.ref fa) ⟨[.ref a], []⟩) (fun r s' => r = .ok (.ret (.bool true)) ∧ OldK s₁.heap s'.heap ∧ s'.os = s₁.os ∧ AllBare s'.gens) s₁ := by
    intro H hO hS hok hA hK
    have base_of : ∀ {b : Addr} {o : Obj}, s₁.heap.get? b = some o → H b = none → (hidT s₁.heap H).get? b = some o := fun e n => hidT_get e n
    have noA : ∀ {b : Addr} {o : Obj} {es : Array DictEntry} {ep : Nat}, s₁.heap.get? b = some o → o.data = .dict es ep → H b = none := fun {b o es ep} e d => by
      cases q : H b with
      | none => rfl
      | some u =>
        have e' : b = a := hA b (by rw [q]; simp)
        subst e'
        rw [ha] at e; cases e
        have d' : Data.seq vs.toArray _ = Data.dict es ep := d
        cases d'
    have nsK : ∀ {b : Addr} {m : Str → Option Value}, s₁.heap.Ns b m → (hidT s₁.heap H).Ns b m := fun {b m} ⟨o, es, ep, e, d, r⟩ => ⟨o, es, ep, base_of e (noA e d), d, r⟩
    have hKb : K.In (hidT s₁.heap H) := fun b o e => base_of (KX b o e) (by
      cases q : H b with
      | none => rfl
      | some u =>
        have e' : b = a := hA b (by rw [q]; simp)
        subst e'
        rw [hK (by rw [q]; simp)] at e; cases e)
    have hM : Mod K mg (hidT s₁.heap H) := ⟨hKb, nsK hns, ⟨mb, nsK hb, hbb⟩, let ⟨mc, h1, h2⟩ := hlim; ⟨mc, nsK h1, h2⟩⟩
    have e0 : Env0 P w K mg (hidT s₁.heap H) callerA [] s₁ H := ⟨rfl, hM, fun b o e => of_hidT e, Nat.le_of_eq (hidT_size _ _), trivial, fun b hb => absurd (show b ∈ ([] : List Addr) from hb) (by simp), hok, .of_eq hg⟩
    refine codeAny_mono ((F _ hKb (nsK hns)).run callerA [] s₁ H ⟨[.ref a], []⟩ [.ref a] [.ref a] _ _ hr e0 (hbind s₁ (.ref a)) (.cons rfl .nil) (hsp H hO hS)) fun r s' h => ?_
    cases r with
    | error e => exact (hCX H e s' h).elim
    | ok fl =>
      cases fl with
      | next => exact False.elim h
      | brk => exact False.elim h
      | cont => exact False.elim h
      | ret u =>
        obtain ⟨v, H', os, bare, un, hok', r', q⟩ := h
        have q' : v = .bl true := q
        subst q'
        obtain rfl : u = Value.bool true := r'
        refine ⟨rfl, OldK.of_keep fun b o e => ?_, os, bare⟩
        cases q : H b with
        | none => exact un.keep b o e q (by intro z; exact absurd (show b ∈ ([] : List Addr) from z) (by simp)) (by simp)
        | some u =>
          rcases hO b with z | ⟨ob, xs, z⟩
          · rw [q] at z; cases z
          · have z2 := un.frzs b ob _ z
            obtain ⟨e1, _⟩ := hok b _ z
            obtain ⟨e2, _⟩ := hok' b _ z2
            rw [e] at e1; cases e1
            exact e2
  cases hk : K.lookup a with
  | some o =>
    -- the script is one of the module's own objects
    have e := KX a o hk
    rw [ha] at e
    cases e
    refine core (fun _ => none) (fun _ => .inl rfl) (.inr ⟨_, vs.toArray, _, hk, rfl, rfl, rfl, by rw [List.size_toArray, lenV]; exact hl, by simpa using rv⟩) (fun b u z => by have z' : (none : Option HO) = some u := z; cases z') (fun b z => absurd rfl z) fun z => absurd rfl z
  | none =>
    refine core (fun b => if b = a then some (.frz { cls := .type "list", data := .seq vs.toArray } (.lst (ns.map V.int))) else none) (fun b => ?_) (.inl (.inr ⟨{ cls := .type "list", data := .seq vs.toArray }, if_pos rfl⟩)) (fun b u z => ?_) (fun b z => ?_) fun _ => hk
    · by_cases hb : b = a
      · exact .inr ⟨_, _, if_pos hb⟩
      · exact .inl (if_neg hb)
    · by_cases hb : b = a
      · have z' := (if_pos hb).symm.trans z
        cases z'
        subst hb
        exact ⟨ha, by rw [List.length_map]; exact hl, vs, _, rv, ha⟩
      · have z' := (if_neg hb).symm.trans z
        cases z'
    · by_cases hb : b = a
      · exact hb
      · exact absurd (if_neg hb) z
end L2

namespace L2
open PySem PySem.Spec PyProof.Rows

theorem walk_of {l : PySem.W.OpenLaw} {n k : Nat} {q : Program} {loose : List Str} {XP : (Str → Option Value) → Heap → Prop} {YP : World → Heap → Prop} {d : DefRec} {K : Params → PySem.W.Frag} {CX : World → CXT} {sp : World → Sp} {x : Str}
    (hn : l.most = some n) (hn2 : n ≤ sizeLine) (hdf : d.params.defaults = []) (hr : Room k callerA)
    (hY : ∀ (w : World) (h : Heap), YP w h → (K w.params).In h)
    (F : ∀ (w : World) (mg : Str → Option Value) (fa : Addr) (h : Heap), (K w.params).In h → h.Ns mainGlobals mg → mg d.name = some (.ref fa) →
      ∃ fd : FuncData, (∀ (s : Shared) (u : Value), BindsTo s fd ⟨[u], []⟩ [(x, u)]) ∧
        ∀ base : Heap, (K w.params).In base → base.Ns mainGlobals mg → FnOk l.prog w (K w.params) mg base (CX w) k fa fd [x] (sp w))
    (hsp : ∀ (w : World) (H : Hp) (a : Addr) (ns : List Int), ns.length ≤ n → Only H → SqL (K w.params) H a (ns.map V.int) → sp w [.ref a] H (fun v _ => v = .bl true) fun _ _ _ => False)
    (hCX : ∀ (w : World) (H : Hp) (s : Shared) (e : Value) (s' : Shared), CX w [] H s (fun _ _ _ => False) e s' → False) :
    PySem.W.WalkO q loose XP YP l.row.toRowW d [] (fun f vs => PySem.call f vs) := by
  refine Att.attach_call hn hdf fun w s₀ s₁ mg mb fa o pm cd doc a vs ns G Y ho hd hcd hmg hobj hints hlen hg => ?_
  have KX := hY w _ Y
  obtain ⟨fd, hb, hF⟩ := F w mg fa _ KX G.T.g hmg
  exact law_call KX G.T.g G.T.b G.T.builtins G.T.nolimit hg hobj hints (Nat.le_trans hlen hn2) hr hF hb (fun H hO hS => hsp w H a ns hlen hO hS) fun H e s' => hCX w H s₁ e s'
end L2

namespace L2
open PySem PySem.Spec PyProof.Rows

def defArgs (s : Stmt) : Arguments := match s with
  | .FunctionDef _ a _ _ _ _ _ _ _ _ => a
  | _ => { posonlyargs := [], args := [], vararg := none, kwonlyargs := [], kw_defaults := [], kwarg := none, defaults := [] }
def defBody (s : Stmt) : List Stmt := match s with
  | .FunctionDef _ _ b _ _ _ _ _ _ _ => b
  | _ => []
def defScope (s : Stmt) : Scope := match s with
  | .FunctionDef _ _ _ _ _ _ sc _ _ _ => sc
  | _ => { kind := .function, names := [], isGenerator := false, isCoroutine := false }

abbrev CX0 : CXT := fun _ _ _ _ _ _ => False
abbrev E0 : XK := fun _ _ _ => False
theorem pass0 {X : Cx} : Passes CX0 X E0 := fun _ _ _ _ _ _ _ h => h.elim

structure Fun (K : PySem.W.Frag) (x qual : Str) (st : Stmt) (f : Addr) (fd : FuncData) : Prop where
  ex : ∃ (oc : Value) (od : Option Addr) (kV doc pm : Value) (an : Option Addr) (cdv ct : Value) (osl : Array (Option Value)),
    fd = PySem.W.fnOf x qual (defArgs st) (defBody st) (defScope st) .none kV doc pm an cdv ct ∧ K.lookup f = some ⟨oc, od, .func fd, osl⟩ ∧ PySem.W.codeIn K cdv qual = true
  kp : PySem.W.keepIn K (.ref f) = true
section
variable {P : Program} {w : World} {K : PySem.W.Frag} {mg : Str → Option Value} {base : Heap}
theorem Fun.ok {x qual : Str} {st : Stmt} {f : Addr} {fd : FuncData} {N ps : List Str} {k : Nat} {sp : Sp} (F : Fun K x qual st f fd) (S : FnScope N ps (defScope st)) (len : ∀ vs H Q E, sp vs H Q E → vs.length = ps.length)
    (hbody : ∀ (cdv : Value) (A : Around) (outer : List Env) (s : Shared) (H : Hp) (vs : List V) (Q : VK) (E : XK), Room k (A.deeper (envOfC qual (defScope st) s.heap.objs.size f cdv)) → sp vs H Q E →
      ∃ t, PSs (cxOf CX0 P w K mg base N qual (defScope st) f cdv A outer s H E).nox (defBody st) t ∧ t { nx := fun _ H' => Q .non H', rt := Q } (start N vs) H) : FnOk P w K mg base CX0 (k + 1) f fd ps sp := by
  obtain ⟨oc, od, kV, doc, pm, an, cdv, ct, osl, rfl, lk, hcd⟩ := F.ex
  refine fn_of lk hcd S len fun A outer s H vs Q E hr hsp => ?_
  obtain ⟨t, h, q⟩ := hbody cdv A outer s H vs Q E hr hsp
  exact ⟨t, h.nox, q⟩
theorem Fun.binds {x qual : Str} {st : Stmt} {f : Addr} {fd : FuncData} {ps : List Str} (F : Fun K x qual st f fd)
    (h : ∀ (kV doc pm : Value) (an : Option Addr) (cdv ct : Value) (us : List Value), us.length = ps.length → bindArgs (PySem.W.fnOf x qual (defArgs st) (defBody st) (defScope st) .none kV doc pm an cdv ct) ⟨us, []⟩ = pure (ps.zip us)) : Binds K fd ps [] := by
  obtain ⟨oc, od, kV, doc, pm, an, cdv, ct, osl, rfl, lk, hcd⟩ := F.ex
  exact .all (h kV doc pm an cdv ct)
theorem fun_mk {x qual : Str} {st : Stmt} {f : Addr} {oc : Value} {od an : Option Addr} {osl : Array (Option Value)} {kV doc pm cdv ct : Value} (l : K.lookup f = some ⟨oc, od, .func (PySem.W.fnOf x qual (defArgs st) (defBody st) (defScope st) .none kV doc pm an cdv ct), osl⟩)
    (c : PySem.W.codeIn K cdv qual = true) (k : PySem.W.keepIn K (.ref f) = true) : Fun K x qual st f (PySem.W.fnOf x qual (defArgs st) (defBody st) (defScope st) .none kV doc pm an cdv ct) := ⟨⟨oc, od, kV, doc, pm, an, cdv, ct, osl, rfl, l, c⟩, k⟩
end
theorem hu_of {A : Around} {k : Nat} (hr : Room k A) : A.units + 1 < cLine := Nat.lt_of_le_of_lt (Nat.add_le_add_left (by decide : 1 ≤ 64) _) hr.units
section
variable {X : Cx}
theorem pv (i : Nat) {x : Str} {pos : Pos} (hN : X.N[i]? = some x := by rfl) (hv : Vis X.env.scope x := by first | exact Or.inl rfl | exact Or.inr (Or.inl rfl) | exact Or.inr (Or.inr rfl)) (hd : (x == ("__debug__" : Str)) = false := by decide)
    (hcd : (x == ("__classdict__" : Str)) = false := by decide) : PE X (.Name x pos) (tVar i) := pe_var hN hv hd hcd
end

def Same (H H' : Hp) : Prop := ∀ b o, H b = some o → H' b = some o
theorem Same.refl (H : Hp) : Same H H := fun _ _ h => h
theorem Same.trans {H H1 H2 : Hp} (a : Same H H1) (b : Same H1 H2) : Same H H2 := fun c o h => b c o (a c o h)
theorem Same.free {H H' : Hp} (e : Same H H') {l : Addr} (h : H' l = Option.none) : H l = Option.none := by
  cases q : H l with
  | none => rfl
  | some o =>
    rw [e l o q] at h
    cases h
theorem Same.seq {K : PySem.W.Frag} {H H' : Hp} {a : Addr} {xs : List V} (e : Same H H') (h : SqL K H a xs) : SqL K H' a xs := by
  rcases h with (h | ⟨o, h⟩) | h
  · exact .inl (.inl (e _ _ h))
  · exact .inl (.inr ⟨o, e _ _ h⟩)
  · exact .inr h

end L2

namespace L2
open PySem PySem.Spec PyProof.Rows

section
variable {κ : Type} [DecidableEq κ]
def valV (kvs : List (κ × V)) (k : κ) : Option V := (kvs.find? fun kv => decide (kv.1 = k)).map (·.2)
def putK (kvs : List (κ × V)) (k : κ) (v : V) : List (κ × V) :=
  if (kvs.any fun kv => decide (kv.1 = k)) = true then kvs.map (fun kv => if kv.1 = k then (kv.1, v) else kv) else kvs ++ [(k, v)]
def dropK (kvs : List (κ × V)) (k : κ) : List (κ × V) := kvs.filter fun kv => decide (kv.1 ≠ k)

theorem valV_pos {p : κ × V} {r : List (κ × V)} {k : κ} (e : p.1 = k) : valV (p :: r) k = some p.2 := by simp [valV, List.find?_cons, e]
theorem valV_neg {p : κ × V} {r : List (κ × V)} {k : κ} (e : ¬ p.1 = k) : valV (p :: r) k = valV r k := by simp [valV, List.find?_cons, e]
theorem valV_any (k : κ) : ∀ kvs : List (κ × V), (kvs.any fun kv => decide (kv.1 = k)) = (valV kvs k).isSome
  | [] => rfl
  | p :: r => by
    rw [List.any_cons]
    by_cases e : p.1 = k
    · simp only [valV_pos e, decide_eq_true e, Bool.true_or, Option.isSome_some]
    · rw [valV_neg e, decide_eq_false e, Bool.false_or]; exact valV_any k r
theorem length_putK (kvs : List (κ × V)) (k : κ) (v : V) : (putK kvs k v).length ≤ kvs.length + 1 := by
  unfold putK
  split
  · rw [List.length_map]; omega
  · rw [List.length_append, List.length_cons, List.length_nil]; omega
theorem RelO.isSome_eq {o : Option V} {u : Option Value} (r : RelO o u) : o.isSome = u.isSome := by
  cases o with
  | none => cases u with
    | none => rfl
    | some _ => exact (show False from r).elim
  | some _ => cases u with
    | none => exact (show False from r).elim
    | some _ => rfl
theorem RelO.getD {o : Option V} {u : Option Value} {d : V} {d' : Value} (r : RelO o u) (rd : RelV d d') : RelV (o.getD d) (u.getD d') := by
  cases o with
  | none => cases u with
    | none => exact rd
    | some _ => exact (show False from r).elim
  | some _ => cases u with
    | none => exact (show False from r).elim
    | some _ => exact r

theorem KV.val {kvs : List (κ × V)} {vs : List (κ × Value)} (r : KV kvs vs) (k : κ) : RelO (valV kvs k) (valueAt vs k) := by
  unfold KV at r
  induction r with
  | nil => exact True.intro
  | @cons p q ps qs h t ih =>
    obtain ⟨h1, h2⟩ := h
    by_cases e : p.1 = k
    · have e' : q.1 = k := h1.symm.trans e
      have b : valueAt (q :: qs) k = some q.2 := by simp [valueAt, List.find?_cons, e']
      rw [valV_pos e, b]; exact h2
    · have e' : ¬ q.1 = k := fun z => e (h1.trans z)
      have b : valueAt (q :: qs) k = valueAt qs k := by simp [valueAt, List.find?_cons, e']
      rw [valV_neg e, b]; exact ih
theorem KV.any {kvs : List (κ × V)} {vs : List (κ × Value)} (r : KV kvs vs) (k : κ) : (kvs.any fun kv => decide (kv.1 = k)) = vs.any fun kv => decide (kv.1 = k) := by
  unfold KV at r
  induction r with
  | nil => rfl
  | cons h t ih => rw [List.any_cons, List.any_cons, ih, h.1]
theorem KV.repl {kvs : List (κ × V)} {vs : List (κ × Value)} (r : KV kvs vs) (k : κ) {y : V} {u : Value} (ry : RelV y u) :
    KV (kvs.map fun kv => if kv.1 = k then (kv.1, y) else kv) (vs.map fun kv => if kv.1 = k then (kv.1, u) else kv) := by
  unfold KV at r ⊢
  induction r with
  | nil => exact .nil
  | @cons p q ps qs h t ih =>
    rw [List.map_cons, List.map_cons]
    refine .cons ?_ ih
    obtain ⟨h1, h2⟩ := h
    by_cases e : p.1 = k
    · rw [if_pos e, if_pos (h1.symm.trans e)]; exact ⟨h1, ry⟩
    · rw [if_neg e, if_neg (fun z => e (h1.trans z))]; exact ⟨h1, h2⟩
theorem KV.put {kvs : List (κ × V)} {vs : List (κ × Value)} (r : KV kvs vs) (k : κ) {y : V} {u : Value} (ry : RelV y u) : KV (putK kvs k y) (stored vs k u) := by
  unfold putK stored
  rw [r.any k]
  by_cases e : (vs.any fun kv => decide (kv.1 = k)) = true
  · rw [if_pos e, if_pos e]; exact r.repl k ry
  · rw [if_neg e, if_neg e]; exact Paired.snoc r ⟨rfl, ry⟩
theorem KV.drop {kvs : List (κ × V)} {vs : List (κ × Value)} (r : KV kvs vs) (k : κ) : KV (dropK kvs k) (without vs k) := by
  unfold KV at r ⊢
  unfold dropK without
  induction r with
  | nil => exact .nil
  | @cons p q ps qs h t ih =>
    obtain ⟨h1, h2⟩ := h
    rw [List.filter_cons, List.filter_cons]
    by_cases e : p.1 = k
    · have a : ¬ decide (p.1 ≠ k) = true := by simp [e]
      have b : ¬ decide (q.1 ≠ k) = true := by simp [h1.symm.trans e]
      rw [if_neg a, if_neg b]; exact ih
    · have e' : ¬ q.1 = k := fun z => e (h1.trans z)
      have a : decide (p.1 ≠ k) = true := by simp [e]
      have b : decide (q.1 ≠ k) = true := by simp [e']
      rw [if_pos a, if_pos b]; exact .cons ⟨h1, h2⟩ ih
theorem KV.keys {kvs : List (κ × V)} {vs : List (κ × Value)} (r : KV kvs vs) : kvs.map (·.1) = vs.map (·.1) := by
  unfold KV at r
  induction r with
  | nil => rfl
  | cons h t ih => rw [List.map_cons, List.map_cons, ih, h.1]
theorem KV.length {kvs : List (κ × V)} {vs : List (κ × Value)} (r : KV kvs vs) : kvs.length = vs.length := Paired.length r
end

theorem kV_is {P : Program} {w : World} {k : Key} {u : Value} (r : RelV (kV k) u) : (mixKind P w).is k u = true := by
  cases k with
  | inl i => obtain ⟨t, e⟩ := (show ∃ t, u = Value.int i t from r); subst e; exact mixKind_int P w i t
  | inr x => obtain ⟨t, e⟩ := (show ∃ t, u = Value.str x t from r); subst e; exact mixKind_str P w x t
theorem items_are {P : Program} {w : World} : ∀ {ks : List Key} {us : List Value}, Vals (ks.map kV) us → ItemsAre (mixKind P w) ks us
  | [], _, r => by rw [List.map_nil] at r; cases r; exact .nil
  | k :: ks, _, r => by
    rw [List.map_cons] at r
    cases r with
    | cons h t => exact .cons (kV_is h) (items_are t)

abbrev KT (H : Hp) : List (List Key × V) → List (List Key × Addr × Value) → Prop := Paired fun p q => p.1 = q.1 ∧ H q.2.1 = some (.tup (p.1.map kV)) ∧ RelV p.2 q.2.2
theorem KT.val {H : Hp} {kvs : List (List Key × V)} {xs : List (List Key × Addr × Value)} (r : KT H kvs xs) (k : List Key) : RelO (valV kvs k) ((atKey xs k).map (·.2)) := by
  induction r with
  | nil => exact True.intro
  | @cons p q ps qs h t ih =>
    obtain ⟨h1, _, h2⟩ := h
    by_cases e : p.1 = k
    · have e' : q.1 = k := h1.symm.trans e
      have b : atKey (q :: qs) k = some q.2 := by simp [atKey, List.find?_cons, e']
      rw [valV_pos e, b]; exact h2
    · have e' : ¬ q.1 = k := fun z => e (h1.trans z)
      have b : atKey (q :: qs) k = atKey qs k := by simp [atKey, List.find?_cons, e']
      rw [valV_neg e, b]; exact ih
theorem KT.repl {H : Hp} {kvs : List (List Key × V)} {xs : List (List Key × Addr × Value)} (r : KT H kvs xs) (k : List Key) {y : V} {u : Value} (ry : RelV y u) :
    KT H (kvs.map fun kv => if kv.1 = k then (kv.1, y) else kv) (xs.map (putAt k u)) := by
  induction r with
  | nil => exact .nil
  | @cons p q ps qs h t ih =>
    rw [List.map_cons, List.map_cons]
    refine .cons ?_ ih
    obtain ⟨h1, h2, h3⟩ := h
    unfold putAt
    by_cases e : p.1 = k
    · rw [if_pos e, if_pos (h1.symm.trans e)]; exact ⟨h1, h2, ry⟩
    · rw [if_neg e, if_neg (fun z => e (h1.trans z))]; exact ⟨h1, h2, h3⟩
theorem KT.put {H : Hp} {kvs : List (List Key × V)} {xs : List (List Key × Addr × Value)} (r : KT H kvs xs) (k : List Key) {b : Addr} {y : V} {u : Value} (hb : H b = some (.tup (k.map kV))) (ry : RelV y u) :
    KT H (putK kvs k y) (storedH xs k b u) := by
  have e : (kvs.any fun kv => decide (kv.1 = k)) = (atKey xs k).isSome := by
    rw [valV_any, (r.val k).isSome_eq, Option.isSome_map]
  unfold putK storedH
  rw [e]
  by_cases q : (atKey xs k).isSome = true
  · rw [if_pos q, if_pos q]; exact r.repl k ry
  · rw [if_neg q, if_neg q]; exact Paired.snoc r ⟨rfl, hb, ry⟩
theorem KT.keeps {H H' : Hp} {kvs : List (List Key × V)} {xs : List (List Key × Addr × Value)} (r : KT H kvs xs) (ht : ∀ b ys, H b = some (.tup ys) → H' b = some (.tup ys)) : KT H' kvs xs :=
  Paired.mapP r fun _ _ z => ⟨z.1, ht _ _ z.2.1, z.2.2⟩

section
variable {P : Program} {w : World} {H : Hp} {h : Heap} {a : Addr}
theorem rd_of {u : HO} (ok : HOk P w H h) (e : Rd H a u) : ObjOk P w H h a u := e.ok ok
theorem dk_rd {kvs : List (Key × V)} (ok : HOk P w H h) (e : Rd H a (.dK kvs)) : kvs.length ≤ sizeLine ∧ (a == sysModules) = false ∧ ∃ vs, KV kvs vs ∧ h.DictOf (mixKind P w) a vs :=
  show ObjOk P w H h a (.dK kvs) from rd_of ok e
theorem dk_of {kvs : List (Key × V)} (ok : HOk P w H h) (e : H a = some (.dK kvs)) : kvs.length ≤ sizeLine ∧ (a == sysModules) = false ∧ ∃ vs, KV kvs vs ∧ h.DictOf (mixKind P w) a vs := dk_rd ok (.inl e)
theorem key_of {ks : List Key} (ok : HOk P w H h) (e : H a = some (.tup (ks.map kV))) : (tupleKind (mixKind P w)).is h ks a := by
  obtain ⟨_, its, r, o, h1, h2, n, h3⟩ := (show ObjOk P w H h a (.tup (ks.map kV)) from ok a _ e)
  exact ⟨o, its.toArray, n, h1, h2, h3, by simpa using items_are r⟩
theorem dt_rd {kvs : List (List Key × V)} (ok : HOk P w H h) (e : Rd H a (.dT kvs)) : kvs.length ≤ sizeLine ∧ (a == sysModules) = false ∧
    ∃ xs, KT H kvs xs ∧ h.DictOfH (tupleKind (mixKind P w)) a xs := by
  obtain ⟨z, y, xs, r, o, es, ep, h1, h2, h3, h4, h5⟩ := (show ObjOk P w H h a (.dT kvs) from rd_of ok e)
  refine ⟨z, y, xs, r, o, es, ep, h1, h2, h3, h4, fun x hx => ?_, h5⟩
  have all : ∀ {l : List (List Key × V)} {m : List (List Key × Addr × Value)}, KT H l m → ∀ x ∈ m, (tupleKind (mixKind P w)).is h x.1 x.2.1 := by
    intro l m q
    induction q with
    | nil => intro x hx; exact nomatch hx
    | @cons p q ps qs hq t ih =>
      intro x hx
      rcases List.mem_cons.mp hx with e | hx
      · subst e
        exact key_of ok (by rw [← hq.1]; exact hq.2.1)
      · exact ih x hx
  exact all r x hx
theorem dt_of {kvs : List (List Key × V)} (ok : HOk P w H h) (e : H a = some (.dT kvs)) : kvs.length ≤ sizeLine ∧ (a == sysModules) = false ∧
    ∃ xs, KT H kvs xs ∧ h.DictOfH (tupleKind (mixKind P w)) a xs := dt_rd ok (.inl e)
end

def DGet (H : Hp) (a : Addr) (y : V) (r : Option V) : Prop :=
  (∃ kvs k, Rd H a (.dK kvs) ∧ y = kV k ∧ r = valV kvs k) ∨ ∃ kvs k b, Rd H a (.dT kvs) ∧ y = .ref b ∧ H b = some (.tup (k.map kV)) ∧ r = valV kvs k
def DPut (H : Hp) (a : Addr) (y v : V) (H' : Hp) : Prop :=
  (∃ kvs k, H a = some (.dK kvs) ∧ y = kV k ∧ kvs.length < sizeLine ∧ H' = upd H a (.dK (putK kvs k v))) ∨
  ∃ kvs k b, H a = some (.dT kvs) ∧ y = .ref b ∧ H b = some (.tup (k.map kV)) ∧ kvs.length < sizeLine ∧ H' = upd H a (.dT (putK kvs k v))
theorem DGet.k {H : Hp} {a : Addr} {kvs : List (Key × V)} {k : Key} (e : H a = some (.dK kvs)) : DGet H a (kV k) (valV kvs k) := .inl ⟨kvs, k, .inl e, rfl, rfl⟩
theorem DGet.t {H : Hp} {a b : Addr} {kvs : List (List Key × V)} {k : List Key} (e : H a = some (.dT kvs)) (eb : H b = some (.tup (k.map kV))) : DGet H a (.ref b) (valV kvs k) := .inr ⟨kvs, k, b, .inl e, rfl, eb, rfl⟩
theorem DPut.k {H : Hp} {a : Addr} {kvs : List (Key × V)} {k : Key} {v : V} (e : H a = some (.dK kvs)) (hl : kvs.length < sizeLine) : DPut H a (kV k) v (upd H a (.dK (putK kvs k v))) := .inl ⟨kvs, k, e, rfl, hl, rfl⟩
theorem DPut.t {H : Hp} {a b : Addr} {kvs : List (List Key × V)} {k : List Key} {v : V} (e : H a = some (.dT kvs)) (eb : H b = some (.tup (k.map kV))) (hl : kvs.length < sizeLine) :
    DPut H a (.ref b) v (upd H a (.dT (putK kvs k v))) := .inr ⟨kvs, k, b, e, rfl, eb, hl, rfl⟩

section
variable {X : Cx} {pins : List (Addr × Obj)} {σ : St} {H : Hp} {s : Shared} {a : Addr} {y v : V} {u r : Value} {o : Option V} {A : Around} {E : Value → Shared → Prop}

theorem Inv.big (I : Inv X pins σ H s) : sysModules < s.heap.objs.size := by
  have h : mainGlobals < s.heap.objs.size := (I.mod.glob.keeps I.bk).lt
  exact Nat.lt_trans (by decide) h

theorem d_getItem {Q : Value → Shared → Prop} (hu : A.units + 1 < cLine) (I : Inv X pins σ H s) (g : DGet H a y (some v)) (ry : RelV y u) (h : ∀ w' s', Inv X pins σ H s' → RelV v w' → Q w' s') :
    wpAny (model X.prog X.w) A (getItem (.ref a) u) Q E s := by
  rcases g with ⟨kvs, k, e, ey, l⟩ | ⟨kvs, k, b, e, ey, eb, l⟩
  · subst ey
    obtain ⟨z, hd, vs, rel, dd⟩ := dk_rd I.hok e
    obtain ⟨w', hw, rw'⟩ := RelO.some_of (v := v) (o := valueAt vs k) (by rw [l]; exact rel.val k)
    exact wpAny_getItem_of (kV_is ry) dd.mapOf hw (h w' _ (I.tok _) rw')
  · subst ey
    cases (show u = Value.ref b from ry)
    obtain ⟨z, hd, xs, rel, dd⟩ := dt_rd I.hok e
    obtain ⟨w', hw, rw'⟩ := RelO.some_of (v := v) (o := (atKey xs k).map (·.2)) (by rw [l]; exact rel.val k)
    obtain ⟨p, hp, hp2⟩ := Option.map_eq_some_iff.mp hw
    refine wpAny_getItem_heap (tupleKind_room_in1 hu) (key_of I.hok eb) dd hp ?_
    rw [hp2]
    exact h w' _ (I.tok _) rw'
theorem d_write {h' : Heap} {t' : Nat} {ob : HO} (I : Inv X pins σ H s) (mu : Mut (H a)) (hs : Heap.SameBut a s.heap h') (he : ∃ q, h'.get? a = some q) (new : ObjOk X.prog X.w (upd H a ob) h' a ob) :
    Inv X pins σ (upd H a ob) { s with heap := h', toks := t' } :=
  I.write (x := a) (e := a) mu (.inl rfl) (fun b q hb z => (hs.2 b hb).trans z) he new
theorem dk_new {P : Program} {w : World} {H' : Hp} {h' : Heap} {kvs : List (Key × V)} {vs : List (Key × Value)} (z : kvs.length ≤ sizeLine) (hd : (a == sysModules) = false) (rel : KV kvs vs) (dd : h'.DictOf (mixKind P w) a vs) :
    ObjOk P w H' h' a (.dK kvs) := ⟨z, hd, vs, rel, dd⟩
theorem d_setItem {H' : Hp} {Q : Unit → Shared → Prop} (hu : A.units + 1 < cLine) (I : Inv X pins σ H s) (g : DPut H a y v H') (ry : RelV y u) (rv : RelV v r) (h : ∀ s', Inv X pins σ H' s' → Q () s') :
    wpAny (model X.prog X.w) A (setItem (.ref a) u r) Q E s := by
  rcases g with ⟨kvs, k, e, ey, l, eH⟩ | ⟨kvs, k, b, e, ey, eb, l, eH⟩
  · subst ey eH
    obtain ⟨z, hd, vs, rel, dd⟩ := dk_of I.hok e
    have hz : vs.length ≤ sizeLine := by rw [← rel.length]; exact z
    have hl : (putK kvs k v).length ≤ sizeLine := by have := length_putK kvs k v; omega
    refine wpAny_setItem_pairs (hsz := hz) (kV_is ry) dd fun h' dd' hs => h _ ?_
    have he : ∃ q, h'.get? a = some q := let ⟨q, _, _, hq, _⟩ := dd'; ⟨q, hq⟩
    exact d_write I (by rw [e]; exact True.intro) hs he (dk_new hl hd (rel.put k rv) dd')
  · subst ey eH
    cases (show u = Value.ref b from ry)
    obtain ⟨z, hd, xs, rel, dd⟩ := dt_of I.hok e
    have hz : xs.length ≤ sizeLine := by rw [← Paired.length rel]; exact z
    have hl : (putK kvs k v).length ≤ sizeLine := by have := length_putK kvs k v; omega
    refine wpAny_setItem_heap (hsz := hz) (tupleKind_room_in1 hu) (key_of I.hok eb) dd fun h' dd' hs => h _ ?_
    obtain ⟨q, es, ep, hq, h2, h3, h4, _, h5⟩ := dd'
    refine d_write I (by rw [e]; exact True.intro) hs ⟨q, hq⟩ ⟨hl, hd, _, (rel.put k eb rv).keeps fun c ys ec => ?_, q, es, ep, hq, h2, h3, h4, h5⟩
    rw [upd_ne (ne_of ec e (fun z => nomatch z))]
    exact ec
end

section
variable {X : Cx} {pins : List (Addr × Obj)} {σ : St} {H : Hp} {s : Shared} {a : Addr} {kvs : List (Key × V)} {k : Key} {u : Value} {A : Around} {E : Value → Shared → Prop}
end

def NoSl (i : Expr) : Prop := ∀ ov iv, subscripted i false ov iv = operate [ov, iv] (getItem ov iv)
theorem subD_of {prog : Program} {w : World} {A : Around} {E : Value → Shared → Prop} {s : Shared} {env : Env} {value slice : Expr} {pos : Pos} {T id : String} {Q : Value → Shared → Prop}
    (hl : typeLookup (.type T) "__getitem__" = pure (some (.builtin id))) (hs : NoSl slice)
    (h : wpAny (model prog w) A (eval value env) (fun o s₁ => wpAny (model prog w) A (eval slice env) (fun i s₂ => s₂.TypeIs o T ∧ wpAny (model prog w) A (getItem o i) Q E s₂) E s₁) E s) :
    wpAny (model prog w) A (eval (.Subscript value slice pos) env) Q E s := by
  refine Subscript_ (wpAny_mono h (fun o s₁ h₁ => wpAny_mono h₁ (fun i s₂ h₂ => ?_) fun _ _ x => x) fun _ _ x => x)
  obtain ⟨hT, h₂⟩ := h₂
  unfold subscriptTail
  refine wpAny_bind ?_
  rw [getitemInPython_of_ne hT.not_modules]
  refine wpAny_bind (wpAny_specialOf hT hl ?_)
  have fin : wpAny (model prog w) A (subscripted slice false o i) (fun r s₃ => wpAny (model prog w) A (letTemporaryGo value o r >>= fun _ => pure r) Q E s₃) E s₂ := by
    rw [hs o i]
    exact wpAny_operating (wpAny_mono h₂ (fun r s₃ h₃ => wpAny_bind (wpAny_letTemporaryGo (wpAny_pure h₃))) fun _ _ x => x)
  first
    | exact wpAny_pure (wpAny_bind fin)
    | exact wpAny_bind (wpAny_pure (wpAny_bind fin))
    | exact wpAny_bind fin

theorem dict_typeIs {X : Cx} {pins : List (Addr × Obj)} {σ : St} {H : Hp} {s : Shared} {a : Addr} {y : V} {o : Option V} (I : Inv X pins σ H s) (g : DGet H a y o) : s.TypeIs (.ref a) "dict" := by
  rcases g with ⟨kvs, k, e, _, _⟩ | ⟨kvs, k, b, e, _, _, _⟩
  · obtain ⟨_, _, vs, _, dd⟩ := dk_rd I.hok e
    exact dd.typeIs
  · obtain ⟨_, _, xs, _, dd⟩ := dt_rd I.hok e
    exact dd.typeIs
def tDGet (td ty : TE) : TE := fun σ H Q => td σ H fun x H1 => ty σ H1 fun y H2 => ∃ a v, x = .ref a ∧ DGet H2 a y (some v) ∧ Q v H2
def sDPut (td ty tv : TE) : TS := fun D σ H => tv σ H fun v H1 => td σ H1 fun x H2 => ty σ H2 fun y H3 => ∃ a H4, x = .ref a ∧ DPut H3 a y v H4 ∧ D.nx σ H4
section
variable {X : Cx} {o i e value : Expr} {pos pos' tpos : Pos} {td ty tv : TE}
theorem pe_dget (hu : X.A.units + 1 < cLine) (ho : PE X o td) (hi : PE X i ty) (hs : NoSl i) : PE X (.Subscript o i pos) (tDGet td ty) := by
  intro pins s σ H Q I h
  refine subD_of PySem.F.slot_dict_getitem.lookup hs (thn (ho pins s σ H _ I h) fun u s1 ⟨x, H1, I1, rx, q1⟩ => thn (hi pins s1 σ H1 _ I1 q1) fun iv s2 ⟨y, H2, I2, ry, a, v, ex, g, q2⟩ => ?_)
  subst ex
  obtain rfl : u = Value.ref a := rx
  exact ⟨dict_typeIs I2 g, d_getItem hu I2 g ry fun w' s3 I3 rw' => ⟨v, H2, I3, rw', q2⟩⟩
theorem ps_dput (hu : X.A.units + 1 < cLine) (ho : PE X o td) (hi : PE X i ty) (hv : PE X value tv) (hs : swapsWith value (some (.Subscript o i pos')) pos.line X.env = pure false) :
    PS X (.Assign [.Subscript o i pos'] value pos) (sDPut td ty tv) := by
  intro pins s σ H D I h
  refine wpAny_Assign_Subscript (thn (hv pins s σ H _ I h) fun r s1 ⟨v, H1, I1, rv, q1⟩ => thn (ho pins s1 σ H1 _ I1 q1) fun u s2 ⟨x, H2, I2, rx, q2⟩ => thn (hi pins s2 σ H2 _ I2 q2) fun iv s3 ⟨y, H3, I3, ry, a, H4, ex, g, q3⟩ => ?_) hs
  subst ex
  obtain rfl : u = Value.ref a := rx
  exact d_setItem hu I3 g ry rv fun s4 I4 => ⟨σ, H4, I4, q3⟩
end

theorem dk_empty {P : Program} {w : World} {H : Hp} (h : Heap) (hb : sysModules < h.objs.size) : ObjOk P w H (h.push { cls := .type "dict", data := .dict #[] }) h.objs.size (.dK []) :=
  ⟨Nat.zero_le _, beq_eq_false_iff_ne.mpr (Ne.symm (Nat.ne_of_lt hb)), [], .nil, Heap.DictOf.new h⟩
def tDNewK : TE := fun _ H Q => ∀ p, H p = none → Q (.ref p) (upd H p (.dK []))
section
variable {X : Cx} {pos : Pos}
theorem pe_dnewK : PE X (.Dict [] [] pos) tDNewK := fun pins s σ H Q I h =>
  wpAny_Dict_empty ⟨.ref s.heap.objs.size, _, I.laid (a := s.heap.objs.size) (o := .dK []) (t' := s.toks) (fun _ _ q => Heap.get?_push_of_some _ q) (Nat.le_refl _) (dk_empty s.heap I.big), rfl, h _ (I.hok.fresh (Nat.le_refl _))⟩
end

structure M1 (X : Cx) (o : Expr) (m : Str) (apos : Pos) (e : Expr) (cpos : Pos) : Prop where
  base : attributeBase o m X.env (eval o X.env) = eval o X.env
  few : ((backTo cpos (starEach [e] X.env)).all (fun x => !x.1) && (backToKw cpos (keywordEach [] X.env)).all (fun x => x.1.isSome)
    && decide (([e] : List Expr).length + ([] : List Keyword).length + (if ([] : List Keyword).isEmpty then 0 else 1) < 30)) = true
  line : (apos.endLine == cpos.line) = true
  trees : backTo cpos (starEach [e] X.env) = [(false, eval e X.env)]
structure M2 (X : Cx) (o : Expr) (m : Str) (apos : Pos) (e f : Expr) (cpos : Pos) : Prop where
  base : attributeBase o m X.env (eval o X.env) = eval o X.env
  few : ((backTo cpos (starEach [e, f] X.env)).all (fun x => !x.1) && (backToKw cpos (keywordEach [] X.env)).all (fun x => x.1.isSome)
    && decide (([e, f] : List Expr).length + ([] : List Keyword).length + (if ([] : List Keyword).isEmpty then 0 else 1) < 30)) = true
  line : (apos.endLine == cpos.line) = true
  trees : backTo cpos (starEach [e, f] X.env) = [(false, eval e X.env), (false, eval f X.env)]

def IsD (H : Hp) (a : Addr) : Prop := (∃ kvs, Rd H a (.dK kvs)) ∨ ∃ kvs, Rd H a (.dT kvs)
theorem isD_at {X : Cx} {pins : List (Addr × Obj)} {σ : St} {H : Hp} {s : Shared} {a : Addr} (I : Inv X pins σ H s) (d : IsD H a) :
    s.TypeIs (.ref a) "dict" ∧ (∀ b, Value.ref a = .ref b → ∃ ob, s.heap.get? b = some ob ∧ ob.dict = none) ∧ (a == sysModules) = false := by
  rcases d with ⟨kvs, e⟩ | ⟨kvs, e⟩
  · obtain ⟨_, hd, vs, _, dd⟩ := dk_rd I.hok e
    refine ⟨dd.typeIs, fun b q => ?_, hd⟩
    cases q
    obtain ⟨ob, _, _, h1, h2, _⟩ := dd
    exact ⟨ob, h1, h2.2.1⟩
  · obtain ⟨_, hd, xs, _, dd⟩ := dt_rd I.hok e
    refine ⟨dd.typeIs, fun b q => ?_, hd⟩
    cases q
    obtain ⟨ob, _, _, h1, h2, _⟩ := dd
    exact ⟨ob, h1, h2.2.1⟩

section
variable {X : Cx} {pins : List (Addr × Obj)} {σ : St} {H : Hp} {s : Shared} {a : Addr} {y d : V} {u r : Value} {o : Option V} {A : Around} {E : Value → Shared → Prop}
theorem d_get2 {Q : Value → Shared → Prop} (hu : A.units + 1 < cLine) (I : Inv X pins σ H s) (g : DGet H a y o) (ry : RelV y u) (rd : RelV d r) (h : ∀ w' s', Inv X pins σ H s' → RelV (o.getD d) w' → Q w' s') :
    wpAny (model X.prog X.w) A (call (.builtin "dict.get") [.ref a, u, r]) Q E s := by
  rcases g with ⟨kvs, k, e, ey, l⟩ | ⟨kvs, k, b, e, ey, eb, l⟩
  · subst ey
    obtain ⟨z, hd, vs, rel, dd⟩ := dk_rd I.hok e
    refine call_meetsIn PySem.F.slot_dict_get dd.typeIs PySem.F.entry_dict_get (PySem.F.args_dict_get_3 _ _ _) (meets_dict_get_default (mixKind X.prog X.w) a (kV_is ry) hd r) ⟨_, dd.mapOf, h _ _ (I.tok _) ?_⟩
    rw [l]
    exact (rel.val k).getD rd
  · subst ey
    cases (show u = Value.ref b from ry)
    obtain ⟨z, hd, xs, rel, dd⟩ := dt_rd I.hok e
    refine call_meetsIn PySem.F.slot_dict_get dd.typeIs PySem.F.entry_dict_get (PySem.F.args_dict_get_3 _ _ _) (meetsH_dict_get_default (tupleKind (mixKind X.prog X.w)) a b hd r) ⟨tupleKind_room_in1 hu, k, xs, key_of I.hok eb, dd, h _ _ (I.tok _) ?_⟩
    rw [l]
    exact (rel.val k).getD rd
end

def tDGet2 (td ty tx : TE) : TE := fun σ H Q => td σ H fun x H1 => ∃ a, x = .ref a ∧ IsD H1 a ∧ ty σ H1 fun y H2 => tx σ H2 fun z H3 => ∃ o, DGet H3 a y o ∧ Q (o.getD z) H3
section
variable {X : Cx} {o e f : Expr} {apos cpos : Pos} {td ty tx : TE}
theorem pe_dget2 (hu : X.A.units + 1 < cLine) (ho : PE X o td) (he : PE X e ty) (hf : PE X f tx) (m : M2 X o "get" apos e f cpos) : PE X (.Call (.Attribute o "get" apos) [e, f] [] cpos) (tDGet2 td ty tx) := by
  intro pins s σ H Q I h
  refine wpAny_Call_method m.base m.few m.line PySem.F.plainAttrs_dict PySem.F.slot_dict_get PySem.F.type_dict_get (thn (ho pins s σ H _ I h) fun u s1 ⟨x, H1, I1, rx, a, ex, d, q1⟩ => ?_)
  subst ex
  obtain rfl : u = Value.ref a := rx
  obtain ⟨t1, t2, _⟩ := isD_at I1 d
  refine ⟨t1, t2, ?_⟩
  rw [m.trees]
  refine Calls.callWith_builtin rfl (Calls.evalArgs_plain (Calls.spliced_cons (thn (he pins s1 σ H1 _ I1 q1) fun iv s2 ⟨y, H2, I2, ry, q2⟩ =>
    Calls.spliced_cons (thn (hf pins s2 σ H2 _ I2 q2) fun fv s3 ⟨z, H3, I3, rz, ov, g, q3⟩ => Calls.spliced_nil ?_))))
  exact d_get2 hu I3 g ry rz fun w' s4 I4 rw' => ⟨_, H3, I4, rw', q3⟩
end

section
variable {X : Cx} {pins : List (Addr × Obj)} {σ : St} {H : Hp} {s : Shared} {a : Addr} {kvs : List (Key × V)} {A : Around} {E : Value → Shared → Prop}
end

section
variable {X : Cx} {pins : List (Addr × Obj)} {σ : St} {H : Hp} {s : Shared} {a : Addr} {y : V} {u : Value} {A : Around} {E : Value → Shared → Prop}
end
end L2
namespace L2
open PySem PySem.Spec PyProof.Rows

def PIfs (X : Cx) (ifs : List Expr) (t : TT) : Prop :=
  ∀ (pins : List (Addr × Obj)) (s : Shared) (σ : St) (H : Hp) (Q : Bool → Hp → Prop), Inv X pins σ H s → t σ H Q →
    wpAny (model X.prog X.w) X.A (forIn ifs true fun c r => if r = true then do let ok ← isTrue c X.env (eval c X.env); pure (ForInStep.yield ok) else pure (ForInStep.yield r)) (TP X pins σ Q) X.xe s
def tYes : TT := fun _ H Q => Q true H
theorem pifs_nil {X : Cx} : PIfs X [] tYes := fun _ _ _ H _ I h => wpAny_tests_nil ⟨H, I, h⟩
def blk (X : Cx) (sc : Scope) (cl : List (Str × Addr)) (N' : List Str) (C : Addr) (s : Shared) (H : Hp) (fp : List Addr) : Cx where
  prog := X.prog
  w := X.w
  K := X.K
  mg := X.mg
  base := X.base
  A := X.A
  N := N'
  s₀ := s
  H₀ := H
  env := compEnvC sc cl C X.env
  outer := X.stack
  stack := X.stack
  ex := fp
  fn := fun _ => false
  calm := X.calm
  pn := []
  xe := fun _ _ => False

def impS (imp : List (Option Nat)) (σ : St) : St := imp.map fun o => match o with
  | none => none
  | some k => (σ[k]?).join

structure Blk (X : Cx) (sc : Scope) (cl : List (Str × Addr)) (N' : List Str) (imp : List (Option Nat)) : Prop where
  clos : closureFor sc X.env = pure cl
  kind : sc.kind = .function
  nocell : ∀ y ∈ sc.names, y.2 ≠ .cell
  names : ∀ y ∈ sc.names, y.2 = .local → sc.names.lookup y.1 = some .local
  sub : ∀ p ∈ cl, X.env.cells.lookup p.1 = some p.2
  has : ∀ y ∈ (relabel sc X.env).names, (y.2 = .cell ∨ y.2 = .free) → (cl.lookup y.1).isSome = true
  len : imp.length = N'.length
  im : ∀ p ∈ imp.zip N', ∀ k, p.1 = some k → X.N[k]? = some p.2 ∧ (X.env.scope.names.lookup p.2 = some .cell ∨ X.env.scope.names.lookup p.2 = some .free) ∧ ((relabel sc X.env).names.lookup p.2 = some .cell ∨ (relabel sc X.env).names.lookup p.2 = some .free)

def tComp (wi : TI) (g : TG) (tt : TT) (te : TE) (imp : List (Option Nat)) : TE := fun σ H Q => wi σ H fun J H1 => ∃ W : Nat → Nat → List V → St → Hp → Prop, (∃ m, W 0 m [] (impS imp σ) H1) ∧ ∀ i m ys σ' H', W i m ys σ' H' →
  (J.stop i H' ∧ ys.length ≤ sizeLine ∧ ∀ D, H' D = none → Q (.ref D) (upd H' D (.lst ys))) ∨
  (J.go i H' ∧ ys.length < sizeLine ∧ ∃ N : List V → St → Hp → Prop, (∀ ys' σ2 H2, N ys' σ2 H2 → ∃ m', m' < m ∧ W (i + 1) m' ys' σ2 H2) ∧
    ∀ x H2, J.yld i H' x H2 → g x σ' H2 fun σ2 H3 => tt σ2 H3 fun b H4 => if b = true then te σ2 H4 fun y H5 => N (ys ++ [y]) σ2 H5 else N ys σ2 H4)

section
variable {P : Program} {w : World} {H : Hp} {h h' : Heap}
theorem HOk.sameBut {C : Addr} (x : HOk P w H h) (hC : H C = none) (k : ∀ b o, b ≠ C → h.get? b = some o → h'.get? b = some o) : HOk P w H h' := fun a o e =>
  (x a o e).stay (fun b u hb q => k b u (by
    rintro rfl
    rcases hb with z | z
    · rw [← z, hC] at e; cases e
    · rw [hC] at z; cases z) q) (fun _ q => q) fun _ _ q => q
theorem HOk.track {D : Addr} {o : HO} (x : HOk P w H h) (hD : H D = none) (new : ObjOk P w (upd H D o) h D o) : HOk P w (upd H D o) h := fun b u e => by
  by_cases hb : b = D
  · subst hb; rw [upd_same] at e; cases e; exact new
  · rw [upd_ne hb] at e
    exact (x b u e).stay (fun c v _ q => q) (fun c q => by rw [upd_ne (ne_of_none q hD)]; exact q) fun c xs q => by rw [upd_ne (ne_of_none q hD)]; exact q
end

theorem lookup_mem {α : Type} {x : Str} {c : α} : ∀ {l : List (Str × α)}, l.lookup x = some c → (x, c) ∈ l := fun h => PySem.mem_of_lookup h

section
variable {X : Cx} {tg iter elt : Expr} {ifs : List Expr} {sc : Scope} {cl : List (Str × Addr)} {N' : List Str} {imp : List (Option Nat)} {pos : Pos} {wi : TI} {g : TG} {tt : TT} {te : TE}

theorem Blk.subL (B : Blk X sc cl N' imp) : ∀ x c, cl.lookup x = some c → X.env.cells.lookup x = some c := fun x c e => B.sub (x, c) (lookup_mem e)

theorem blk_inv {pins : List (Addr × Obj)} {σ : St} {H : Hp} {s : Shared} {fp : List Addr} {h₁ : Heap} {C : Addr} (B : Blk X sc cl N' imp) (I : Inv X pins σ H s) (hf : ∀ b ∈ fp, FpOk X pins H b) (hfo : ∀ b ∈ fp, ∃ o, s.heap.get? b = some o)
    (hC : s.heap.objs.size < C) (old : ∀ b o, s.heap.get? b = some o → h₁.get? b = some o) (ns : h₁.Ns C fun _ => none) :
    Inv (blk X sc cl N' C s H fp) [] (impS imp σ) H { s with heap := h₁, toks := s.toks } := by
  have hlt : ∀ b ∈ fp, b < s.heap.objs.size := fun b hb => let ⟨_, e⟩ := hfo b hb; Heap.lt_size e
  have clt : ∀ x c, X.env.cells.lookup x = some c → c < s.heap.objs.size := fun x c e => let ⟨_, q⟩ := I.cell x c e; q.lt
  have ok : (blk X sc cl N' C s H fp).Ok := {
    mod := I.ok.mod
    kind := B.kind
    glob := I.ok.glob
    blt := I.ok.blt
    above := Nat.le_of_lt hC
    inj := fun x y c h1 h2 => I.ok.inj x y c (B.subL x c h1) (B.subL y c h2)
    has := fun x hx => by
      have hx' : (relabel sc X.env).names.lookup x = some .cell ∨ (relabel sc X.env).names.lookup x = some .free := hx
      have : (cl.lookup x).isSome = true := by
        rcases hx' with z | z
        · exact B.has (x, .cell) (lookup_mem z) (.inl rfl)
        · exact B.has (x, .free) (lookup_mem z) (.inr rfl)
      exact Option.isSome_iff_exists.mp this
    cab := fun x c z => nomatch z
    hd := I.ok.hd
    frames := I.ok.frames
    stk := .inl rfl
    exf := fun b hb => ⟨Nat.ne_of_lt (Nat.lt_trans (hlt b hb) hC), fun x c e => (hf b hb).2.2.2.2.1 x c (B.subL x c e)⟩
    bs := I.bs
    bsz := Nat.le_trans I.ok.bsz I.sz
    noex := fun b o e hb => by
      rcases (hf b hb).2.2.2.1 with z | z
      · exact I.ok.noex b o e z
      · exact absurd (Nat.lt_of_lt_of_le (Heap.lt_size e) (Nat.le_trans I.ok.bsz z)) (Nat.lt_irrefl _)
    exfs := fun b hb z => by
      rcases List.mem_cons.mp (I.stkSub b z) with q | q
      · exact (hf b hb).2.1 q
      · exact (hf b hb).2.2.1 q
    funs := I.stack
    frf := I.stkFree }
  refine ⟨ok, rfl, I.bare, Un.kept old, ⟨_, ns, fun i x v h1 h2 h3 => ?_⟩, fun x c e => ?_, I.hok.fresh (Nat.le_of_lt hC), fun x c e => I.freeC x c (B.subL x c e), fun p hp => absurd (show p ∈ ([] : List (Addr × Obj)) from hp) (by simp), I.hok.kept old, ?_⟩
  · have h1' : N'[i]? = some x := h1
    have h2' : (imp.map fun o => match o with | none => none | some k => (σ[k]?).join)[i]? = some (some v) := h2
    rw [List.getElem?_map] at h2'
    cases e : imp[i]? with
    | none => rw [e] at h2'; cases h2'
    | some q =>
      rw [e] at h2'
      cases q with
      | none => cases h2'
      | some k =>
        have h2'' : (σ[k]?).join = some v := Option.some.inj h2'
        have hk : σ[k]? = some (some v) := by
          cases e' : σ[k]? with
          | none => rw [e'] at h2''; cases h2''
          | some z => rw [e'] at h2''; cases z with
            | none => cases h2''
            | some z => cases h2''; rfl
        have hm : (some k, x) ∈ imp.zip N' := by
          refine List.mem_of_getElem? (i := i) ?_
          rw [List.getElem?_zip_eq_some]
          exact ⟨e, h1'⟩
        obtain ⟨b1, b2, b3⟩ := B.im _ hm k rfl
        obtain ⟨m, hn, hl⟩ := I.loc
        obtain ⟨u, r, l⟩ := hl k x v b1 hk (b2.elim (fun z => .inr (.inl z)) fun z => .inr (.inr z))
        refine ⟨u, r, .inr ⟨b3, ?_⟩⟩
        have hc : ∃ c, X.env.cells.lookup x = some c ∧ s.heap.IsCell c (some u) := by
          rcases l with ⟨z, _⟩ | ⟨_, z⟩
          · have z' : X.env.scope.names.lookup x = some .local := z
            rcases b2 with y | y <;> rw [y] at z' <;> cases z'
          · exact z
        obtain ⟨c, hc, oc, ho, hd⟩ := hc
        obtain ⟨c', hc'⟩ := ok.has x b3
        have e2 := B.subL x c' hc'
        rw [hc] at e2; cases e2
        exact ⟨c, hc', oc, old c oc ho, hd⟩
  · obtain ⟨v, o, ho, hd⟩ := I.cell x c (B.subL x c e)
    exact ⟨v, o, old c o ho, hd⟩
  · show (imp.map _).length = N'.length
    rw [List.length_map]; exact B.len

theorem blk_end {pins pn : List (Addr × Obj)} {σ σ' : St} {H2 H' : Hp} {s2 s4 : Shared} {fp : List Addr} {C D : Addr} {Cs : Addr} {ys : List V} {its : List Value} {k : Nat} {h' : Heap} (I2 : Inv X pins σ H2 s2) (f2 : ∀ b ∈ fp, FpOk X pins H2 b)
    (I5 : Inv (blk X sc cl N' C s2 H2 fp) pn σ' H' s4) (hC : s2.heap.objs.size < C) (hD : H' D = none) (hDs : s2.heap.objs.size ≤ D) (hDC : D ≠ C) (eD : s4.heap.get? D = some { cls := .type "list", data := .seq its.toArray k })
    (rv : Vals ys its) (hz : ys.length ≤ sizeLine) (hsb : Heap.SameBut C s4.heap h') : Inv X pins σ (upd H' D (.lst ys)) { s4 with heap := h' } := by
  have U : Un (frs X.stack) fp H2 H' s2.heap s4.heap := I5.base
  have kk : ∀ b o, b ≠ C → s4.heap.get? b = some o → h'.get? b = some o := hsb.extBut
  have hC' : H' C = none := I5.free
  have ok1 : HOk X.prog X.w H' h' := HOk.sameBut (C := C) I5.hok hC' kk
  have ok2 : HOk X.prog X.w (upd H' D (.lst ys)) h' := ok1.track hD ⟨hz, its, k, rv, kk _ _ hDC eD⟩
  have lt : ∀ b o, s2.heap.get? b = some o → b ≠ C ∧ b ≠ D := fun b o e => ⟨Nat.ne_of_lt (Nat.lt_trans (Heap.lt_size e) hC), Nat.ne_of_lt (Nat.lt_of_lt_of_le (Heap.lt_size e) hDs)⟩
  refine I2.call' (s' := { s4 with heap := h' }) (ch := fp) I5.os ⟨fun b o e n hb hx => kk b o (lt b o e).1 (U.keep b o e n hb hx), fun b o e n hb hx => ?_, fun b o e n hx => ?_, fun b o e hx => ?_, fun b xs e => ?_, fun b o u e => ?_, fun b ps e => ?_⟩ ok2 I5.bare
    fun b hb => ⟨(f2 b hb).2.2.2.1, (f2 b hb).2.1, (f2 b hb).2.2.2.2.1, (f2 b hb).2.2.2.2.2⟩
  · obtain ⟨sl, q⟩ := U.slot b o e n hb hx
    exact ⟨sl, kk b _ (lt b o e).1 q⟩
  · rw [upd_ne (lt b o e).2]; exact U.free b o e n hx
  · obtain ⟨o', q⟩ := U.there b o e hx
    exact ⟨o', kk b o' (lt b o e).1 q⟩
  · have q := U.tups b xs e
    rw [upd_ne (ne_of_none q hD)]; exact q
  · have q := U.frzs b o u e
    rw [upd_ne (ne_of_none q hD)]; exact q
  · obtain ⟨more, q⟩ := U.tbls b ps e
    exact ⟨more, by rw [upd_ne (ne_of_none q hD)]; exact q⟩

def CompK (g : TG) (tt : TT) (te : TE) (imp : List (Option Nat)) (σ : St) (Q : VK) (J : It) (H1 : Hp) : Prop := ∃ W : Nat → Nat → List V → St → Hp → Prop, (∃ m, W 0 m [] (impS imp σ) H1) ∧ ∀ i m ys σ' H', W i m ys σ' H' →
  (J.stop i H' ∧ ys.length ≤ sizeLine ∧ ∀ D, H' D = none → Q (.ref D) (upd H' D (.lst ys))) ∨
  (J.go i H' ∧ ys.length < sizeLine ∧ ∃ N : List V → St → Hp → Prop, (∀ ys' σ2 H2, N ys' σ2 H2 → ∃ m', m' < m ∧ W (i + 1) m' ys' σ2 H2) ∧
    ∀ x H2, J.yld i H' x H2 → g x σ' H2 fun σ2 H3 => tt σ2 H3 fun b H4 => if b = true then te σ2 H4 fun y H5 => N (ys ++ [y]) σ2 H5 else N ys σ2 H4)
theorem comp_core {pins : List (Addr × Obj)} {σ : St} {Q : VK} {itv : Value} {s2 : Shared} {RR : Value → Addr → Result → Shared → Prop} {E : Value → Shared → Prop} (hc : X.calm = true) (B : Blk X sc cl N' imp)
    (hg : ∀ C s H fp, PG (blk X sc cl N' C s H fp) tg g) (ht : ∀ C s H fp, PIfs (blk X sc cl N' C s H fp) ifs tt) (he : ∀ C s H fp, PE (blk X sc cl N' C s H fp) elt te)
    (h2 : PIE X pins σ tg (CompK g tt te imp σ Q) itv s2)
    (fin : ∀ (C D : Addr) (s4 : Shared) (H' : Hp) (ys : List V) (m : Str → Option Value), s2.heap.objs.size < C → s4.heap.Ns C m → H' C = none → (∀ h', Heap.SameBut C s4.heap h' → Inv X pins σ H' { s4 with heap := h' }) → Q (.ref D) H' → RR (.ref D) C (.ok .next) s4) :
    wpAny (model X.prog X.w) X.A (newList []) (fun acc s₃ => wpAny (model X.prog X.w) X.A (newFunctionEnv sc X.env.globals cl [] X.env.qual none .none (some X.env)) (fun cenv s₄ =>
      codeAny (model X.prog X.w) X.A (.compStart (.ListComp elt [⟨tg, iter, ifs, 0⟩] sc pos) 0 itv acc { cenv with scope := relabel sc X.env }) (RR acc cenv.locals) s₄) E s₃) E s2 := by
  obtain ⟨it, fp, tn, J, H2, e, I2, T, st2, f2, W, ⟨m0, w0⟩, turn⟩ := h2
  subst e
  refine wpAny_newObj_type (wpAny_newFunctionEnv B.nocell (by intro y hy; simp at hy) (fun h₁ hns₁ hsb₁ => ?_) B.kind)
  dsimp only at hns₁ hsb₁ ⊢
  generalize hG : s2.heap.push { cls := .type "list", dict := none, data := .seq ([] : List Value).toArray } = G at hns₁ hsb₁ ⊢
  have hCs : G.objs.size = s2.heap.objs.size + 1 := by rw [← hG, Heap.size_push]
  have hC : s2.heap.objs.size < G.objs.size := by rw [hCs]; exact Nat.lt_succ_self _
  have below : ∀ b, b < s2.heap.objs.size → b ≠ G.objs.size := fun b hb => Nat.ne_of_lt (Nat.lt_trans hb hC)
  have old : ∀ b o, s2.heap.get? b = some o → h₁.get? b = some o := fun b o e => hsb₁.extBut b o (below b (Heap.lt_size e)) (Heap.get?_push_of_some _ (hG ▸ Heap.get?_push_of_some _ e))
  have hD1 : h₁.get? s2.heap.objs.size = some { cls := .type "list", data := .seq ([] : List Value).toArray } := hsb₁.extBut _ _ (Nat.ne_of_lt hC) (Heap.get?_push_of_some _ (hG ▸ Heap.get?_push_size _ rfl))
  have fpo : ∀ b ∈ fp, ∃ o, s2.heap.get? b = some o := fun b hb => let ⟨o, e, _⟩ := T.obj 0 _ st2 b hb; ⟨o, e⟩
  have I4 := blk_inv B I2 f2 fpo hC old (show h₁.Ns G.objs.size fun _ => none from hns₁)
  -- the records of the block: the list that grows, the iterator's
  have stD : ∀ {H' : Hp} {pn : List (Addr × Obj)}, (∀ b ∈ s2.heap.objs.size :: fp, H' b = none) → (∀ p ∈ pn, p.1 ∉ s2.heap.objs.size :: fp) → ∀ b ∈ s2.heap.objs.size :: fp, FpOk (blk X sc cl N' G.objs.size s2 H2 fp) pn H' b := fun {H' pn} hn hp b hb => by
    have hp' : ∀ p ∈ ([] ++ pn : List (Addr × Obj)), p.1 ≠ b := fun p z q => hp p (by simpa using z) (q ▸ hb)
    rcases List.mem_cons.mp hb with z | z
    · subst z
      refine ⟨hn _ hb, Nat.ne_of_lt hC, fun q => ?_, .inr (Nat.le_refl _), fun x c e q => ?_, hp'⟩
      · rcases List.mem_cons.mp (I2.stkSub _ q) with q | q
        · exact absurd I2.lt (by rw [← q]; exact Nat.lt_irrefl _)
        · exact I2.nofs (Nat.le_refl _) q
      · obtain ⟨v, qc⟩ := I2.cell x c (B.subL x c e)
        exact absurd qc.lt (by rw [q]; exact Nat.lt_irrefl _)
    · refine ⟨hn _ hb, below b (let ⟨_, e⟩ := fpo b z; Heap.lt_size e), fun q => ?_, .inl z, fun x c e => (f2 b z).2.2.2.2.1 x c (B.subL x c e), hp'⟩
      rcases List.mem_cons.mp (I2.stkSub b q) with q | q
      · exact (f2 b z).2.1 q
      · exact (f2 b z).2.2.1 q
  have nDf : s2.heap.objs.size ∉ fp := fun z => let ⟨_, e⟩ := fpo _ z; absurd (Heap.lt_size e) (Nat.lt_irrefl _)
  have loop : codeAny (model X.prog X.w) X.A (.compLoop (.ListComp elt [⟨tg, iter, ifs, 0⟩] sc pos) 0 (.ref it) (.ref s2.heap.objs.size) (compEnvC sc cl G.objs.size X.env))
      (RR (.ref s2.heap.objs.size) G.objs.size) { s2 with heap := h₁, toks := s2.toks } := by
    refine codeAny_loop rfl (fun n s' => ∃ i ys its k σ' H', Inv (blk X sc cl N' G.objs.size s2 H2 fp) [] σ' H' s' ∧ tn i s'.heap ∧ (∀ b ∈ s2.heap.objs.size :: fp, H' b = none) ∧ Vals ys its ∧ s'.heap.get? s2.heap.objs.size = some { cls := .type "list", data := .seq its.toArray k } ∧ W i n ys σ' H') ?_ m0
      ⟨0, [], [], 0, _, H2, I4, T.keep _ _ _ st2 (fun b _ o e => old b o e), fun b hb => ?_, .nil, hD1, w0⟩
    · rintro n s3 ⟨i, ys, its, k, σ3, H3, I3, st3, fr3, rv3, hD3, w3⟩
      have fr3' : ∀ b ∈ fp, FpOk (blk X sc cl N' G.objs.size s2 H2 fp) [] H3 b := fun b hb => stD (pn := []) fr3 (fun p z => nomatch z) b (List.mem_cons_of_mem _ hb)
      show wpAny _ X.A ((compTurn (.ListComp elt [⟨tg, iter, ifs, 0⟩] sc pos) 0 (.ref it) (.ref s2.heap.objs.size) (compEnvC sc cl G.objs.size X.env)).onRaise (fun x => do noteFrame x (compEnvC sc cl G.objs.size X.env); theTreesLotGoes x)) _ _ s3
      refine wpAny_noted (wpAny_noRaise ?_)
      rw [compTurn_list]
      refine wpAny_bind (wpAny_standAt (wpAny_bind ?_))
      have fD := stD (pn := []) fr3 (fun p z => nomatch z) s2.heap.objs.size List.mem_cons_self
      have hDH : H3 s2.heap.objs.size = none := fr3 _ List.mem_cons_self
      have I3p : Inv (blk X sc cl N' G.objs.size s2 H2 fp) [(s2.heap.objs.size, { cls := .type "list", data := .seq its.toArray k })] σ3 H3 s3 := I3.pins_of fun p hp => by
        have e : p = (s2.heap.objs.size, { cls := .type "list", data := .seq its.toArray k }) := by simpa using hp
        subst e
        exact ⟨hD3, hDH, fD.2.1, fD.2.2.1, fun v z => by cases z⟩
      have pfp : ∀ p ∈ [(s2.heap.objs.size, ({ cls := .type "list", data := .seq its.toArray k } : Obj))], p.1 ∉ fp := fun p hp => by
        have e : p = (s2.heap.objs.size, { cls := .type "list", data := .seq its.toArray k }) := by simpa using hp
        subst e
        exact nDf
      have fpP : ∀ {H' : Hp}, (∀ b ∈ fp, H' b = none) → ∀ b ∈ fp, FpOk (blk X sc cl N' G.objs.size s2 H2 fp) [(s2.heap.objs.size, ({ cls := .type "list", data := .seq its.toArray k } : Obj))] H' b := fun {H'} hn b hb =>
        have f := stD (pn := []) fr3 (fun p z => nomatch z) b (List.mem_cons_of_mem _ hb)
        ⟨hn b hb, f.2.1, f.2.2.1, f.2.2.2.1, f.2.2.2.2.1, fun p hp q => pfp p ((List.mem_append.mp hp).elim (fun z => nomatch (show p ∈ ([] : List (Addr × Obj)) from z)) id) (q ▸ hb)⟩
      rcases turn i n ys σ3 H3 w3 with ⟨stop, hz, q⟩ | ⟨go, hz, N, hN, step⟩
      · refine thn (T.done (blk X sc cl N' G.objs.size s2 H2 fp) rfl rfl rfl hc i _ s3 σ3 H3 _ I3p (fpP fun b hb => fr3 b (List.mem_cons_of_mem _ hb)) st3 stop) fun r s4 ⟨hr, I5⟩ => ?_
        subst hr
        refine wpAny_pure ?_
        obtain ⟨m, hn, _⟩ := I5.loc
        have eD := (I5.pin (s2.heap.objs.size, { cls := .type "list", data := .seq its.toArray k }) (by simp)).1
        have hCf : H3 G.objs.size = none := I5.free
        exact fin G.objs.size s2.heap.objs.size s4 _ ys m hC hn (by rw [upd_ne (Nat.ne_of_gt hC)]; exact hCf) (fun h' hsb => blk_end (Cs := 0) I2 f2 I5 hC hDH (Nat.le_refl _) (Nat.ne_of_lt hC) eD rv3 hz hsb) (q _ hDH)
      · refine thn (T.item (blk X sc cl N' G.objs.size s2 H2 fp) rfl rfl rfl hc i _ s3 σ3 H3 _ I3p (fpP fun b hb => fr3 b (List.mem_cons_of_mem _ hb)) st3 go) fun r s4 ⟨u, hr, h4⟩ => ?_
        subst hr
        refine wpAny_bind (thn h4 fun _ s5 ⟨x, H5, I5, r5, y5, st5, fr5⟩ => ?_)
        have I5' := I5.pinned (fpP fr5) (T.obj _ _ st5)
        refine wpAny_bind (thn (hg G.objs.size s2 H2 fp _ s5 σ3 H5 x u _ I5' r5 (step x H5 y5)) fun _ s6 ⟨σ6, H6, I6, q6⟩ => ?_)
        refine wpAny_bind (thn (ht G.objs.size s2 H2 fp _ s6 σ6 H6 _ I6 q6) fun ok s7 ⟨H7, I7, q7⟩ => ?_)
        -- what stays of the records
        have recs : ∀ {σ' : St} {H' : Hp} {s' : Shared}, Inv (blk X sc cl N' G.objs.size s2 H2 fp) ([(s2.heap.objs.size, ({ cls := .type "list", data := .seq its.toArray k } : Obj))] ++ pinsAt fp s5.heap) σ' H' s' →
            tn (i + 1) s'.heap ∧ (∀ b ∈ s2.heap.objs.size :: fp, H' b = none) ∧ s'.heap.get? s2.heap.objs.size = some { cls := .type "list", data := .seq its.toArray k } := fun {σ' H' s'} I' => by
          have pd := I'.pin (s2.heap.objs.size, { cls := .type "list", data := .seq its.toArray k }) (by simp)
          have pf : ∀ b ∈ fp, ∀ o, s5.heap.get? b = some o → s'.heap.get? b = some o ∧ H' b = none := fun b hb o e => by
            have z := I'.pin (b, o) (List.mem_append_right _ (List.mem_append_right _ (mem_pinsAt hb e)))
            exact ⟨z.1, z.2.1⟩
          refine ⟨T.keep _ _ _ st5 fun b hb o e => (pf b hb o e).1, fun b hb => ?_, pd.1⟩
          rcases List.mem_cons.mp hb with z | z
          · subst z; exact pd.2.1
          · obtain ⟨o, e, d⟩ := T.obj _ _ st5 b z
            exact (pf b z o e).2
        cases ok with
        | false =>
          obtain ⟨m', hm, w7⟩ := hN _ _ _ (show N ys σ6 H7 from by simpa using q7)
          obtain ⟨r1, r2, r3⟩ := recs I7
          exact wpAny_pure ⟨rfl, m', hm, i + 1, ys, its, k, σ6, H7, I7.pins_of (fun p hp => nomatch hp), r1, r2, rv3, r3, w7⟩
        | true =>
          have q7' : te σ6 H7 fun y H5 => N (ys ++ [y]) σ6 H5 := by simpa using q7
          refine wpAny_bind (wpAny_bind (thn (he G.objs.size s2 H2 fp _ s7 σ6 H7 _ I7 q7') fun y s8 ⟨y8, H8, I8, ry, q8⟩ => wpAny_bind ?_))
          obtain ⟨r1, r2, r3⟩ := recs I8
          have hl := rv3.length
          refine wpAny_list_append_plain (hsz := by rw [List.size_toArray]; omega) ⟨k, r3⟩ fun h9 ⟨k9, hl9⟩ hs9 => wpAny_pure (wpAny_pure ?_)
          have hD8 : H8 s2.heap.objs.size = none := r2 _ List.mem_cons_self
          have f8 := stD (pn := []) r2 (fun p z => nomatch z) s2.heap.objs.size List.mem_cons_self
          have I8' : Inv (blk X sc cl N' G.objs.size s2 H2 fp) [] σ6 H8 s8 := I8.pins_of (fun p hp => nomatch hp)
          have I9 : Inv (blk X sc cl N' G.objs.size s2 H2 fp) [] σ6 H8 { s8 with heap := h9 } := I8'.turned (t' := s8.toks) (it := s2.heap.objs.size) (fun b o hb e => hs9.extBut b o hb e) hD8 f8.2.1 f8.2.2.2.1 f8.2.2.2.2.1 f8.2.2.2.2.2
          obtain ⟨m', hm, w8⟩ := hN _ _ _ q8
          refine ⟨rfl, m', hm, i + 1, ys ++ [y8], its ++ [y], k9, σ6, H8, I9, ?_, r2, rv3.append (.cons ry .nil), ?_, w8⟩
          · exact T.keep _ _ _ r1 fun b hb o e => hs9.extBut b o (fun z => nDf (z ▸ hb)) e
          · rw [hl9]; simp
    · rcases List.mem_cons.mp hb with z | z
      · subst z; exact I2.hok.fresh (Nat.le_refl _)
      · exact (f2 b z).1
  exact codeAny_compStart_list loop (T.self _ 0 _ _ _ (T.keep _ _ _ st2 fun b _ o e => old b o e) loop)

theorem pe_comp (hc : X.calm = true) (hi : PI X tg iter wi) (B : Blk X sc cl N' imp)
    (hg : ∀ C s H fp, PG (blk X sc cl N' C s H fp) tg g) (ht : ∀ C s H fp, PIfs (blk X sc cl N' C s H fp) ifs tt) (he : ∀ C s H fp, PE (blk X sc cl N' C s H fp) elt te)
    (hs : ∀ x, foldedSetIterable iter X.env x = pure x := by intro _; rfl) : PE X (.ListComp elt [⟨tg, iter, ifs, 0⟩] sc pos) (tComp wi g tt te imp) := by
  intro pins s σ H Q I h
  rw [eval_ListComp]
  refine wpAny_comprehension_free (use := none) rfl hs B.clos B.kind B.names (thn (hi pins s σ H _ I h) fun v s1 h1 => thn h1 fun itv s2 h2 => ?_)
  refine comp_core (RR := fun acc C => compPost (model X.prog X.w) X.A X.xe none (EP X pins σ Q) acc C) hc B hg ht he h2 fun C D s4 H' ys m hC hn hCf hI q => ?_
  exact ⟨m, hn, fun h' hsb => ⟨.ref D, H', hI h' hsb, rfl, q⟩⟩
theorem ps_setComp {i : Nat} {x : Str} {pos' spos : Pos} (hN : X.N.Nodup) (hx1 : X.N[i]? = some x) (hx2 : Loc X.env.scope x) (hc : X.calm = true) (hi : PI X tg iter wi) (B : Blk X sc cl N' imp)
    (hg : ∀ C s H fp, PG (blk X sc cl N' C s H fp) tg g) (ht : ∀ C s H fp, PIfs (blk X sc cl N' C s H fp) ifs tt) (he : ∀ C s H fp, PE (blk X sc cl N' C s H fp) elt te)
    (hsw : swapsWith (.ListComp elt [⟨tg, iter, ifs, 0⟩] sc pos) (some (.Name x pos')) spos.line X.env = pure true) (hf : X.fn x = true ∨ X.env.scope.names.lookup x = some .local)
    (hs : ∀ x, foldedSetIterable iter X.env x = pure x := by intro _; rfl) : PS X (.Assign [.Name x pos'] (.ListComp elt [⟨tg, iter, ifs, 0⟩] sc pos) spos) (tAsg (tComp wi g tt te imp) (gName i)) := by
  intro pins s σ H D I h
  rw [exec_Assign_Name_used _ _ _ _ hsw]
  refine wpAny_bind (wpAny_standAt (wpAny_bind ?_))
  show wpAny _ X.A (do let _ ← comprehension (.ListComp elt [⟨tg, iter, ifs, 0⟩] sc pos) sc X.env _ (newList []) false (eval iter X.env) (some (assign (.Name x pos') X.env))) _ _ s
  refine wpAny_bind (wpAny_mono (wpAny_comprehension_free (use := some (assign (.Name x pos') X.env)) (Q := fun _ s' => SP X pins D .next s') rfl hs B.clos B.kind B.names
    (thn (hi pins s σ H _ I h) fun v s1 h1 => thn h1 fun itv s2 h2 => ?_)) (fun _ s' hq => wpAny_pure (wpAny_pure hq)) fun _ _ e => e)
  refine comp_core (Q := fun y H1 => gName i y σ H1 D.nx) (RR := fun acc C => compPost (model X.prog X.w) X.A X.xe (some (assign (.Name x pos') X.env)) (fun _ s' => SP X pins D .next s') acc C) hc B hg ht he h2 fun C Dl s4 H' ys m hC hn hCf hI q => ?_
  obtain ⟨it, fp, tn, J, H2, e, I2, _⟩ := h2
  have I4 : Inv X pins σ H' s4 := hI s4.heap (.refl ..)
  have neC : X.env.locals ≠ C := Nat.ne_of_lt (Nat.lt_trans I2.lt hC)
  have neCc : ∀ y c, X.env.cells.lookup y = some c → c ≠ C := fun y c e => by
    obtain ⟨v, qc⟩ := I2.cell y c e
    exact Nat.ne_of_lt (Nat.lt_trans qc.lt hC)
  show wpAny _ X.A (assign (.Name x pos') X.env (.ref Dl)) _ _ s4
  refine wpAny_assign_Name (store_ok2 I4 hN hx1 hx2 (v := .ref Dl) rfl (fun s5 I5 ⟨c0, hs5, hc0⟩ => ?_) hf)
  have ne0 : C ≠ c0 := by
    rcases hc0 with z | z
    · rw [z]; exact Ne.symm neC
    · exact Ne.symm (neCc _ _ z)
  refine ⟨m, hn.sameBut hs5 ne0, fun h' hsb => ⟨_, H', ?_, q⟩⟩
  refine I5.turned (t' := s5.toks) (it := C) (fun b o hb e => hsb.extBut b o hb e) hCf (Ne.symm neC) (.inr (Nat.le_of_lt (Nat.lt_of_le_of_lt I2.sz hC))) neCc fun p hp z => ?_
  have := Heap.lt_size (I2.pin p hp).1
  rw [z] at this
  exact absurd (Nat.lt_trans this hC) (Nat.lt_irrefl _)
end
end L2

namespace L2
open PySem PySem.Spec PyProof.Rows

inductive Rep (K : PySem.W.Frag) (H : Hp) : V → PyData → Prop
  | non : Rep K H .non .none
  | bl (b : Bool) : Rep K H (.bl b) (.bool b)
  | int (i : Int) : Rep K H (.int i) (.int i)
  | str (x : Str) : Rep K H (.str x) (.str x)
  | tup {a : Addr} {xs : List V} {ds : List PyData} : SqT K H a xs → xs.length = ds.length → (∀ (i : Nat) (x : V) (d : PyData), xs[i]? = some x → ds[i]? = some d → Rep K H x d) → Rep K H (.ref a) (.tuple ds)
  | lst {a : Addr} {xs : List V} {ds : List PyData} : SqL K H a xs → xs.length = ds.length → (∀ (i : Nat) (x : V) (d : PyData), xs[i]? = some x → ds[i]? = some d → Rep K H x d) → Rep K H (.ref a) (.list ds)

def RepL (K : PySem.W.Frag) (H : Hp) (xs : List V) (ds : List PyData) : Prop :=
  xs.length = ds.length ∧ ∀ (i : Nat) (x : V) (d : PyData), xs[i]? = some x → ds[i]? = some d → Rep K H x d

section
variable {K : PySem.W.Frag} {H H' : Hp}
theorem RepL.nil : RepL K H [] [] := ⟨rfl, fun i x d e => by simp at e⟩
theorem RepL.cons {x : V} {d : PyData} {xs : List V} {ds : List PyData} (h : Rep K H x d) (r : RepL K H xs ds) : RepL K H (x :: xs) (d :: ds) := by
  refine ⟨by simp [r.1], fun i y e h1 h2 => ?_⟩
  cases i with
  | zero => simp at h1 h2; subst h1 h2; exact h
  | succ i => exact r.2 i y e (by simpa using h1) (by simpa using h2)
theorem RepL.append {xs ys : List V} {ds es : List PyData} (r : RepL K H xs ds) (q : RepL K H ys es) : RepL K H (xs ++ ys) (ds ++ es) := by
  refine ⟨by simp [r.1, q.1], fun i x d h1 h2 => ?_⟩
  by_cases hi : i < xs.length
  · rw [List.getElem?_append_left hi] at h1
    rw [List.getElem?_append_left (by rw [← r.1]; exact hi)] at h2
    exact r.2 i x d h1 h2
  · rw [List.getElem?_append_right (by omega)] at h1
    rw [List.getElem?_append_right (by rw [← r.1]; omega)] at h2
    rw [← r.1] at h2
    exact q.2 _ x d h1 h2
theorem RepL.snoc {xs : List V} {ds : List PyData} {x : V} {d : PyData} (r : RepL K H xs ds) (h : Rep K H x d) : RepL K H (xs ++ [x]) (ds ++ [d]) := r.append (.cons h .nil)
theorem RepL.get {xs : List V} {ds : List PyData} {i : Nat} {d : PyData} (r : RepL K H xs ds) (e : ds[i]? = some d) : ∃ x, xs[i]? = some x ∧ Rep K H x d := by
  have hi := (List.getElem?_eq_some_iff.mp e).1
  have hx : i < xs.length := by rw [r.1]; exact hi
  exact ⟨xs[i], by simp [hx], r.2 i _ d (by simp [hx]) e⟩
theorem RepL.get' {xs : List V} {ds : List PyData} {i : Nat} {x : V} (r : RepL K H xs ds) (e : xs[i]? = some x) : ∃ d, ds[i]? = some d ∧ Rep K H x d := by
  have hi := (List.getElem?_eq_some_iff.mp e).1
  have hx : i < ds.length := by rw [← r.1]; exact hi
  exact ⟨ds[i], by simp [hx], r.2 i x _ e (by simp [hx])⟩
theorem Rep.tupL {a : Addr} {xs : List V} {ds : List PyData} (h : SqT K H a xs) (r : RepL K H xs ds) : Rep K H (.ref a) (.tuple ds) := .tup h r.1 r.2
theorem Rep.lstL {a : Addr} {xs : List V} {ds : List PyData} (h : SqL K H a xs) (r : RepL K H xs ds) : Rep K H (.ref a) (.list ds) := .lst h r.1 r.2
theorem Rep.tupI {v : V} {ds : List PyData} (r : Rep K H v (.tuple ds)) : ∃ a xs, v = .ref a ∧ SqT K H a xs ∧ RepL K H xs ds := by
  cases r with
  | tup h l q => exact ⟨_, _, rfl, h, l, q⟩
theorem Rep.lstI {v : V} {ds : List PyData} (r : Rep K H v (.list ds)) : ∃ a xs, v = .ref a ∧ SqL K H a xs ∧ RepL K H xs ds := by
  cases r with
  | lst h l q => exact ⟨_, _, rfl, h, l, q⟩
theorem Rep.intI {v : V} {i : Int} (r : Rep K H v (.int i)) : v = .int i := by cases r; rfl
theorem Rep.strI {v : V} {i : Str} (r : Rep K H v (.str i)) : v = .str i := by cases r; rfl
theorem Rep.blI {v : V} {i : Bool} (r : Rep K H v (.bool i)) : v = .bl i := by cases r; rfl
theorem Same.seqT {a : Addr} {xs : List V} (e : Same H H') (h : SqT K H a xs) : SqT K H' a xs := by
  rcases h with (h | ⟨o, h⟩) | h
  · exact .inl (.inl (e _ _ h))
  · exact .inl (.inr ⟨o, e _ _ h⟩)
  · exact .inr h
theorem Rep.mono {v : V} {d : PyData} (e : Same H H') (r : Rep K H v d) : Rep K H' v d := by
  induction r with
  | non => exact .non
  | bl b => exact .bl b
  | int i => exact .int i
  | str x => exact .str x
  | tup h l _ ih => exact .tup (e.seqT h) l ih
  | lst h l _ ih => exact .lst (e.seq h) l ih
theorem RepL.mono {xs : List V} {ds : List PyData} (e : Same H H') (r : RepL K H xs ds) : RepL K H' xs ds := ⟨r.1, fun i x d h1 h2 => (r.2 i x d h1 h2).mono e⟩

def SameEx (l : Addr) (H H' : Hp) : Prop := ∀ b o, b ≠ l → H b = some o → H' b = some o
theorem SameEx.upd {l : Addr} {o : HO} : SameEx l H (upd H l o) := fun b o' hb e => by rw [upd_ne hb]; exact e
theorem Same.ex {H0 : Hp} {l : Addr} (s : Same H0 H) (hn : H0 l = none) (e : SameEx l H H') : Same H0 H' := fun b o h => e b o (ne_of_none h hn) (s b o h)
theorem Same.new {p : Addr} {o : HO} (hn : H p = none) : Same H (upd H p o) := fun b o' e => by rw [upd_ne (ne_of_none e hn)]; exact e
theorem SameEx.sqT {l a : Addr} {ys xs : List V} (e : SameEx l H H') (hl : H l = some (.lst ys)) (h : SqT K H a xs) : SqT K H' a xs := by
  rcases h with (h | ⟨o, h⟩) | h
  · exact .inl (.inl (e _ _ (ne_of h hl (by intro z; cases z)) h))
  · exact .inl (.inr ⟨o, e _ _ (ne_of h hl (by intro z; cases z)) h⟩)
  · exact .inr h
inductive NoLst : PyData → Prop
  | non : NoLst .none
  | bl (b : Bool) : NoLst (.bool b)
  | int (i : Int) : NoLst (.int i)
  | str (x : Str) : NoLst (.str x)
  | tup {ds : List PyData} : (∀ d ∈ ds, NoLst d) → NoLst (.tuple ds)
end

theorem Vals.get' : ∀ {xs : List V} {us : List Value} {i : Nat} {u : Value}, Vals xs us → us[i]? = some u → ∃ x, xs[i]? = some x ∧ RelV x u
  | _, _, _, _, .nil, e => by simp at e
  | _, _, 0, _, .cons r _, e => by simp at e; subst e; exact ⟨_, rfl, r⟩
  | _, _, i + 1, u, .cons _ t, e => by
    obtain ⟨x, h1, h2⟩ := Vals.get' (i := i) (u := u) t (by simpa using e)
    exact ⟨x, by simpa using h1, h2⟩
theorem readsAll_of {h : Heap} : ∀ (us : List Value) (ds : List PyData), us.length = ds.length → (∀ (i : Nat) (u : Value) (d : PyData), us[i]? = some u → ds[i]? = some d → ∃ as, Reads h u d as) → ∃ as, ReadsAll h us ds as
  | [], [], _, _ => ⟨_, .nil⟩
  | [], _ :: _, e, _ => by simp at e
  | _ :: _, [], e, _ => by simp at e
  | u :: us, d :: ds, e, f => by
    obtain ⟨as, h1⟩ := f 0 u d rfl rfl
    obtain ⟨bs, h2⟩ := readsAll_of us ds (by simpa using e) fun i v c q1 q2 => f (i + 1) v c (by simpa using q1) (by simpa using q2)
    exact ⟨_, .cons h1 h2⟩
section
variable {X : Cx} {pins : List (Addr × Obj)} {σ : St} {H : Hp} {s : Shared}
theorem Rep.reads {v : V} {d : PyData} (I : Inv X pins σ H s) (r : Rep X.K H v d) : ∀ u, RelV v u → ∃ as, Reads s.heap u d as := by
  induction r with
  | non => intro u r; cases r; exact ⟨_, .none⟩
  | bl b => intro u r; cases r; exact ⟨_, .bool b⟩
  | int i => intro u r; obtain ⟨t, rfl⟩ := r; exact ⟨_, .int i t⟩
  | str x => intro u r; obtain ⟨t, rfl⟩ := r; exact ⟨_, .str x t⟩
  | tup h l _ ih =>
    intro u r; cases r
    obtain ⟨its, rv, p, hz⟩ := I.tuple h
    obtain ⟨o, ho, hc, n, hd⟩ := p
    obtain ⟨as, q⟩ := readsAll_of (h := s.heap) its _ (rv.length.symm.trans l) fun i u d h1 h2 => by
      obtain ⟨x, e1, e2⟩ := rv.get' h1
      exact ih i x d e1 h2 u e2
    exact ⟨_, .tuple ho hc hd q⟩
  | lst h l _ ih =>
    intro u r; cases r
    obtain ⟨its, rv, p, hz⟩ := I.list h
    obtain ⟨o, ho, hc, n, hd⟩ := p.isList
    obtain ⟨as, q⟩ := readsAll_of (h := s.heap) its _ (rv.length.symm.trans l) fun i u d h1 h2 => by
      obtain ⟨x, e1, e2⟩ := rv.get' h1
      exact ih i x d e1 h2 u e2
    exact ⟨_, .list ho hc hd q⟩
end

section
variable {X : Cx}
def rAddA (K : PySem.W.Frag) : R2 := fun x y H Q => rI0 (fun i j => .int (i + j)) x y H Q ∨ (∃ i j, x = .str i ∧ y = .str j ∧ i.length + j.length ≤ sizeLine ∧ Q (.str (i ++ j)) H) ∨ rCat x y H Q
theorem op_addA : OpR X (binaryOp .Add) (rAddA X.K) := op_add.or (op_add_str.or op_cat)
def rEqD (K : PySem.W.Frag) : R2 := fun x y H Q => ∃ d e, Rep K H x d ∧ Rep K H y e ∧ d.canLay0 = true ∧ e.canLay0 = true ∧ min d.depth e.depth ≤ 60 ∧ Q (.bl (PyData.eqv d e)) H
def rNeD (K : PySem.W.Frag) : R2 := fun x y H Q => ∃ d e, Rep K H x d ∧ Rep K H y e ∧ d.canLay0 = true ∧ e.canLay0 = true ∧ min d.depth e.depth ≤ 60 ∧ Q (.bl (!PyData.eqv d e)) H
theorem op_eqD (hu : X.A.units + 64 < cLine) : OpR X (compareOp .Eq) (rEqD X.K) := by
  intro pins s σ H x y v u Q I rx ry h
  obtain ⟨d, e, h1, h2, c1, c2, hd, q⟩ := h
  obtain ⟨as, r1⟩ := h1.reads I v rx
  obtain ⟨bs, r2⟩ := h2.reads I u ry
  exact SeqAt.compareEq_reads r1 r2 c1 c2 (by omega) ⟨.bl _, H, I, rfl, q⟩
theorem op_neD (hu : X.A.units + 64 < cLine) : OpR X (compareOp .NotEq) (rNeD X.K) := by
  intro pins s σ H x y v u Q I rx ry h
  obtain ⟨d, e, h1, h2, c1, c2, hd, q⟩ := h
  obtain ⟨as, r1⟩ := h1.reads I v rx
  obtain ⟨bs, r2⟩ := h2.reads I u ry
  exact SeqAt.compareNe_reads r1 r2 c1 c2 (by omega) ⟨.bl _, H, I, rfl, q⟩
def rEqA (K : PySem.W.Frag) : R2 := fun x y H Q => rEq x y H Q ∨ rEqD K x y H Q
def rNeA (K : PySem.W.Frag) : R2 := fun x y H Q => rNe x y H Q ∨ rNeD K x y H Q
theorem op_eqA (hu : X.A.units + 64 < cLine) : OpR X (compareOp .Eq) (rEqA X.K) := op_eq.or (op_eqD hu)
theorem op_neA (hu : X.A.units + 64 < cLine) : OpR X (compareOp .NotEq) (rNeA X.K) := op_ne.or (op_neD hu)
def rLen (K : PySem.W.Frag) : List V → Hp → VK → Prop := fun xs H Q => ∃ x n, xs = [x] ∧ LenV K x H n ∧ Q (.int n) H
theorem call_lenN : CallR X (.builtin "len") (rLen X.K) := call_len
def rListOf (K : PySem.W.Frag) : List V → Hp → VK → Prop := fun xs H Q => ∃ p ys, xs = [.ref p] ∧ (SqL K H p ys ∨ SqT K H p ys) ∧ ∀ l, H l = none → Q (.ref l) (upd H l (.lst ys))
theorem call_listN : CallR X (.type "list") (rListOf X.K) := call_list_of
inductive TyS (K : PySem.W.Frag) (H : Hp) : V → Value → Prop where
  | of {x : V} {t : Value} (h : TyOf K H x t) : TyS K H x t
  | sqT {a : Addr} {xs : List V} (h : SqT K H a xs) : TyS K H (.ref a) (.type "tuple")
  | sqL {a : Addr} {xs : List V} (h : SqL K H a xs) : TyS K H (.ref a) (.type "list")
theorem isinst_okS {pins : List (Addr × Obj)} {σ : St} {H : Hp} {s : Shared} {A : Around} {E : Value → Shared → Prop} {Q : Value → Shared → Prop} {c : Value} {b : Bool} {x : V} {u t : Value} (I : Inv X pins σ H s) (rx : RelV x u) (ty : TyS X.K H x t) (e : PySem.W.kitOne X.K t c = some b) (h : ∀ tk, Q (.bool b) { s with toks := tk }) :
    wpAny (model X.prog X.w) A (call (.builtin "isinstance") [u, c]) Q E s := by
  cases ty with
  | of z => exact isinst_ok I rx z e h
  | @sqT a xs z =>
    cases (show u = Value.ref a from rx)
    obtain ⟨its, _, p, _⟩ := I.tuple z
    obtain ⟨o, h1, h2, _⟩ := p
    exact PySem.W.kia_one PySem.W.kitx_tuple I.kIn ⟨o, h1, h2⟩ e (fun z => nomatch z) h
  | @sqL a xs z =>
    cases (show u = Value.ref a from rx)
    obtain ⟨its, _, p, _⟩ := I.list z
    obtain ⟨o, h1, h2, _⟩ := p.isList
    exact PySem.W.kia_one PySem.W.kitx_list I.kIn ⟨o, h1, h2⟩ e (fun z => nomatch z) h
def rIsi (K : PySem.W.Frag) : List V → Hp → VK → Prop := fun vs H Q => ∃ x c t tc b, vs = [x, c] ∧ TyS K H x t ∧ (∀ u, RelV c u → u = tc) ∧ PySem.W.kitOne K t tc = some b ∧ Q (.bl b) H
theorem call_isi : CallR X (.builtin "isinstance") (rIsi X.K) := by
  intro pins s σ H xs us Q I r h
  obtain ⟨x, c, t, tc, b, rfl, ty, hc, e, q⟩ := h
  obtain ⟨u, w', rfl, r1, r2⟩ := vals2 r
  cases hc w' r2
  exact isinst_okS I r1 ty e fun tk => ⟨.bl b, H, I.tok tk, rfl, q⟩
def rIsN : R2 := fun x y H Q => y = .non ∧ Q (.bl (decide (x = .non))) H
def rNotN : R2 := fun x y H Q => y = .non ∧ Q (.bl (!decide (x = .non))) H
def rMax : List V → Hp → VK → Prop := fun xs H Q => ∃ i j, xs = [.int i, .int j] ∧ Q (.int (if j > i then j else i)) H
def rMin : List V → Hp → VK → Prop := fun xs H Q => ∃ i j, xs = [.int i, .int j] ∧ Q (.int (if j < i then j else i)) H
theorem call_minN (hc : X.calm = true) : CallR X (.builtin "min") rMin := call_min2 hc
def tTru (K : PySem.W.Frag) (ta : TE) : TT := fun σ H Q => ta σ H fun x H1 => ∃ k, TruV K x H1 k ∧ Q k H1
theorem pt_tru {a : Expr} {ta : TE} (ha : PE X a ta) (he : ∀ whole, isTrue a X.env whole = (do let v ← whole; standAt a.pos; holding [v] (truthy v))) : PT X a (tTru X.K ta) := pt_truth ha he
end
theorem bt_len : bootBuiltins "len" = some (.builtin "len") := by decide +kernel
theorem bt_isinstance : bootBuiltins "isinstance" = some (.builtin "isinstance") := by decide +kernel
theorem bt_min : bootBuiltins "min" = some (.builtin "min") := by decide +kernel
theorem bt_sum : bootBuiltins "sum" = some (.builtin "sum") := by decide +kernel
theorem bt_sorted : bootBuiltins "sorted" = some (.builtin "sorted") := by decide +kernel
theorem bt_int : bootBuiltins "int" = some (.type "int") := by decide +kernel
theorem bt_bool : bootBuiltins "bool" = some (.type "bool") := by decide +kernel
theorem bt_list : bootBuiltins "list" = some (.type "list") := by decide +kernel
theorem bt_tuple : bootBuiltins "tuple" = some (.type "tuple") := by decide +kernel
theorem bt_zip : bootBuiltins "zip" = some (.type "zip") := by decide +kernel
theorem bt_reversed : bootBuiltins "reversed" = some (.type "reversed") := by decide +kernel
structure Cal (P : Program) (w : World) (K : PySem.W.Frag) (mg : Str → Option Value) (base : Heap) (x : Str) (k : Nat) (ps : List Str) (sp : Sp) : Prop where
  ex : ∃ (f : Addr) (fd : FuncData), FnOk P w K mg base CX0 k f fd ps sp ∧ mg x = some (.ref f) ∧ PySem.W.keepIn K (.ref f) = true ∧ Binds K fd ps []
structure CalM (P : Program) (w : World) (K : PySem.W.Frag) (mg : Str → Option Value) (base : Heap) (x : Str) (C : Addr) (k : Nat) (ps : List Str) (sp : Sp) : Prop where
  ex : ∃ (f : Addr) (fd : FuncData), Mk K C f ∧ FnOk P w K mg base CX0 k f fd ps sp ∧ mg x = some (.ref C) ∧ Binds K fd ps []
section
variable {X : Cx} {k : Nat} {C : Addr} {ps : List Str} {sp : Sp} {x : Str} {p pos : Pos} {e : Expr} {es : List Expr} {t : TA}
theorem pe_callC (c : Cal X.prog X.w X.K X.mg X.base x k ps sp) (hr : Room k X.A) (hg : Gl X x) (ha : PA X (e :: es) t) (hdb : (x == ("__debug__" : Str)) = false := by decide)
    (he : starEach (e :: es) X.env = (false, eval e X.env) :: starEach es X.env := by rfl) (hpl : (backTo pos (starEach es X.env)).any (·.1) = false := by rfl) : PE X (.Call (.Name x p) (e :: es) [] pos) (tCall sp [] E0 t) := by
  obtain ⟨f, fd, F, h1, h2, h3⟩ := c.ex
  exact pe_call F hr hg h1 h2 h3 .nil pass0 ha hdb he hpl
end

def iSeq (K : PySem.W.Frag) (tl : TE) : TI := fun σ H R => iList K tl σ H R ∨ iTup K tl σ H R
theorem pi_seq {X : Cx} {tg l : Expr} {tl : TE} (hl : PE X l tl) : PI X tg l (iSeq X.K tl) := by
  intro pins s σ H R I h
  rcases h with h | h
  · exact pi_list hl pins s σ H R I h
  · exact pi_tup hl pins s σ H R I h

theorem blk0 {X : Cx} {sc : Scope} {N' : List Str} {imp : List (Option Nat)} (h1 : sc.kind = .function)
    (h2 : (sc.names.all (fun y => y.2 != .free && y.2 != .cell && (y.2 != .local || sc.names.lookup y.1 == some .local)) && imp.all (·.isNone) && (imp.length == N'.length)) = true) : Blk X sc [] N' imp := by
  simp only [Bool.and_eq_true, List.all_eq_true] at h2
  obtain ⟨⟨h2, h3⟩, h4⟩ := h2
  have nofree : ∀ y ∈ sc.names, y.2 ≠ .free := fun y hy => by
    have := (h2 y hy).1.1
    simpa using this
  have nocell : ∀ y ∈ sc.names, y.2 ≠ .cell := fun y hy => by
    have := (h2 y hy).1.2
    simpa using this
  refine ⟨closureFor_none nofree, h1, nocell, fun y hy hl => ?_, (fun p hp => nomatch hp), fun y hy hk => ?_, by simpa using h4, fun p hp k e => ?_⟩
  · have := (h2 y hy).2
    rw [hl] at this
    simpa using this
  · have : (relabel sc X.env).names = sc.names := by
      unfold relabel
      refine map_eq_self fun x hx => ?_
      obtain ⟨n, q⟩ := x
      have : (q == NameKind.free) = false := by simpa using nofree _ hx
      simp [this]
    rw [this] at hy
    rcases hk with z | z
    · exact absurd z (nocell y hy)
    · exact absurd z (nofree y hy)
  · have := h3 p.1 (List.of_mem_zip hp).1
    rw [e] at this
    cases this

section
variable {K : PySem.W.Frag} {σ : St} {H H1 : Hp} {Q : VK} {i : Nat} {v : V} {ta tb te : TE} {r : R2} {D : Ends} {t u : TS} {c : TT}
theorem rd_var (h : σ[i]? = some (some v)) (q : Q v H) : tVar i σ H Q := ⟨v, h, q⟩
theorem rd_C (q : Q v H) : tC v σ H Q := q
theorem rd_op (q : ta σ H fun x H1 => tb σ H1 fun y H2 => r x y H2 Q) : tOp r ta tb σ H Q := q
theorem rd_un {r : V → Hp → VK → Prop} (q : ta σ H fun x H1 => r x H1 Q) : tUn r ta σ H Q := q
theorem rd_I0 {g : Int → Int → V} {a b : Int} (q : Q (g a b) H) : rI0 g (.int a) (.int b) H Q := ⟨a, b, rfl, rfl, q⟩
theorem rd_I {C : Int → Int → Prop} {g : Int → Int → V} {a b : Int} (h : C a b) (q : Q (g a b) H) : rI C g (.int a) (.int b) H Q := ⟨a, b, rfl, rfl, h, q⟩
theorem rd_U {g : Int → V} {a : Int} (q : Q (g a) H) : rU g (.int a) H Q := ⟨a, rfl, q⟩
theorem rd_addI {a b : Int} (q : Q (.int (a + b)) H) : rAddA K (.int a) (.int b) H Q := .inl ⟨a, b, rfl, rfl, q⟩
theorem rd_eqI {a b : Int} (q : Q (.bl (decide (a = b))) H) : rEqA K (.int a) (.int b) H Q := .inl ⟨rfl, by
  have : decide (V.int a = V.int b) = decide (a = b) := by simp
  rw [this]; exact q⟩
theorem rd_neI {a b : Int} (q : Q (.bl (!decide (a = b))) H) : rNeA K (.int a) (.int b) H Q := .inl ⟨rfl, by
  have : decide (V.int a = V.int b) = decide (a = b) := by simp
  rw [this]; exact q⟩
theorem rd_eqT {a b : Str} (q : Q (.bl (decide (a = b))) H) : rEqA K (.str a) (.str b) H Q := .inl ⟨rfl, by
  have : decide (V.str a = V.str b) = decide (a = b) := by simp
  rw [this]; exact q⟩
theorem rd_neT {a b : Str} (q : Q (.bl (!decide (a = b))) H) : rNeA K (.str a) (.str b) H Q := .inl ⟨rfl, by
  have : decide (V.str a = V.str b) = decide (a = b) := by simp
  rw [this]; exact q⟩
theorem rd_isN {x : V} (q : Q (.bl (decide (x = .non))) H) : rIsN x .non H Q := ⟨rfl, q⟩
theorem rd_notN {x : V} (q : Q (.bl (!decide (x = .non))) H) : rNotN x .non H Q := ⟨rfl, q⟩
theorem rd_max {a b : Int} (q : Q (.int (max a b)) H) : rMax [.int a, .int b] H Q := ⟨a, b, rfl, by
  have e : (if b > a then b else a) = max a b := by rw [Int.max_def]; split <;> split <;> omega
  rw [e]; exact q⟩
theorem rd_min {a b : Int} (q : Q (.int (min a b)) H) : rMin [.int a, .int b] H Q := ⟨a, b, rfl, by
  have e : (if b < a then b else a) = min a b := by rw [Int.min_def]; split <;> split <;> omega
  rw [e]; exact q⟩
theorem rd_tru0 {Qb : Bool → Hp → Prop} (q : ta σ H fun x H1 => ∃ k, TruV K x H1 k ∧ Qb k H1) : tTru K ta σ H Qb := q
theorem rd_fld {f : Str} (q : ta σ H fun x H1 => ∃ a C dx fs v, x = .ref a ∧ H1 a = some (.ins C dx fs) ∧ Cls K C ∧ NoAttr K C f ∧ fs.lookup f = some v ∧ Q v H1) : tFld K ta f σ H Q := q
theorem rd_test {Qb : Bool → Hp → Prop} (q : te σ H fun x H' => ∃ k, x = .bl k ∧ Qb k H') : tTest te σ H Qb := q
theorem rd_tB {Qb : Bool → Hp → Prop} (q : te σ H fun x H' => ∃ k, x = .bl k ∧ Qb k H') : tB te σ H Qb := q
theorem rd_and {c' : TT} {Qb : Bool → Hp → Prop} (q : c σ H fun b H1 => if b = true then c' σ H1 Qb else Qb false H1) : tAnd c c' σ H Qb := q
theorem rd_or {c' : TT} {Qb : Bool → Hp → Prop} (q : c σ H fun b H1 => if b = true then Qb true H1 else c' σ H1 Qb) : tOr c c' σ H Qb := q
theorem rd_not {Qb : Bool → Hp → Prop} (q : c σ H fun b H1 => Qb (!b) H1) : tNot c σ H Qb := q
theorem rd_notV (q : te σ H fun x H1 => ∃ b, x = .bl b ∧ Q (.bl (!b)) H1) : tNotV te σ H Q := q
theorem rd_andV (q : ta σ H fun x H1 => ∃ b, x = .bl b ∧ if b = true then tb σ H1 Q else Q (.bl false) H1) : tAndV ta tb σ H Q := q
theorem rd_orV (q : ta σ H fun x H1 => ∃ b, x = .bl b ∧ if b = true then Q (.bl true) H1 else tb σ H1 Q) : tOrV ta tb σ H Q := q
theorem rd_ifE (q : c σ H fun b H1 => if b = true then ta σ H1 Q else tb σ H1 Q) : tIf c ta tb σ H Q := q
theorem rd_seq (q : t { D with nx := u D } σ H) : tSeq t u D σ H := q
theorem rd_asg {g : TG} (q : te σ H fun x H1 => g x σ H1 D.nx) : tAsg te g D σ H := q
theorem rd_gName {Qs : St → Hp → Prop} (q : Qs (σ.set i (some v)) H) : gName i v σ H Qs := q
theorem rd_ifS (q : c σ H fun b H1 => if b = true then t D σ H1 else u D σ H1) : tIfS c t u D σ H := q
theorem rd_ret (q : te σ H D.rt) : tRet te D σ H := q
theorem rd_drop (q : te σ H fun _ H1 => D.nx σ H1) : tDrop te D σ H := q
theorem rd_next (q : D.nx σ H) : tNext D σ H := q
theorem rd_cons {tr : TA} {Ql : List V → Hp → Prop} (q : ta σ H fun x H1 => tr σ H1 fun xs H2 => Ql (x :: xs) H2) : tCons ta tr σ H Ql := q
theorem rd_nil {Ql : List V → Hp → Prop} (q : Ql [] H) : tNil σ H Ql := q
theorem rd_CB {r : List V → Hp → VK → Prop} {ts : TA} (q : ts σ H fun vs H1 => r vs H1 Q) : tCB r ts σ H Q := q
theorem rd_call {sp : Sp} {E : XK} {ts : TA} (q : ts σ H fun vs H1 => sp vs H1 Q E) : tCall sp [] E ts σ H Q := by
  have e : (fun vs H1 => sp (vs ++ []) H1 Q E) = fun vs H1 => sp vs H1 Q E := by funext vs H1; rw [List.append_nil]
  show ts σ H fun vs H1 => sp (vs ++ []) H1 Q E
  rw [e]; exact q
def AllocT (xs : List V) (H : Hp) (Q : VK) : Prop := xs.length ≤ sizeLine ∧ ∀ p, H p = none → Q (.ref p) (upd H p (.tup xs))
def AllocL (xs : List V) (H : Hp) (Q : VK) : Prop := xs.length ≤ sizeLine ∧ ∀ p, H p = none → Q (.ref p) (upd H p (.lst xs))
theorem rd_tup {ts : TA} (q : ts σ H fun xs H1 => AllocT xs H1 Q) : tTup ts σ H Q := q
theorem rd_lst {ts : TA} (q : ts σ H fun xs H1 => AllocL xs H1 Q) : tLst ts σ H Q := q
theorem rd_lenL {a : Addr} {xs : List V} (h : SqL K H a xs) (q : Q (.int xs.length) H) : rLen K [.ref a] H Q := ⟨_, _, rfl, .inl ⟨xs, h, rfl⟩, q⟩
theorem rd_lenT {a : Addr} {xs : List V} (h : SqT K H a xs) (q : Q (.int xs.length) H) : rLen K [.ref a] H Q := ⟨_, _, rfl, .inr ⟨xs, h, rfl⟩, q⟩
theorem rd_lenS {x : Str} (h : x.length ≤ sizeLine) (q : Q (.int x.length) H) : rLen K [.str x] H Q := ⟨_, _, rfl, ⟨h, rfl⟩, q⟩
theorem rd_ixL {a : Addr} {xs : List V} {j : Int} {v : V} (h : SqL K H a xs) (e : atI xs j = some v) (q : Q v H) : rIx K (.ref a) (.int j) H Q := .inl ⟨a, xs, j, v, rfl, rfl, h, e, q⟩
theorem rd_ixT {a : Addr} {xs : List V} {j : Int} {v : V} (h : SqT K H a xs) (e : atI xs j = some v) (q : Q v H) : rIx K (.ref a) (.int j) H Q := .inr (.inl ⟨a, xs, j, v, rfl, rfl, h, e, q⟩)
theorem rd_ixS {z : Str} {j : Int} {c : Nat} (hz : z.length ≤ sizeLine) (e : atI z.cps.toList j = some c) (q : Q (.str ⟨#[c]⟩) H) : rIx K (.str z) (.int j) H Q := .inr (.inr ⟨z, j, c, rfl, rfl, hz, e, q⟩)
theorem rd_isi {x : V} {n : String} {t : Value} {b : Bool} (ty : TyS K H x t) (e : PySem.W.kitOne K t (.type n) = some b) (q : Q (.bl b) H) : rIsi K [x, .ty n] H Q := ⟨x, _, t, _, b, rfl, ty, fun _ r => r, e, q⟩
theorem rd_bm {T : String} {rm : V → List V → Hp → VK → Prop} {to : TE} {ts : TA} (q : to σ H fun x H1 => tyV K T x H1 ∧ ts σ H1 fun xs H2 => rm x xs H2 Q) : tBM K T rm to ts σ H Q := q
theorem rd_gSub {to ti : TE} {ts : TSet} {Qs : St → Hp → Prop} (q : to σ H fun o H1 => ti σ H1 fun i H2 => ts o i v H2 fun H3 => Qs σ H3) : gSub to ti ts v σ H Qs := q
theorem rd_gCons {t : TG} {u : TGs} {x : V} {xs : List V} {Qs : St → Hp → Prop} (q : t x σ H fun σ' H' => u xs σ' H' Qs) : gCons t u (x :: xs) σ H Qs := ⟨x, xs, rfl, q⟩
theorem rd_gNil {Qs : St → Hp → Prop} (q : Qs σ H) : gNil [] σ H Qs := ⟨rfl, q⟩
theorem rd_sFld {f : Str} {tv : TE} (q : tv σ H fun y H1 => ta σ H1 fun x H2 => ∃ a C dx fs, x = .ref a ∧ H2 a = some (.ins C dx fs) ∧ Cls K C ∧ NoAttr K C f ∧ fs.length < 1000 ∧ D.nx σ (upd H2 a (.ins C dx (putF f y fs)))) : sFld K ta tv f D σ H := q
theorem rd_chain {r' : R2} {tc : TE} (q : ta σ H fun x H1 => tb σ H1 fun y H2 => r x y H2 fun z H3 => ∃ k, z = .bl k ∧ (if k = true then tc σ H3 fun w' H4 => r' y w' H4 Q else Q (.bl false) H3)) : tChain r r' ta tb tc σ H Q := q
theorem rd_yes {Qb : Bool → Hp → Prop} (q : Qb true H) : tYes σ H Qb := q
end
end L2
namespace L2
open PySem PySem.Spec PyProof.Rows
section
variable {X : Cx} {K : PySem.W.Frag} {pos : Pos}
theorem op_addK (hK : X.K = K) : OpR X (binaryOp .Add) (rAddA K) := hK ▸ op_addA
theorem op_eqK (hK : X.K = K) (hu : X.A.units + 64 < cLine) : OpR X (compareOp .Eq) (rEqA K) := hK ▸ op_eqA hu
theorem op_neK (hK : X.K = K) (hu : X.A.units + 64 < cLine) : OpR X (compareOp .NotEq) (rNeA K) := hK ▸ op_neA hu
theorem call_lenK (hK : X.K = K) : CallR X (.builtin "len") (rLen K) := hK ▸ call_lenN
theorem call_listK (hK : X.K = K) : CallR X (.type "list") (rListOf K) := hK ▸ call_listN
theorem call_isiK (hK : X.K = K) : CallR X (.builtin "isinstance") (rIsi K) := hK ▸ call_isi
theorem ix_seqK (hK : X.K = K) : IxR X (rIx K) := hK ▸ ix_seq
theorem pi_seqK {tg l : Expr} {tl : TE} (hK : X.K = K) (hl : PE X l tl) : PI X tg l (iSeq K tl) := hK ▸ pi_seq hl
theorem pg_tupK {es : List Expr} {k : Nat} {t : TGs} {n : Nat} (hK : X.K = K) (hc : X.calm = true) (h : PGs X es t) (hn : (assignEach es X.env).length = n) (hst : (assignEach es X.env).findIdx? (·.1) = none) : PG X (.Tuple es k pos) (gTup K n t) := hK ▸ pg_tup hc h hn hst
theorem pt_truK {a : Expr} {ta : TE} (hK : X.K = K) (ha : PE X a ta) (he : ∀ whole, isTrue a X.env whole = (do let v ← whole; standAt a.pos; holding [v] (truthy v))) : PT X a (tTru K ta) := hK ▸ pt_tru ha he
theorem pe_bmK {o e : Expr} {es : List Expr} {to : TE} {t : TA} {name : Str} {apos cpos : Pos} {T id : String} {r : V → List V → Hp → VK → Prop} (hK : X.K = K) (pa : PlainAttrs T) (slot : Slot T name id) (hty : typeOf (.builtin id) = pure (.type "method_descriptor")) (hm : MtR X id r) (ho : PE X o to) (ha : PA X (e :: es) t)
    (hbase : attributeBase o name X.env (eval o X.env) = eval o X.env := by rfl)
    (hfew : ((backTo cpos (starEach (e :: es) X.env)).all (fun x => !x.1) && (backToKw cpos (keywordEach [] X.env)).all (fun x => x.1.isSome)
      && decide ((e :: es).length + ([] : List Keyword).length + (if ([] : List Keyword).isEmpty then 0 else 1) < 30)) = true := by rfl)
    (hline : (apos.endLine == cpos.line) = true := by rfl) (hs : starEach (e :: es) X.env = (false, eval e X.env) :: starEach es X.env := by rfl) (hplain : (backTo cpos (starEach es X.env)).any (·.1) = false := by rfl) :
    PE X (.Call (.Attribute o name apos) (e :: es) [] cpos) (tBM K T r to t) := hK ▸ pe_bm pa slot hty hm ho ha hbase hfew hline hs hplain
theorem pe_bm0K {o : Expr} {to : TE} {name : Str} {apos cpos : Pos} {T id : String} {r : V → List V → Hp → VK → Prop} (hK : X.K = K) (pa : PlainAttrs T) (slot : Slot T name id) (hty : typeOf (.builtin id) = pure (.type "method_descriptor")) (hm : MtR X id r) (ho : PE X o to)
    (hbase : attributeBase o name X.env (eval o X.env) = eval o X.env := by rfl) (hline : (apos.endLine == cpos.line) = true := by rfl) : PE X (.Call (.Attribute o name apos) [] [] cpos) (tBM0 K T r to) := hK ▸ pe_bm0 pa slot hty hm ho hbase hline
end
end L2

namespace LR
open PySem L2

theorem tru_bl (K : PySem.W.Frag) (H : Hp) (k : Bool) : TruV K (.bl k) H k := rfl
abbrev Pr := Int × Int
def prD (p : Pr) : PyData := .tuple [.int p.1, .int p.2]
section
variable {K : PySem.W.Frag} {H H' : Hp}
theorem prD_inv {v : V} {p : Pr} (r : Rep K H v (prD p)) : ∃ a, v = .ref a ∧ SqT K H a [.int p.1, .int p.2] := by
  obtain ⟨a, xs, rfl, h, l, q⟩ := r.tupI
  match xs, l, q, h with
  | [x, y], _, q, h =>
    have e1 := (q 0 x (.int p.1) rfl rfl).intI
    have e2 := (q 1 y (.int p.2) rfl rfl).intI
    subst e1 e2
    exact ⟨a, rfl, h⟩
abbrev Prs (K : PySem.W.Frag) (H : Hp) (vs : List V) (ps : List Pr) : Prop := RepL K H vs (ps.map prD)
theorem Prs.len {vs : List V} {ps : List Pr} (r : Prs K H vs ps) : vs.length = ps.length := by have := r.1; rwa [List.length_map] at this
theorem Prs.at {vs : List V} {ps : List Pr} {i : Nat} {v : V} (r : Prs K H vs ps) (e : vs[i]? = some v) : ∃ p a, ps[i]? = some p ∧ v = .ref a ∧ SqT K H a [.int p.1, .int p.2] := by
  obtain ⟨d, h1, h2⟩ := r.get' e
  rw [List.getElem?_map] at h1
  cases hp : ps[i]? with
  | none => rw [hp] at h1; cases h1
  | some p =>
    rw [hp] at h1; cases h1
    obtain ⟨a, e1, e2⟩ := prD_inv h2
    exact ⟨p, a, rfl, e1, e2⟩
theorem Prs.snoc {vs : List V} {ps : List Pr} {v : V} {p : Pr} (r : Prs K H vs ps) (h : Rep K H v (prD p)) : Prs K H (vs ++ [v]) (ps ++ [p]) := by
  show RepL K H _ _
  rw [List.map_append]
  exact RepL.snoc r h
end

structure Good (ps : List Pr) : Prop where
  one : ∀ (i : Nat) (p : Pr), ps[i]? = some p → 1 ≤ p.2
  gap : ∀ (i : Nat) (p q : Pr), ps[i]? = some p → ps[i + 1]? = some q → p.1 + p.2 < q.1
theorem Good.nil : Good [] := ⟨fun i p e => by simp at e, fun i p q e => by simp at e⟩
theorem Good.snoc {ps : List Pr} {p : Pr} (g : Good ps) (h1 : 1 ≤ p.2) (h2 : ∀ q, ps[ps.length - 1]? = some q → q.1 + q.2 < p.1) : Good (ps ++ [p]) := by
  refine ⟨fun i q e => ?_, fun i q r e1 e2 => ?_⟩
  · by_cases hi : i < ps.length
    · rw [List.getElem?_append_left hi] at e; exact g.one i q e
    · rw [List.getElem?_append_right (by omega)] at e
      obtain ⟨h3, h4⟩ := List.getElem?_eq_some_iff.mp e
      have : i - ps.length = 0 := by simp at h3; omega
      rw [this] at e; simp at e; subst e; exact h1
  · by_cases hi : i + 1 < ps.length
    · rw [List.getElem?_append_left (by omega)] at e1
      rw [List.getElem?_append_left hi] at e2
      exact g.gap i q r e1 e2
    · rw [List.getElem?_append_right (by omega)] at e2
      obtain ⟨h3, h4⟩ := List.getElem?_eq_some_iff.mp e2
      have h5 : i + 1 - ps.length = 0 := by simp at h3; omega
      rw [h5] at e2; simp at e2; subst e2
      have h6 : i = ps.length - 1 := by omega
      have h7 : i < ps.length := by omega
      rw [List.getElem?_append_left h7] at e1
      rw [h6] at e1
      exact h2 q e1

def rowF (t : Addr) : List (Str × V) := [("stretches", .ref t)]
def RowAt (C : Addr) (K : PySem.W.Frag) (H : Hp) (v : V) (ps : List Pr) : Prop :=
  ∃ x dx t ts, v = .ref x ∧ H x = some (.ins C dx (rowF t)) ∧ H t = some (.tup ts) ∧ Prs K H ts ps
theorem RowAt.mono {C : Addr} {K : PySem.W.Frag} {H H' : Hp} {v : V} {ps : List Pr} (e : Same H H') (r : RowAt C K H v ps) : RowAt C K H' v ps := by
  obtain ⟨x, dx, t, ts, h0, h1, h2, h3⟩ := r
  exact ⟨x, dx, t, ts, h0, e _ _ h1, e _ _ h2, RepL.mono e h3⟩
structure RowC (K : PySem.W.Frag) (C : Addr) : Prop where
  cl : Cls K C
  ns : NoAttr K C "stretches"
def MakeR (C : Addr) (sp : Sp) (E : XK) (vs : List V) (H1 : Hp) (Q : VK) : Prop := ∀ x dx, H1 x = none → H1 dx = none → dx ≠ x →
  sp (.ref x :: vs) (upd (upd H1 dx (.own x)) x (.ins C dx [])) (fun v H2 => v = .non ∧ Q (.ref x) H2) E
theorem rd_make {C : Addr} {sp : Sp} {E : XK} {ts : TA} {σ : St} {H : Hp} {Q : VK} (q : ts σ H fun vs H1 => MakeR C sp E vs H1 Q) : tMake C sp [] E ts σ H Q := by
  have e : (fun vs H1 => MakeR C sp E vs H1 Q) = fun vs H1 => ∀ x dx, H1 x = none → H1 dx = none → dx ≠ x → sp (.ref x :: (vs ++ [])) (upd (upd H1 dx (.own x)) x (.ins C dx [])) (fun v H2 => v = .non ∧ Q (.ref x) H2) E := by
    funext vs H1; rw [List.append_nil]; rfl
  show ts σ H _
  rw [← e]; exact q
def cell (ns : List Int) (k : Int) : Int := ns.getD k.toNat 0
end LR

namespace LR
open PySem L2

theorem cell_out {ns : List Int} {k : Int} (h : ¬ k < (ns.length : Int)) : cell ns k = 0 := by
  unfold cell
  rw [List.getD_eq_getElem?_getD, List.getElem?_eq_none (by omega)]
  rfl
theorem rd_lenSq {K : PySem.W.Frag} {a : Addr} {xs : List V} {H : Hp} {Q : VK} (h : SqL K H a xs ∨ SqT K H a xs) (q : Q (.int xs.length) H) : rLen K [.ref a] H Q := by
  rcases h with h | h
  · exact rd_lenL h q
  · exact rd_lenT h q
def spLaw (K : PySem.W.Frag) : Sp := fun vs H Q _ => ∃ (a : Addr) (ns : List Int), vs = [.ref a] ∧ SqL K H a (ns.map V.int) ∧ ns.length ≤ 63 ∧ ∀ H', Q (.bl true) H'
end LR
namespace LR
open PySem L2
end LR

namespace L2
open PySem PySem.Spec PyProof.Rows

section
variable {X : Cx} {pins : List (Addr × Obj)} {σ : St} {H : Hp} {s : Shared}
theorem iter_walk {A' : Around} {E : Value → Shared → Prop} {Q : Value → Shared → Prop} {a : Addr} {vs : List V} (hh : A'.handled = none) (I : Inv X pins σ H s) (hq : SqL X.K H a vs ∨ SqT X.K H a vs)
    (h : ∀ (its : List Value) (J : Addr) (fp wr : List Addr) (Sx : Nat → Heap → Prop) (s2 : Shared), Vals vs its → Walks X.prog X.w A' J fp wr its.toArray.size (fun i v => its.toArray[i]? = some v) Sx → Sx 0 s2.heap → (∀ b ∈ fp, b < s2.heap.objs.size) →
      (∀ h' tk, (∀ b o, b ∉ wr → s2.heap.get? b = some o → h'.get? b = some o) → Inv X pins σ H { s2 with heap := h', toks := tk }) → Q (.ref J) s2) : wpAny (model X.prog X.w) A' (pyIter (.ref a)) Q E s := by
  have nin : ∀ b o, s.heap.get? b = some o → b ∉ [s.heap.objs.size] := fun b o e z => by
    have : b = s.heap.objs.size := by simpa using z
    exact absurd (Heap.lt_size e) (by rw [this]; exact Nat.lt_irrefl _)
  rcases hq with hq | hq
  · obtain ⟨its, rv, p, hz⟩ := I.list hq
    have hlt : a < s.heap.objs.size := by obtain ⟨_, e, _⟩ := p.isList; exact Heap.lt_size e
    refine wpAny_pyIter_list p.isList ?_
    refine h its _ _ _ _ _ rv (Walks.list hh _ a (Nat.ne_of_lt hlt) its.toArray) ⟨⟨_, Heap.get?_push_size _ rfl, rfl, rfl⟩, p.isList.push _⟩ (fun b hb => ?_) fun h' tk hk => I.kept fun b o e => hk b o (nin b o e) (Heap.get?_push_of_some _ e)
    show b < (s.heap.push _).objs.size
    rw [Heap.size_push]
    rcases List.mem_cons.mp hb with z | z
    · rw [z]; exact Nat.lt_succ_self _
    · have : b = a := by simpa using z
      rw [this]; exact Nat.lt_succ_of_lt hlt
  · obtain ⟨its, rv, p, hz⟩ := I.tuple hq
    have ht : s.heap.IsTuple a its.toArray := p
    have hlt : a < s.heap.objs.size := by obtain ⟨_, e, _⟩ := ht; exact Heap.lt_size e
    refine wpAny_pyIter_tuple ht ?_
    refine h its _ _ _ _ _ rv (Walks.tuple hh _ a (Nat.ne_of_lt hlt) its.toArray) ⟨⟨_, Heap.get?_push_size _ rfl, rfl, rfl⟩, ?_⟩ (fun b hb => ?_) fun h' tk hk => I.kept fun b o e => hk b o (nin b o e) (Heap.get?_push_of_some _ e)
    · obtain ⟨o, e, c⟩ := ht
      exact ⟨o, Heap.get?_push_of_some _ e, c⟩
    · show b < (s.heap.push _).objs.size
      rw [Heap.size_push]
      rcases List.mem_cons.mp hb with z | z
      · rw [z]; exact Nat.lt_succ_self _
      · have : b = a := by simpa using z
        rw [this]; exact Nat.lt_succ_of_lt hlt
end

theorem preSum_list (l : List Int) : ∀ j, j ≤ l.length → preSum (fun i => l.getD i 0) j = (l.take j).sum
  | 0, _ => by simp [preSum]
  | j + 1, h => by
    rw [preSum, preSum_list l j (by omega)]
    have hj : j < l.length := by omega
    rw [List.take_add_one, List.sum_append]
    simp [hj]
section
variable {X : Cx}
def rSum (K : PySem.W.Frag) : List V → Hp → VK → Prop := fun xs H Q => ∃ (a : Addr) (ns : List Int), xs = [.ref a] ∧ (SqL K H a (ns.map V.int) ∨ SqT K H a (ns.map V.int)) ∧ Q (.int ns.sum) H
theorem call_sumN (hc : X.calm = true) : CallR X (.builtin "sum") (rSum X.K) := by
  intro pins s σ H xs us Q I r h
  obtain ⟨a, ns, rfl, hq, q⟩ := h
  obtain ⟨u, rfl, rx⟩ := vals1 r
  cases rx
  refine call_sum_walkG (iter_walk (A' := X.A.in1) (I.ok.hd hc) I hq fun its J fp wr Sx s2 rv W st hfp hI => ?_)
  have hi := intsAre_of rv
  have hl := rv.length
  rw [List.length_map] at hl
  refine ⟨J, fp, wr, _, _, Sx, fun i => ns.getD i 0, rfl, W, st, hfp, fun i v e => ?_, fun h' tk t' hk => ?_⟩
  · have e' : its[i]? = some v := by simpa using e
    obtain ⟨x, e1, e2⟩ := rv.get' e'
    rw [List.getElem?_map] at e1
    cases hn : ns[i]? with
    | none => rw [hn] at e1; cases e1
    | some n =>
      rw [hn] at e1; cases e1
      obtain ⟨t, rfl⟩ := e2
      exact ⟨t, by simp [List.getD_eq_getElem?_getD, hn]⟩
  · refine ⟨.int ns.sum, H, hI h' tk hk, ⟨t', ?_⟩, q⟩
    rw [show its.toArray.size = ns.length by simp [hl], preSum_list ns _ (Nat.le_refl _), List.take_length]
def strI (i : Int) : Str := (toString i : String)
end
section
variable {X : Cx} {K : PySem.W.Frag}
theorem call_sumK (hK : X.K = K) (hc : X.calm = true) : CallR X (.builtin "sum") (rSum K) := hK ▸ call_sumN hc
end
section
variable {K : PySem.W.Frag} {H : Hp} {Q : VK}
end
end L2
namespace L2
open PySem PySem.Spec PyProof.Rows
def AllP {α : Type} (P : α → Prop) : List α → Prop
  | [] => True
  | x :: xs => P x ∧ AllP P xs
theorem AllP.mem {α : Type} {P : α → Prop} : ∀ {l : List α}, AllP P l → ∀ x ∈ l, P x
  | [], _, x, hx => nomatch hx
  | y :: l, h, x, hx => by
    rcases List.mem_cons.mp hx with z | z
    · rw [z]; exact h.1
    · exact AllP.mem h.2 x z
theorem lookup_some_of_any {cl : List (Str × Addr)} {x : Str} (h : cl.any (fun p => p.1 == x) = true) : (cl.lookup x).isSome = true := by
  induction cl with
  | nil => simp at h
  | cons p cl ih =>
    obtain ⟨n, a⟩ := p
    rw [List.lookup_cons]
    by_cases e : x == n
    · rw [e]; rfl
    · have e' : (x == n) = false := by simpa using e
      rw [e']
      rw [List.any_cons] at h
      rcases Bool.or_eq_true_iff.mp h with z | z
      · have : n = x := eq_of_beq z
        rw [this] at e'; simp at e'
      · exact ih z
theorem blkF {X : Cx} {sc : Scope} {cl : List (Str × Addr)} {own : List Str} {fr : List (Str × Nat)} (h1 : sc.kind = .function) (h2 : closureFor sc X.env = pure cl)
    (h3 : (sc.names.all fun y => y.2 != .cell && (y.2 != .local || sc.names.lookup y.1 == some .local)) = true) (h4 : AllP (fun p => X.env.cells.lookup p.1 = some p.2) cl)
    (h5 : ((relabel sc X.env).names.all fun y => (y.2 != .cell && y.2 != .free) || cl.any (fun p => p.1 == y.1)) = true)
    (h6 : AllP (fun p => X.N[p.2]? = some p.1 ∧ X.env.scope.names.lookup p.1 = some .cell ∧ (relabel sc X.env).names.lookup p.1 = some .cell) fr) :
    Blk X sc cl (own ++ fr.map (·.1)) (own.map (fun _ => none) ++ fr.map (fun p => some p.2)) := by
  simp only [List.all_eq_true, Bool.and_eq_true] at h3
  simp only [List.all_eq_true] at h5
  refine ⟨h2, h1, fun y hy => ?_, fun y hy hl => ?_, AllP.mem h4, fun y hy hk => ?_, by simp, fun p hp k e => ?_⟩
  · have := (h3 y hy).1
    simpa using this
  · have := (h3 y hy).2
    rw [hl] at this
    simpa using this
  · have := h5 y hy
    rcases Bool.or_eq_true_iff.mp this with z | z
    · rcases hk with q | q
      · rw [q] at z; simp at z
      · rw [q] at z; simp at z
    · exact lookup_some_of_any z
  · rw [List.zip_append (by simp)] at hp
    rcases List.mem_append.mp hp with z | z
    · have := (List.of_mem_zip z).1
      obtain ⟨_, _, q⟩ := List.mem_map.mp this
      rw [← q] at e; cases e
    · rw [List.zip_map_left] at z
      obtain ⟨q, hq, eq⟩ := List.mem_map.mp z
      have hz : q.1 ∈ fr ∧ q.1.1 = q.2 := by
        clear h6 e eq z hp
        rw [List.zip_map_right] at hq
        obtain ⟨q', hq', eq'⟩ := List.mem_map.mp hq
        have : q'.1 = q'.2 := by
          clear eq' hq
          induction fr with
          | nil => cases hq'
          | cons x fr ih =>
            rcases List.mem_cons.mp hq' with z | z
            · rw [z]
            · exact ih z
        rw [← eq']
        exact ⟨(List.of_mem_zip hq').1, by show q'.1.1 = q'.2.1; rw [this]⟩
      obtain ⟨a1, a2, a3⟩ := AllP.mem h6 q.1 hz.1
      rw [← eq] at e ⊢
      have ek : q.1.2 = k := by simpa using e
      subst ek
      rw [hz.2] at a1 a2 a3
      exact ⟨a1, .inl a2, .inl a3⟩
end L2

namespace LR
open PySem L2

def Small (i : Int) : Prop := i.natAbs.log2 < 1920
theorem Small.of {i : Int} (h : i.natAbs < 2 ^ 1920) : Small i := by
  unfold Small
  by_cases h0 : i.natAbs = 0
  · rw [h0]; decide
  · exact (Nat.log2_lt h0).mpr h
theorem Small.le {i : Int} (h1 : -(10 ^ 100) ≤ i) (h2 : i ≤ 10 ^ 100) : Small i := Small.of (by
  have h3 : i.natAbs ≤ 10 ^ 100 := by omega
  exact Nat.lt_of_le_of_lt h3 (by decide +kernel))
end LR

namespace LE
open PySem L2 LR

inductive D where
  | non | bl (b : Bool) | int (i : Int) | str (x : Str) | tup (l : List D) | lst (l : List D) | fz (l : List D) | row (l : List D) | dct (ks : List Int) (l : List D) | dfz (ks : List Int) (l : List D) | exc (n : Str)
noncomputable def dkO (ks : List Int) (xs : List V) : HO := .dK ((ks.map Sum.inl).zip xs)
noncomputable def XO (a : Addr) (c : Value) : HO := .ext fun h => ∃ o, h.get? a = some o ∧ o.cls = c ∧ PySem.W.notCls o = true ∧ o.dict = none

section
variable (K : PySem.W.Frag) (C : Addr)
inductive RD (H : Hp) : V → D → Prop
  | non : RD H .non .non
  | bl (b : Bool) : RD H (.bl b) (.bl b)
  | int (i : Int) : RD H (.int i) (.int i)
  | str (x : Str) : RD H (.str x) (.str x)
  | tup {a : Addr} {xs : List V} {ds : List D} : SqT K H a xs → xs.length = ds.length → (∀ (i : Nat) (x : V) (d : D), xs[i]? = some x → ds[i]? = some d → RD H x d) → RD H (.ref a) (.tup ds)
  | lst {a : Addr} {xs : List V} {ds : List D} : H a = some (.lst xs) → xs.length = ds.length → (∀ (i : Nat) (x : V) (d : D), xs[i]? = some x → ds[i]? = some d → RD H x d) → RD H (.ref a) (.lst ds)
  | fz {a : Addr} {xs : List V} {ds : List D} : SqL K H a xs → xs.length = ds.length → (∀ (i : Nat) (x : V) (d : D), xs[i]? = some x → ds[i]? = some d → RD H x d) → RD H (.ref a) (.fz ds)
  | row {x dx t : Addr} {ts : List V} {ds : List D} : H x = some (.ins C dx (rowF t)) → SqT K H t ts → ts.length = ds.length → (∀ (i : Nat) (x : V) (d : D), ts[i]? = some x → ds[i]? = some d → RD H x d) → RD H (.ref x) (.row ds)
  | dct {a : Addr} {ks : List Int} {xs : List V} {ds : List D} : H a = some (dkO ks xs) → ks.length = ds.length → xs.length = ds.length → (∀ (i : Nat) (x : V) (d : D), xs[i]? = some x → ds[i]? = some d → RD H x d) → RD H (.ref a) (.dct ks ds)
  | dfz {a : Addr} {ks : List Int} {xs : List V} {ds : List D} {o : Obj} : H a = some (.frz o (dkO ks xs)) → ks.length = ds.length → xs.length = ds.length → (∀ (i : Nat) (x : V) (d : D), xs[i]? = some x → ds[i]? = some d → RD H x d) → RD H (.ref a) (.dfz ks ds)
  | exc {a c : Addr} {n : Str} : H a = some (XO a (.ref c)) → PySem.W.nsIn K mainGlobals n = some (some (.ref c)) → RD H (.ref a) (.exc n)
noncomputable def RDL (H : Hp) (xs : List V) (ds : List D) : Prop := xs.length = ds.length ∧ ∀ (i : Nat) (x : V) (d : D), xs[i]? = some x → ds[i]? = some d → RD K C H x d
end

section
variable {K : PySem.W.Frag} {C : Addr} {H H' : Hp}
theorem RD.mono {v : V} {d : D} (e : Same H H') (r : RD K C H v d) : RD K C H' v d := by
  induction r with
  | non => exact .non
  | bl b => exact .bl b
  | int i => exact .int i
  | str x => exact .str x
  | tup h l _ ih => exact .tup (e.seqT h) l ih
  | lst h l _ ih => exact .lst (e _ _ h) l ih
  | fz h l _ ih => exact .fz (e.seq h) l ih
  | row h1 h2 l _ ih => exact .row (e _ _ h1) (e.seqT h2) l ih
  | dct h1 h2 l _ ih => exact .dct (e _ _ h1) h2 l ih
  | dfz h1 h2 l _ ih => exact .dfz (e _ _ h1) h2 l ih
  | exc h1 h2 => exact .exc (e _ _ h1) h2
theorem RDL.mono {xs : List V} {ds : List D} (e : Same H H') (r : RDL K C H xs ds) : RDL K C H' xs ds := ⟨r.1, fun i x d h1 h2 => (r.2 i x d h1 h2).mono e⟩
theorem RDL.nil : RDL K C H [] [] := ⟨rfl, fun i x d e => by simp at e⟩
theorem RDL.cons {x : V} {d : D} {xs : List V} {ds : List D} (h : RD K C H x d) (r : RDL K C H xs ds) : RDL K C H (x :: xs) (d :: ds) := by
  refine ⟨by simp [r.1], fun i y e h1 h2 => ?_⟩
  cases i with
  | zero => simp at h1 h2; subst h1 h2; exact h
  | succ i => exact r.2 i y e (by simpa using h1) (by simpa using h2)
theorem RDL.append {xs ys : List V} {ds es : List D} (r : RDL K C H xs ds) (q : RDL K C H ys es) : RDL K C H (xs ++ ys) (ds ++ es) := by
  refine ⟨by simp [r.1, q.1], fun i x d h1 h2 => ?_⟩
  by_cases hi : i < xs.length
  · rw [List.getElem?_append_left hi] at h1
    rw [List.getElem?_append_left (by rw [← r.1]; exact hi)] at h2
    exact r.2 i x d h1 h2
  · rw [List.getElem?_append_right (by omega)] at h1
    rw [List.getElem?_append_right (by rw [← r.1]; omega)] at h2
    rw [← r.1] at h2
    exact q.2 _ x d h1 h2
theorem RDL.snoc {xs : List V} {ds : List D} {x : V} {d : D} (r : RDL K C H xs ds) (h : RD K C H x d) : RDL K C H (xs ++ [x]) (ds ++ [d]) := r.append (.cons h .nil)
theorem RDL.get {xs : List V} {ds : List D} {i : Nat} {d : D} (r : RDL K C H xs ds) (e : ds[i]? = some d) : ∃ x, xs[i]? = some x ∧ RD K C H x d := by
  have hi := (List.getElem?_eq_some_iff.mp e).1
  have hx : i < xs.length := by rw [r.1]; exact hi
  exact ⟨xs[i], by simp [hx], r.2 i _ d (by simp [hx]) e⟩
theorem RDL.get' {xs : List V} {ds : List D} {i : Nat} {x : V} (r : RDL K C H xs ds) (e : xs[i]? = some x) : ∃ d, ds[i]? = some d ∧ RD K C H x d := by
  have hi := (List.getElem?_eq_some_iff.mp e).1
  have hx : i < ds.length := by rw [← r.1]; exact hi
  exact ⟨ds[i], by simp [hx], r.2 i x _ e (by simp [hx])⟩
theorem RDL.head {x : V} {xs : List V} {d : D} {ds : List D} (r : RDL K C H (x :: xs) (d :: ds)) : RD K C H x d := r.2 0 x d rfl rfl
theorem RDL.tail {x : V} {xs : List V} {d : D} {ds : List D} (r : RDL K C H (x :: xs) (d :: ds)) : RDL K C H xs ds := ⟨by have := r.1; simpa using this, fun i y e h1 h2 => r.2 (i + 1) y e (by simpa using h1) (by simpa using h2)⟩
theorem RDL.take {xs : List V} {ds : List D} (n : Nat) (r : RDL K C H xs ds) : RDL K C H (xs.take n) (ds.take n) := by
  refine ⟨by simp [r.1], fun i x d h1 h2 => ?_⟩
  rw [List.getElem?_take] at h1 h2
  split at h1
  · rw [if_pos (by assumption)] at h2; exact r.2 i x d h1 h2
  · cases h1
theorem RDL.drop {xs : List V} {ds : List D} (n : Nat) (r : RDL K C H xs ds) : RDL K C H (xs.drop n) (ds.drop n) := by
  refine ⟨by simp [r.1], fun i x d h1 h2 => ?_⟩
  rw [List.getElem?_drop] at h1 h2
  exact r.2 _ x d h1 h2
theorem RDL.set {xs : List V} {ds : List D} {v : V} {e : D} (n : Nat) (r : RDL K C H xs ds) (h : RD K C H v e) : RDL K C H (xs.set n v) (ds.set n e) := by
  refine ⟨by simp [r.1], fun i x d h1 h2 => ?_⟩
  rw [List.getElem?_set] at h1 h2
  split at h1
  · rw [if_pos (by assumption)] at h2
    split at h1
    · rw [if_pos (by rw [← r.1]; assumption)] at h2; cases h1; cases h2; exact h
    · cases h1
  · rw [if_neg (by assumption)] at h2; exact r.2 i x d h1 h2
theorem RDL.reverse {xs : List V} {ds : List D} (r : RDL K C H xs ds) : RDL K C H xs.reverse ds.reverse := by
  refine ⟨by simp [r.1], fun i x d h1 h2 => ?_⟩
  have hi : i < xs.length := by have := (List.getElem?_eq_some_iff.mp h1).1; simpa using this
  rw [List.getElem?_reverse hi] at h1
  rw [List.getElem?_reverse (by rw [← r.1]; exact hi)] at h2
  rw [← r.1] at h2
  exact r.2 _ x d h1 h2
theorem RDL.ints : ∀ {xs : List V} {ns : List Int}, RDL K C H xs (ns.map D.int) → xs = ns.map V.int
  | [], [], _ => rfl
  | [], _ :: _, r => by have := r.1; simp at this
  | _ :: _, [], r => by have := r.1; simp at this
  | x :: xs, n :: ns, r => by
    have h := r.head
    cases h
    rw [RDL.ints r.tail]; rfl
theorem RDL.ofInts : ∀ (ns : List Int), RDL K C H (ns.map V.int) (ns.map D.int)
  | [] => .nil
  | n :: ns => .cons (.int n) (RDL.ofInts ns)
theorem RDL.bls : ∀ {xs : List V} {ns : List Bool}, RDL K C H xs (ns.map D.bl) → xs = ns.map V.bl
  | [], [], _ => rfl
  | [], _ :: _, r => by have := r.1; simp at this
  | _ :: _, [], r => by have := r.1; simp at this
  | x :: xs, n :: ns, r => by
    have h := r.head
    cases h
    rw [RDL.bls r.tail]; rfl
theorem RDL.strs : ∀ {xs : List V} {ns : List Str}, RDL K C H xs (ns.map D.str) → xs = ns.map V.str
  | [], [], _ => rfl
  | [], _ :: _, r => by have := r.1; simp at this
  | _ :: _, [], r => by have := r.1; simp at this
  | x :: xs, n :: ns, r => by
    have h := r.head
    cases h
    rw [RDL.strs r.tail]; rfl
theorem RD.mkT {a : Addr} {xs : List V} {ds : List D} (h : SqT K H a xs) (r : RDL K C H xs ds) : RD K C H (.ref a) (.tup ds) := .tup h r.1 r.2
theorem RD.mkL {a : Addr} {xs : List V} {ds : List D} (h : H a = some (.lst xs)) (r : RDL K C H xs ds) : RD K C H (.ref a) (.lst ds) := .lst h r.1 r.2
theorem RD.mkF {a : Addr} {xs : List V} {ds : List D} (h : SqL K H a xs) (r : RDL K C H xs ds) : RD K C H (.ref a) (.fz ds) := .fz h r.1 r.2
theorem RD.tupI {v : V} {ds : List D} (r : RD K C H v (.tup ds)) : ∃ a xs, v = .ref a ∧ SqT K H a xs ∧ RDL K C H xs ds := by
  cases r with
  | tup h l q => exact ⟨_, _, rfl, h, l, q⟩
theorem RD.lstI {v : V} {ds : List D} (r : RD K C H v (.lst ds)) : ∃ a xs, v = .ref a ∧ H a = some (.lst xs) ∧ RDL K C H xs ds := by
  cases r with
  | lst h l q => exact ⟨_, _, rfl, h, l, q⟩
theorem RD.fzI {v : V} {ds : List D} (r : RD K C H v (.fz ds)) : ∃ a xs, v = .ref a ∧ SqL K H a xs ∧ RDL K C H xs ds := by
  cases r with
  | fz h l q => exact ⟨_, _, rfl, h, l, q⟩
theorem RD.mkD {a : Addr} {ks : List Int} {xs : List V} {ds : List D} (h : H a = some (dkO ks xs)) (hk : ks.length = ds.length) (r : RDL K C H xs ds) : RD K C H (.ref a) (.dct ks ds) := .dct h hk r.1 r.2
theorem RD.dctI {v : V} {ks : List Int} {ds : List D} (r : RD K C H v (.dct ks ds)) : ∃ a xs, v = .ref a ∧ H a = some (dkO ks xs) ∧ ks.length = ds.length ∧ RDL K C H xs ds := by
  cases r with
  | dct h hk l q => exact ⟨_, _, rfl, h, hk, l, q⟩
theorem RD.dfzI {v : V} {ks : List Int} {ds : List D} (r : RD K C H v (.dfz ks ds)) : ∃ a xs o, v = .ref a ∧ H a = some (.frz o (dkO ks xs)) ∧ ks.length = ds.length ∧ RDL K C H xs ds := by
  cases r with
  | dfz h hk l q => exact ⟨_, _, _, rfl, h, hk, l, q⟩
theorem RD.excI {v : V} {n : Str} (r : RD K C H v (.exc n)) : ∃ a c, v = .ref a ∧ H a = some (XO a (.ref c)) ∧ PySem.W.nsIn K mainGlobals n = some (some (.ref c)) := by
  cases r with
  | exc h1 h2 => exact ⟨_, _, rfl, h1, h2⟩
theorem RD.intI {v : V} {i : Int} (r : RD K C H v (.int i)) : v = .int i := by cases r; rfl
theorem RD.strI {v : V} {i : Str} (r : RD K C H v (.str i)) : v = .str i := by cases r; rfl
theorem RD.blI {v : V} {i : Bool} (r : RD K C H v (.bl i)) : v = .bl i := by cases r; rfl
theorem RD.nonI {v : V} (r : RD K C H v .non) : v = .non := by cases r; rfl
end

mutual
noncomputable def D.py : D → PyData
  | .non => .none
  | .bl b => .bool b
  | .int i => .int i
  | .str x => .str x
  | .tup l => .tuple (D.pyL l)
  | .lst l => .list (D.pyL l)
  | .fz l => .list (D.pyL l)
  | .row _ => .dict []
  | .dct _ _ => .dict []
  | .dfz _ _ => .dict []
  | .exc _ => .dict []
noncomputable def D.pyL : List D → List PyData
  | [] => []
  | d :: ds => d.py :: D.pyL ds
end
theorem pyL_map : ∀ ds : List D, D.pyL ds = ds.map D.py
  | [] => rfl
  | d :: ds => by rw [D.pyL, pyL_map ds]; rfl
theorem layAll_mem : ∀ {ds : List PyData}, PyData.canLayAll0 ds = true → ∀ d ∈ ds, d.canLay0 = true
  | [], _, d, hd => nomatch hd
  | x :: ds, h, d, hd => by
    have h' : (PyData.canLay0 x && PyData.canLayAll0 ds) = true := h
    rw [Bool.and_eq_true] at h'
    rcases List.mem_cons.mp hd with z | z
    · rw [z]; exact h'.1
    · exact layAll_mem h'.2 d z
theorem RD.rep {K : PySem.W.Frag} {C : Addr} {H : Hp} {v : V} {d : D} (r : RD K C H v d) : d.py.canLay0 = true → Rep K H v d.py := by
  have all : ∀ {xs : List V} {ds : List D}, xs.length = ds.length → (∀ (i : Nat) (x : V) (d : D), xs[i]? = some x → ds[i]? = some d → d.py.canLay0 = true → Rep K H x d.py) → PyData.canLayAll0 (D.pyL ds) = true → RepL K H xs (D.pyL ds) := by
    intro xs ds l ih hc
    rw [pyL_map] at hc ⊢
    refine ⟨by simpa using l, fun i x d h1 h2 => ?_⟩
    rw [List.getElem?_map] at h2
    cases e : ds[i]? with
    | none => rw [e] at h2; cases h2
    | some q =>
      rw [e] at h2; cases h2
      exact ih i x q h1 e (layAll_mem hc _ (List.mem_map.mpr ⟨q, List.mem_of_getElem? e, rfl⟩))
  induction r with
  | non => intro _; exact .non
  | bl b => intro _; exact .bl b
  | int i => intro _; exact .int i
  | str x => intro _; exact .str x
  | tup h l _ ih => intro hc; exact .tupL h (all l ih hc)
  | lst h l _ ih => intro hc; exact .lstL (.of h) (all l ih hc)
  | fz h l _ ih => intro hc; exact .lstL h (all l ih hc)
  | row h1 h2 l _ ih => intro hc; cases hc
  | dct h1 h2 l _ ih => intro hc; cases hc
  | dfz h1 h2 l _ ih => intro hc; cases hc
  | exc h1 h2 => intro hc; cases hc

inductive Sl where
  | no | sh (d : D) | bo (ds : List D) | own (ds : List D) | bd (ks : List Int) (ds : List D) | od (ks : List Int) (ds : List D)
noncomputable def isOwn : Sl → Bool
  | .own _ => true
  | .od _ _ => true
  | _ => false
noncomputable def isBo : Sl → Bool
  | .bo _ => true
  | .bd _ _ => true
  | _ => false

section
variable (K : PySem.W.Frag) (C : Addr)
noncomputable def RR (Hs H0 H : Hp) (v : V) : Sl → Prop
  | .no => False
  | .sh d => RD K C H0 v d
  | .bo ds => ∃ l xs, v = .ref l ∧ H l = some (.lst xs) ∧ RDL K C H0 xs ds
  | .own ds => ∃ l xs, v = .ref l ∧ H l = some (.lst xs) ∧ H0 l = none ∧ Hs l = none ∧ RDL K C H0 xs ds
  | .bd ks ds => ∃ l xs, v = .ref l ∧ H l = some (dkO ks xs) ∧ ks.length = ds.length ∧ RDL K C H0 xs ds
  | .od ks ds => ∃ l xs, v = .ref l ∧ H l = some (dkO ks xs) ∧ H0 l = none ∧ Hs l = none ∧ ks.length = ds.length ∧ RDL K C H0 xs ds
noncomputable def RSl (B H0 H : Hp) (v : V) : Sl → Prop
  | .no => True
  | .sh d => RD K C H0 v d
  | .bo ds => ∃ l xs, v = .ref l ∧ B l = some (.lst xs) ∧ RDL K C H0 xs ds
  | .own ds => ∃ l xs, v = .ref l ∧ H l = some (.lst xs) ∧ H0 l = none ∧ B l = none ∧ RDL K C H0 xs ds
  | .bd ks ds => ∃ l xs, v = .ref l ∧ B l = some (dkO ks xs) ∧ ks.length = ds.length ∧ RDL K C H0 xs ds
  | .od ks ds => ∃ l xs, v = .ref l ∧ H l = some (dkO ks xs) ∧ H0 l = none ∧ B l = none ∧ ks.length = ds.length ∧ RDL K C H0 xs ds
structure EnvR (B H0 H : Hp) (σ : St) (E : List Sl) : Prop where
  b : Same B H
  h : Same H0 H
  len : σ.length = E.length
  at' : ∀ (i : Nat) (s : Sl), E[i]? = some s → s = .no ∨ ∃ v, σ[i]? = some (some v) ∧ RSl K C B H0 H v s
  sep : ∀ (i j : Nat) (s t : Sl) (v : V), i ≠ j → E[i]? = some s → E[j]? = some t → isOwn s = true → isOwn t = true → σ[i]? = some (some v) → σ[j]? ≠ some (some v)
end
noncomputable def isT : HO → Bool
  | .tup _ => true
  | .frz _ (.tup _) => true
  | _ => false
structure Step (Hs H0 H H0' H' : Hp) : Prop where
  h : Same H H'
  z : Same H0 H0'
  n : ∀ a o, H0' a = some o → H0 a = some o ∨ Hs a = none ∨ isT o = true
  i : Same H0' H'
structure SStep (B H0 H0' H' : Hp) : Prop where
  b : Same B H'
  z : Same H0 H0'
  n : ∀ a o, H0' a = some o → H0 a = some o ∨ B a = none ∨ isT o = true
  i : Same H0' H'

section
variable {K : PySem.W.Frag} {C : Addr} {B Hs H0 H H0' H' H0'' H'' : Hp} {σ : St} {E : List Sl} {v : V} {s : Sl}
theorem Step.refl (i : Same H0 H) : Step Hs H0 H H0 H := ⟨Same.refl _, Same.refl _, fun _ _ e => .inl e, i⟩
theorem Step.comp {Hs' : Hp} (s1 : Step Hs H0 H H0' H') (s2 : Step Hs' H0' H' H0'' H'') (w : ∀ a, Hs' a = none → Hs a = none) : Step Hs H0 H H0'' H'' :=
  ⟨s1.h.trans s2.h, s1.z.trans s2.z, fun a o e => (s2.n a o e).elim (fun q => s1.n a o q) fun q => .inr (q.imp (w a) id), s2.i⟩
theorem Step.trans (s1 : Step H H0 H H0' H') (s2 : Step H' H0' H' H0'' H'') : Step H H0 H H0'' H'' := s1.comp s2 fun _ q => Same.free s1.h q
theorem Step.ss (b : Same B H) (s : Step H H0 H H0' H') : SStep B H0 H0' H' := ⟨b.trans s.h, s.z, fun a o e => (s.n a o e).imp id fun q => q.imp (fun q => Same.free b q) id, s.i⟩
theorem SStep.refl (b : Same B H) (i : Same H0 H) : SStep B H0 H0 H := ⟨b, Same.refl _, fun _ _ e => .inl e, i⟩
theorem SStep.trans (s1 : SStep B H0 H0' H') (s2 : SStep B H0' H0'' H'') : SStep B H0 H0'' H'' := ⟨s2.b, s1.z.trans s2.z, fun a o e => (s2.n a o e).elim (fun q => s1.n a o q) .inr, s2.i⟩
theorem RR.step (r : RR K C Hs H0 H v s) (st : Step H H0 H H0' H') : RR K C Hs H0' H' v s := by
  cases s with
  | no => exact r
  | sh d => exact RD.mono st.z r
  | bo ds => obtain ⟨l, xs, e, h, q⟩ := r; exact ⟨l, xs, e, st.h _ _ h, q.mono st.z⟩
  | bd ks ds => obtain ⟨l, xs, e, h, hk, q⟩ := r; exact ⟨l, xs, e, st.h _ _ h, hk, q.mono st.z⟩
  | own ds =>
    obtain ⟨l, xs, e, h, n, m, q⟩ := r
    refine ⟨l, xs, e, st.h _ _ h, ?_, m, q.mono st.z⟩
    cases z : H0' l with
    | none => rfl
    | some o =>
      rcases st.n l o z with y | y | y
      · rw [n] at y; cases y
      · rw [h] at y; cases y
      · have := st.i l o z
        rw [st.h _ _ h] at this
        cases this; cases y
  | od ks ds =>
    obtain ⟨l, xs, e, h, n, m, hk, q⟩ := r
    refine ⟨l, xs, e, st.h _ _ h, ?_, m, hk, q.mono st.z⟩
    cases z : H0' l with
    | none => rfl
    | some o =>
      rcases st.n l o z with y | y | y
      · rw [n] at y; cases y
      · rw [h] at y; cases y
      · have := st.i l o z
        rw [st.h _ _ h] at this
        cases this; cases y
theorem RR.weak {Hs' : Hp} (r : RR K C Hs' H0 H v s) (w : ∀ a, Hs' a = none → Hs a = none) : RR K C Hs H0 H v s := by
  cases s with
  | own ds => obtain ⟨l, xs, e, h, n, m, q⟩ := r; exact ⟨l, xs, e, h, n, w _ m, q⟩
  | od ks ds => obtain ⟨l, xs, e, h, n, m, q⟩ := r; exact ⟨l, xs, e, h, n, w _ m, q⟩
  | _ => exact r
theorem RSl.owned (r : RSl K C B H0 H v s) (o : isOwn s = true) : ∃ l, v = .ref l ∧ H l ≠ none ∧ H0 l = none ∧ B l = none := by
  cases s with
  | own ds => obtain ⟨l, xs, e, h, n, m, q⟩ := r; exact ⟨l, e, (by rw [h]; intro z; cases z), n, m⟩
  | od ks ds => obtain ⟨l, xs, e, h, n, m, q⟩ := r; exact ⟨l, e, (by rw [h]; intro z; cases z), n, m⟩
  | _ => cases o
theorem RR.owned (r : RR K C Hs H0 H v s) (o : isOwn s = true) : ∃ l, v = .ref l ∧ H l ≠ none ∧ H0 l = none ∧ Hs l = none := by
  cases s with
  | own ds => obtain ⟨l, xs, e, h, n, m, q⟩ := r; exact ⟨l, e, (by rw [h]; intro z; cases z), n, m⟩
  | od ks ds => obtain ⟨l, xs, e, h, n, m, q⟩ := r; exact ⟨l, e, (by rw [h]; intro z; cases z), n, m⟩
  | _ => cases o
theorem EnvR.step (I : EnvR K C B H0 H σ E) (st : Step H H0 H H0' H') : EnvR K C B H0' H' σ E := by
  refine ⟨I.b.trans st.h, st.i, I.len, fun i s e => ?_, I.sep⟩
  rcases I.at' i s e with z | ⟨v, h1, h2⟩
  · exact .inl z
  · refine .inr ⟨v, h1, ?_⟩
    cases s with
    | no => trivial
    | sh d => exact RD.mono st.z h2
    | bo ds => obtain ⟨l, xs, e, h, q⟩ := h2; exact ⟨l, xs, e, h, q.mono st.z⟩
    | own ds => exact RR.step (Hs := B) (s := .own ds) h2 st
    | bd ks ds => obtain ⟨l, xs, e, h, hk, q⟩ := h2; exact ⟨l, xs, e, h, hk, q.mono st.z⟩
    | od ks ds => exact RR.step (Hs := B) (s := .od ks ds) h2 st
theorem EnvR.sub {E' : List Sl} (I : EnvR K C B H0 H σ E) (hl : E'.length = E.length) (h : ∀ (i : Nat) (s : Sl), E'[i]? = some s → s = .no ∨ E[i]? = some s) : EnvR K C B H0 H σ E' := by
  refine ⟨I.b, I.h, I.len.trans hl.symm, fun i s e => ?_, fun i j s t v hij e1 e2 o1 o2 => ?_⟩
  · rcases h i s e with z | z
    · exact .inl z
    · exact I.at' i s z
  · rcases h i _ e1 with z | z
    · subst z; cases o1
    · rcases h j _ e2 with y | y
      · subst y; cases o2
      · exact I.sep i j s t v hij z y o1 o2
theorem EnvR.put (I : EnvR K C B H0 H σ E) {i : Nat} (hi : i < E.length) {Hs : Hp} (hB : ∀ a, Hs a = none → B a = none) (hf : ∀ (j : Nat) (t : Sl) (l : Addr), E[j]? = some t → isOwn t = true → σ[j]? = some (some (.ref l)) → Hs l ≠ none) (r : RR K C Hs H0 H v s) (hb : isBo s = false) : EnvR K C B H0 H (σ.set i (some v)) (E.set i s) := by
  refine ⟨I.b, I.h, by simp [I.len], fun j t e => ?_, fun j k s1 s2 u hjk e1 e2 o1 o2 e3 e4 => ?_⟩
  · rw [List.getElem?_set] at e
    by_cases hj : i = j
    · subst hj
      rw [if_pos rfl, if_pos hi] at e
      cases e
      refine .inr ⟨v, by rw [List.getElem?_set]; simp [I.len, hi], ?_⟩
      cases s with
      | no => trivial
      | sh d => exact r
      | bo ds => cases hb
      | own ds => obtain ⟨l, xs, e, h, n, m, q⟩ := r; exact ⟨l, xs, e, h, n, hB _ m, q⟩
      | bd ks ds => cases hb
      | od ks ds => obtain ⟨l, xs, e, h, n, m, q⟩ := r; exact ⟨l, xs, e, h, n, hB _ m, q⟩
    · rw [if_neg hj] at e
      rcases I.at' j t e with z | ⟨u, h1, h2⟩
      · exact .inl z
      · exact .inr ⟨u, by rw [List.getElem?_set, if_neg hj]; exact h1, h2⟩
  · rw [List.getElem?_set] at e1 e2 e3 e4
    by_cases hj : i = j
    · subst hj
      rw [if_neg hjk] at e2 e4
      rw [if_pos rfl, if_pos hi] at e1
      rw [if_pos rfl, if_pos (by rw [I.len]; exact hi)] at e3
      cases e3
      cases e1
      obtain ⟨l, e, _, _, m⟩ := r.owned o1
      subst e
      exact hf k _ l e2 o2 e4 m
    · rw [if_neg hj] at e1 e3
      by_cases hk : i = k
      · subst hk
        rw [if_pos rfl, if_pos hi] at e2
        rw [if_pos rfl, if_pos (by rw [I.len]; exact hi)] at e4
        cases e2
        have e4' : v = u := Option.some.inj (Option.some.inj e4)
        subst e4'
        obtain ⟨l, e, _, _, m⟩ := r.owned o2
        subst e
        exact hf j _ l e1 o1 e3 m
      · rw [if_neg hk] at e2 e4
        exact I.sep j k _ _ u hjk e1 e2 o1 o2 e3 e4
theorem EnvR.ownG (I : EnvR K C B H0 H σ E) {j : Nat} {t : Sl} {l : Addr} (e1 : E[j]? = some t) (ho : isOwn t = true) (e2 : σ[j]? = some (some (.ref l))) : H l ≠ none ∧ H0 l = none ∧ B l = none := by
  rcases I.at' j _ e1 with z | ⟨v, h1, h2⟩
  · subst z; cases ho
  · rw [e2] at h1
    cases h1
    obtain ⟨l', e, h⟩ := h2.owned ho
    cases e
    exact h
theorem EnvR.put' {H1 H01 : Hp} (I : EnvR K C B H0 H σ E) (st : Step H H0 H H01 H1) {i : Nat} (hi : i < E.length) (r : RR K C H H01 H1 v s) (hb : isBo s = false) : EnvR K C B H01 H1 (σ.set i (some v)) (E.set i s) :=
  (I.step st).put hi (fun a q => Same.free I.b q) (fun j t l e1 o1 e2 => (I.ownG e1 o1 e2).1) r hb
noncomputable def keepT : Option HO → Option HO
  | some o => if isT o = true then some o else none
  | none => none
noncomputable def frzH (Hs H0 H : Hp) : Hp := fun a => match H0 a with
  | some o => some o
  | none => match Hs a with
    | none => H a
    | some _ => keepT (H a)
theorem keepT_some {o : Option HO} {u : HO} (e : keepT o = some u) : o = some u ∧ isT u = true := by
  cases o with
  | none => cases e
  | some w =>
    unfold keepT at e
    dsimp only at e
    split at e
    · cases e; exact ⟨rfl, by assumption⟩
    · cases e
theorem frz_step (i : Same H0 H) : Step Hs H0 H (frzH Hs H0 H) H := by
  refine ⟨Same.refl _, fun a o e => by unfold frzH; rw [e], fun a o e => ?_, fun a o e => ?_⟩
  · unfold frzH at e
    cases h : H0 a with
    | some u => rw [h] at e; exact .inl e
    | none =>
      rw [h] at e
      cases h2 : Hs a with
      | none => exact .inr (.inl rfl)
      | some u => rw [h2] at e; exact .inr (.inr (keepT_some e).2)
  · unfold frzH at e
    cases h : H0 a with
    | some u => rw [h] at e; cases e; exact i a _ h
    | none =>
      rw [h] at e
      cases h2 : Hs a with
      | none => rw [h2] at e; exact e
      | some u => rw [h2] at e; exact (keepT_some e).1
theorem frz_new {a : Addr} {o : HO} (i : Same H0 H) (n : Hs a = none) (h : H a = some o) : frzH Hs H0 H a = some o := by
  unfold frzH
  cases z : H0 a with
  | some u => rw [i a u z] at h; exact h
  | none => dsimp only; rw [n]; exact h
noncomputable def Sl.frz : Sl → Option D
  | .sh d => some d
  | .own ds => some (.lst ds)
  | .od ks ds => some (.dct ks ds)
  | _ => none
theorem RR.frz {d : D} (i : Same H0 H) (r : RR K C Hs H0 H v s) (e : s.frz = some d) : RD K C (frzH Hs H0 H) v d := by
  have st : Step Hs H0 H (frzH Hs H0 H) H := frz_step i
  cases s with
  | no => cases e
  | sh d' => cases e; exact RD.mono st.z r
  | bo ds => cases e
  | own ds =>
    cases e
    obtain ⟨l, xs, e, h, n, m, q⟩ := r
    subst e
    exact .mkL (frz_new i m h) (q.mono st.z)
  | bd ks ds => cases e
  | od ks ds =>
    cases e
    obtain ⟨l, xs, e, h, n, m, hk, q⟩ := r
    subst e
    exact .mkD (frz_new i m h) hk (q.mono st.z)
end
end LE

namespace LE
open PySem L2 LR

noncomputable abbrev En := List Sl
noncomputable abbrev Ev := En → Option Sl
section
variable (K : PySem.W.Frag) (C : Addr)
noncomputable def SE (te : TE) (ev : Ev) : Prop := ∀ (B H0 H : Hp) (σ : St) (E : En) (r : Sl) (Q : VK), EnvR K C B H0 H σ E → ev E = some r →
  (∀ v H0' H', Step H H0 H H0' H' → RR K C H H0' H' v r → Q v H') → te σ H Q
noncomputable def ST (t : TT) (ev : En → Option Bool) : Prop := ∀ (B H0 H : Hp) (σ : St) (E : En) (r : Bool) (Q : Bool → Hp → Prop), EnvR K C B H0 H σ E → ev E = some r →
  (∀ H0' H', Step H H0 H H0' H' → Q r H') → t σ H Q
inductive RRL (Hs H0 H : Hp) : List V → List Sl → Prop
  | nil : RRL Hs H0 H [] []
  | cons {v : V} {s : Sl} {vs : List V} {ss : List Sl} : RR K C Hs H0 H v s → RRL Hs H0 H vs ss → RRL Hs H0 H (v :: vs) (s :: ss)
noncomputable def SA (t : TA) (ev : En → Option (List Sl)) : Prop := ∀ (B H0 H : Hp) (σ : St) (E : En) (r : List Sl) (Q : List V → Hp → Prop), EnvR K C B H0 H σ E → ev E = some r →
  (∀ vs H0' H', Step H H0 H H0' H' → RRL K C H H0' H' vs r → Q vs H') → t σ H Q
noncomputable def OpS (r : R2) (f : Sl → Sl → Option Sl) : Prop := ∀ (Hs H0 H : Hp) (x y : V) (a b c : Sl) (Q : VK), Same H0 H → Same Hs H → RR K C Hs H0 H x a → RR K C Hs H0 H y b → f a b = some c →
  (∀ v H0' H', Step Hs H0 H H0' H' → RR K C Hs H0' H' v c → Q v H') → r x y H Q
noncomputable def CallS (r : List V → Hp → VK → Prop) (f : List Sl → Option Sl) : Prop := ∀ (Hs H0 H : Hp) (xs : List V) (as : List Sl) (c : Sl) (Q : VK), Same H0 H → Same Hs H → RRL K C Hs H0 H xs as → f as = some c →
  (∀ v H0' H', Step Hs H0 H H0' H' → RR K C Hs H0' H' v c → Q v H') → r xs H Q
end

noncomputable def eVar (i : Nat) : Ev := fun E => match E[i]? with
  | some (.sh d) => some (.sh d)
  | some (.bo ds) => some (.bo ds)
  | some (.own ds) => some (.bo ds)
  | some (.bd ks ds) => some (.bd ks ds)
  | some (.od ks ds) => some (.bd ks ds)
  | _ => none
noncomputable def eC (d : D) : Ev := fun _ => some (.sh d)
noncomputable def e2 (f : Sl → Sl → Option Sl) (a b : Ev) : Ev := fun E => (a E).bind fun x => (b E).bind fun y => f x y
noncomputable def e1 (f : Sl → Option Sl) (a : Ev) : Ev := fun E => (a E).bind f
noncomputable def a0 : En → Option (List Sl) := fun _ => some []
noncomputable def aC (a : Ev) (as : En → Option (List Sl)) : En → Option (List Sl) := fun E => (a E).bind fun x => (as E).bind fun xs => some (x :: xs)
noncomputable def eF (f : List Sl → Option Sl) (as : En → Option (List Sl)) : Ev := fun E => (as E).bind f
noncomputable def bool? : Sl → Option Bool
  | .sh (.bl b) => some b
  | _ => none
noncomputable def eAnd (a b : Ev) : Ev := fun E => ((a E).bind bool?).bind fun k => if k = true then b E else some (.sh (.bl false))
noncomputable def sh? : Sl → Option D
  | .sh d => some d
  | _ => none
noncomputable def tB? (a : Ev) : En → Option Bool := fun E => (a E).bind bool?
noncomputable def tAnd? (a b : En → Option Bool) : En → Option Bool := fun E => (a E).bind fun k => if k = true then b E else some false
noncomputable def tOr? (a b : En → Option Bool) : En → Option Bool := fun E => (a E).bind fun k => if k = true then some true else b E
noncomputable def tNot? (a : En → Option Bool) : En → Option Bool := fun E => (a E).bind fun k => some (!k)

section
variable {K : PySem.W.Frag} {C : Addr}
theorem bind_some {α β : Type} {x : Option α} {f : α → Option β} {b : β} (e : x.bind f = some b) : ∃ a, x = some a ∧ f a = some b := by
  cases x with
  | none => cases e
  | some a => exact ⟨a, rfl, e⟩
theorem bool_some {s : Sl} {b : Bool} (e : bool? s = some b) : s = .sh (.bl b) := by
  cases s with
  | sh d => cases d with
    | bl x => cases e; rfl
    | _ => cases e
  | _ => cases e
variable {ta tb tc te : TE} {ea eb ec : Ev}
theorem s_var (i : Nat) : SE K C (tVar i) (eVar i) := by
  intro B H0 H σ E r Q I e q
  unfold eVar at e
  cases h : E[i]? with
  | none => rw [h] at e; cases e
  | some s =>
    rw [h] at e
    rcases I.at' i s h with z | ⟨v, h1, h2⟩
    · subst z; cases e
    · refine ⟨v, h1, q v H0 H (.refl I.h) ?_⟩
      cases s with
      | no => cases e
      | sh d => cases e; exact h2
      | bo ds => cases e; obtain ⟨l, xs, e, hl, r⟩ := h2; exact ⟨l, xs, e, I.b _ _ hl, r⟩
      | own ds => cases e; obtain ⟨l, xs, e, hl, _, _, r⟩ := h2; exact ⟨l, xs, e, hl, r⟩
      | bd ks ds => cases e; obtain ⟨l, xs, e, hl, r⟩ := h2; exact ⟨l, xs, e, I.b _ _ hl, r⟩
      | od ks ds => cases e; obtain ⟨l, xs, e, hl, _, _, r⟩ := h2; exact ⟨l, xs, e, hl, r⟩
theorem s_non : SE K C (tC .non) (eC .non) := fun _ _ _ _ _ _ _ I e q => by cases e; exact q _ _ _ (.refl I.h) .non
theorem s_bl {b : Bool} : SE K C (tC (.bl b)) (eC (.bl b)) := fun _ _ _ _ _ _ _ I e q => by cases e; exact q _ _ _ (.refl I.h) (.bl b)
theorem s_int {i : Int} : SE K C (tC (.int i)) (eC (.int i)) := fun _ _ _ _ _ _ _ I e q => by cases e; exact q _ _ _ (.refl I.h) (.int i)
theorem s_str {x : Str} : SE K C (tC (.str x)) (eC (.str x)) := fun _ _ _ _ _ _ _ I e q => by cases e; exact q _ _ _ (.refl I.h) (.str x)
theorem s_op {r : R2} {f : Sl → Sl → Option Sl} (ho : OpS K C r f) (ha : SE K C ta ea) (hb : SE K C tb eb) : SE K C (tOp r ta tb) (e2 f ea eb) := by
  intro B H0 H σ E c Q I e q
  obtain ⟨a, e1, e⟩ := bind_some e
  obtain ⟨b, e2, e⟩ := bind_some e
  exact ha B H0 H σ E a _ I e1 fun x H1 H1' s1 r1 => hb B H1 H1' σ E b _ (I.step s1) e2 fun y H2 H2' s2 r2 =>
    ho H H2 H2' x y a b c Q s2.i (s1.h.trans s2.h) (r1.step s2) (r2.weak fun a q => Same.free s1.h q) e fun v H3 H3' s3 r3 => q v H3 H3' ((s1.trans s2).comp s3 fun _ z => z) r3
theorem s_nil : SA K C tNil a0 := fun _ _ _ _ _ _ _ I e q => by cases e; exact q _ _ _ (.refl I.h) .nil
theorem RRL.step {Hs H0 H H0' H' : Hp} {vs : List V} {ss : List Sl} (r : RRL K C Hs H0 H vs ss) (st : Step H H0 H H0' H') : RRL K C Hs H0' H' vs ss := by
  induction r with
  | nil => exact .nil
  | cons h _ ih => exact .cons (h.step st) ih
theorem RRL.weak {Hs Hs' H0 H : Hp} {vs : List V} {ss : List Sl} (r : RRL K C Hs' H0 H vs ss) (w : ∀ a, Hs' a = none → Hs a = none) : RRL K C Hs H0 H vs ss := by
  induction r with
  | nil => exact .nil
  | cons h _ ih => exact .cons (h.weak w) ih
theorem s_cons {tr : TA} {er : En → Option (List Sl)} (ha : SE K C ta ea) (hr : SA K C tr er) : SA K C (tCons ta tr) (aC ea er) := by
  intro B H0 H σ E c Q I e q
  obtain ⟨a, e1, e⟩ := bind_some e
  obtain ⟨b, e2, e⟩ := bind_some e
  cases e
  exact ha B H0 H σ E a _ I e1 fun x H1 H1' s1 r1 => hr B H1 H1' σ E b _ (I.step s1) e2 fun y H2 H2' s2 r2 =>
    q _ H2 H2' (s1.trans s2) (.cons (r1.step s2) (r2.weak fun a q => Same.free s1.h q))
theorem s_CB {r : List V → Hp → VK → Prop} {t : TA} {ev : En → Option (List Sl)} {f : List Sl → Option Sl} (hc : CallS K C r f) (ha : SA K C t ev) : SE K C (tCB r t) (eF f ev) := by
  intro B H0 H σ E c Q I e q
  obtain ⟨a, e1, e⟩ := bind_some e
  exact ha B H0 H σ E a _ I e1 fun x H1 H1' s1 r1 => hc H H1 H1' x a c Q s1.i s1.h r1 e fun v H3 H3' s3 r3 => q v H3 H3' (s1.comp s3 fun _ z => z) r3
theorem s_and (ha : SE K C ta ea) (hb : SE K C tb eb) : SE K C (tAndV ta tb) (eAnd ea eb) := by
  intro B H0 H σ E c Q I e q
  obtain ⟨k, e1, e⟩ := bind_some e
  obtain ⟨a, e0, e1⟩ := bind_some e1
  refine ha B H0 H σ E a _ I e0 fun x H1 H1' s1 r1 => ?_
  rw [bool_some e1] at r1
  refine ⟨k, RD.blI r1, ?_⟩
  cases k with
  | true => exact hb B H1 H1' σ E c Q (I.step s1) e fun y H2 H2' s2 r2 => q y H2 H2' (s1.trans s2) (r2.weak fun a q => Same.free s1.h q)
  | false => cases e; exact q _ _ _ s1 (RD.bl false)
theorem sh_some {s : Sl} {d : D} (e : sh? s = some d) : s = .sh d := by
  cases s with
  | sh d' => cases e; rfl
  | _ => cases e
theorem s_test (ha : SE K C te ea) : ST K C (tTest te) (tB? ea) := by
  intro B H0 H σ E k Q I e q
  obtain ⟨a, e1, e⟩ := bind_some e
  refine ha B H0 H σ E a _ I e1 fun x H1 H1' s1 r1 => ?_
  rw [bool_some e] at r1
  exact ⟨k, RD.blI r1, q _ _ s1⟩
theorem s_tAnd {c d : TT} {ev ew : En → Option Bool} (hc : ST K C c ev) (hd : ST K C d ew) : ST K C (tAnd c d) (tAnd? ev ew) := by
  intro B H0 H σ E k Q I e q
  obtain ⟨a, e1, e⟩ := bind_some e
  refine hc B H0 H σ E a _ I e1 fun H1 H1' s1 => ?_
  cases a with
  | true => exact hd B H1 H1' σ E k Q (I.step s1) e fun H2 H2' s2 => q H2 H2' (s1.trans s2)
  | false => cases e; exact q _ _ s1
theorem s_tOr {c d : TT} {ev ew : En → Option Bool} (hc : ST K C c ev) (hd : ST K C d ew) : ST K C (tOr c d) (tOr? ev ew) := by
  intro B H0 H σ E k Q I e q
  obtain ⟨a, e1, e⟩ := bind_some e
  refine hc B H0 H σ E a _ I e1 fun H1 H1' s1 => ?_
  cases a with
  | false => exact hd B H1 H1' σ E k Q (I.step s1) e fun H2 H2' s2 => q H2 H2' (s1.trans s2)
  | true => cases e; exact q _ _ s1
theorem s_tNot {c : TT} {ev : En → Option Bool} (hc : ST K C c ev) : ST K C (tNot c) (tNot? ev) := by
  intro B H0 H σ E k Q I e q
  obtain ⟨a, e1, e⟩ := bind_some e
  cases e
  exact hc B H0 H σ E a _ I e1 fun H1 H1' s1 => q _ _ s1
end

noncomputable def Sl.m : Sl → Option (List D)
  | .sh (.lst ds) => some ds
  | .bo ds => some ds
  | .own ds => some ds
  | _ => none
noncomputable def Sl.r : Sl → Option (List D)
  | .sh (.lst ds) => some ds
  | .sh (.fz ds) => some ds
  | .bo ds => some ds
  | .own ds => some ds
  | _ => none
noncomputable def Sl.q : Sl → Option (List D)
  | .sh (.lst ds) => some ds
  | .sh (.fz ds) => some ds
  | .sh (.tup ds) => some ds
  | .bo ds => some ds
  | .own ds => some ds
  | _ => none
noncomputable def Sl.d : Sl → Option D
  | .sh d => some d
  | .bo ds => some (.lst ds)
  | .own ds => some (.lst ds)
  | .bd ks ds => some (.dct ks ds)
  | .od ks ds => some (.dct ks ds)
  | .no => none
section
variable {K : PySem.W.Frag} {C : Addr} {Hs H0 H : Hp} {v : V} {s : Sl} {ds : List D} {d : D}
theorem RR.m (r : RR K C Hs H0 H v s) (i : Same H0 H) (e : s.m = some ds) : ∃ l xs, v = .ref l ∧ H l = some (.lst xs) ∧ RDL K C H0 xs ds := by
  cases s with
  | no => cases e
  | bo es => cases e; exact r
  | own es => cases e; obtain ⟨l, xs, h1, h2, _, _, h3⟩ := r; exact ⟨l, xs, h1, h2, h3⟩
  | bd _ _ => cases e
  | od _ _ => cases e
  | sh d => cases d with
    | lst es => cases e; obtain ⟨l, xs, h1, h2, h3⟩ := RD.lstI r; exact ⟨l, xs, h1, i _ _ h2, h3⟩
    | _ => cases e
theorem RR.r (r : RR K C Hs H0 H v s) (i : Same H0 H) (e : s.r = some ds) : ∃ l xs, v = .ref l ∧ SqL K H l xs ∧ RDL K C H0 xs ds := by
  cases s with
  | no => cases e
  | bo es => cases e; obtain ⟨l, xs, h1, h2, h3⟩ := r; exact ⟨l, xs, h1, .of h2, h3⟩
  | own es => cases e; obtain ⟨l, xs, h1, h2, _, _, h3⟩ := r; exact ⟨l, xs, h1, .of h2, h3⟩
  | bd _ _ => cases e
  | od _ _ => cases e
  | sh d => cases d with
    | lst es => cases e; obtain ⟨l, xs, h1, h2, h3⟩ := RD.lstI r; exact ⟨l, xs, h1, .of (i _ _ h2), h3⟩
    | fz es => cases e; obtain ⟨l, xs, h1, h2, h3⟩ := RD.fzI r; exact ⟨l, xs, h1, i.seq h2, h3⟩
    | _ => cases e
theorem RR.q (r : RR K C Hs H0 H v s) (i : Same H0 H) (e : s.q = some ds) : ∃ l xs, v = .ref l ∧ (SqL K H l xs ∨ SqT K H l xs) ∧ RDL K C H0 xs ds := by
  cases s with
  | no => cases e
  | bo es => cases e; obtain ⟨l, xs, h1, h2, h3⟩ := r; exact ⟨l, xs, h1, .inl (.of h2), h3⟩
  | own es => cases e; obtain ⟨l, xs, h1, h2, _, _, h3⟩ := r; exact ⟨l, xs, h1, .inl (.of h2), h3⟩
  | bd _ _ => cases e
  | od _ _ => cases e
  | sh d => cases d with
    | lst es => cases e; obtain ⟨l, xs, h1, h2, h3⟩ := RD.lstI r; exact ⟨l, xs, h1, .inl (.of (i _ _ h2)), h3⟩
    | fz es => cases e; obtain ⟨l, xs, h1, h2, h3⟩ := RD.fzI r; exact ⟨l, xs, h1, .inl (i.seq h2), h3⟩
    | tup es => cases e; obtain ⟨l, xs, h1, h2, h3⟩ := RD.tupI r; exact ⟨l, xs, h1, .inr (i.seqT h2), h3⟩
    | _ => cases e
theorem RR.dat (r : RR K C Hs H0 H v s) (i : Same H0 H) (e : s.d = some d) : RD K C H v d := by
  cases s with
  | no => cases e
  | bo es => cases e; obtain ⟨l, xs, h1, h2, h3⟩ := r; subst h1; exact .mkL h2 (h3.mono i)
  | own es => cases e; obtain ⟨l, xs, h1, h2, _, _, h3⟩ := r; subst h1; exact .mkL h2 (h3.mono i)
  | bd _ _ => cases e; obtain ⟨l, xs, h1, h2, hk, h3⟩ := r; subst h1; exact .mkD h2 hk (h3.mono i)
  | od _ _ => cases e; obtain ⟨l, xs, h1, h2, _, _, hk, h3⟩ := r; subst h1; exact .mkD h2 hk (h3.mono i)
  | sh d' => cases e; exact RD.mono i r
theorem own_new {p : Addr} {xs : List V} {Q : VK} (i : Same H0 H) (hs : Same Hs H) (hp : H p = none) (r : RDL K C H0 xs ds) (q : ∀ v H0' H', Step Hs H0 H H0' H' → RR K C Hs H0' H' v (.own ds) → Q v H') : Q (.ref p) (upd H p (.lst xs)) :=
  q _ H0 _ ⟨.new hp, Same.refl _, fun _ _ e => .inl e, i.trans (.new hp)⟩ ⟨p, xs, rfl, upd_same, Same.free i hp, Same.free hs hp, r⟩
theorem tup_new {p : Addr} {xs : List V} {Q : VK} (i : Same H0 H) (hs : Same Hs H) (hp : H p = none) (r : RDL K C H0 xs ds) (q : ∀ v H0' H', Step Hs H0 H H0' H' → RR K C Hs H0' H' v (.sh (.tup ds)) → Q v H') : Q (.ref p) (upd H p (.tup xs)) := by
  have h0 : H0 p = none := Same.free i hp
  refine q _ (upd H0 p (.tup xs)) _ ⟨.new hp, .new h0, fun a o e => ?_, fun a o e => ?_⟩ ?_
  · by_cases h : a = p
    · subst h; exact .inr (.inl (Same.free hs hp))
    · rw [upd_ne h] at e; exact .inl e
  · by_cases h : a = p
    · subst h; rw [upd_same] at e ⊢; exact e
    · rw [upd_ne h] at e ⊢; exact i a o e
  · exact RD.mkT (.of upd_same) (r.mono (.new h0))
end

noncomputable def fI (g : Int → Int → D) : Sl → Sl → Option Sl
  | .sh (.int a), .sh (.int b) => some (.sh (g a b))
  | _, _ => none
noncomputable def fIc (c : Int → Int → Bool) (g : Int → Int → D) : Sl → Sl → Option Sl
  | .sh (.int a), .sh (.int b) => if c a b = true then some (.sh (g a b)) else none
  | _, _ => none
noncomputable def fCat (x y : Sl) : Option Sl := x.m.bind fun a => y.m.bind fun b => if a.length + b.length ≤ sizeLine then some (.own (a ++ b)) else none
noncomputable def fAdd : Sl → Sl → Option Sl
  | .sh (.int a), .sh (.int b) => some (.sh (.int (a + b)))
  | .sh (.str a), .sh (.str b) => if a.length + b.length ≤ sizeLine then some (.sh (.str (a ++ b))) else none
  | .sh (.tup a), .sh (.tup b) => if a.isEmpty = false ∧ b.isEmpty = false ∧ a.length + b.length ≤ sizeLine then some (.sh (.tup (a ++ b))) else none
  | .sh (.lst a), y => fCat (.sh (.lst a)) y
  | .bo a, y => fCat (.bo a) y
  | .own a, y => fCat (.own a) y
  | _, _ => none
noncomputable abbrev fSub := fI fun a b => .int (a - b)
noncomputable abbrev fLt := fI fun a b => .bl (decide (a < b))
noncomputable abbrev fLe := fI fun a b => .bl (decide (a ≤ b))
noncomputable abbrev fGt := fI fun a b => .bl (decide (b < a))
noncomputable abbrev fGe := fI fun a b => .bl (decide (b ≤ a))
noncomputable def small64 (a : Int) : Bool := Nat.ble a.natAbs 18446744073709551615
theorem small64_ok {a : Int} : small64 a = true ↔ -18446744073709551616 < a ∧ a < 18446744073709551616 := by
  unfold small64
  rw [Nat.ble_eq]
  omega
noncomputable def smallP (a : Int) : Bool := Nat.ble a.natAbs 1073741823 && decide (0 < a)
theorem smallP_ok {a : Int} : smallP a = true ↔ 0 < a ∧ a < 1073741824 := by
  unfold smallP
  rw [Bool.and_eq_true, Nat.ble_eq, decide_eq_true_eq]
  omega
noncomputable abbrev fMul := fIc (fun a b => small64 a || small64 b) fun a b => .int (a * b)
noncomputable abbrev fMod := fIc (fun _ b => decide (0 < b)) fun a b => .int (a % b)
noncomputable abbrev fDiv := fIc (fun _ b => smallP b) fun a b => .int (a / b)
noncomputable abbrev fPow := fIc (fun a b => decide (0 ≤ b) && Nat.ble b.natAbs 1000000 && small64 a) fun a b => .int (a ^ b.toNat)
noncomputable def eqD (d e : D) : Option Bool := if (d.py.canLay0 && e.py.canLay0 && decide (min d.py.depth e.py.depth ≤ 60)) = true then some (PyData.eqv d.py e.py) else none
noncomputable def eqA : D → D → Option Bool
  | .int a, .int b => some (decide (a = b))
  | .str a, .str b => some (decide (a = b))
  | .bl a, .bl b => some (decide (a = b))
  | .non, .non => some true
  | .non, .int _ => some false
  | .int _, .non => some false
  | .non, .str _ => some false
  | .str _, .non => some false
  | .non, .bl _ => some false
  | .bl _, .non => some false
  | .int _, .str _ => some false
  | .str _, .int _ => some false
  | d, e => eqD d e
noncomputable def fEq (x y : Sl) : Option Sl := x.d.bind fun d => y.d.bind fun e => (eqA d e).map fun k => .sh (.bl k)
noncomputable def fNe (x y : Sl) : Option Sl := x.d.bind fun d => y.d.bind fun e => (eqA d e).map fun k => .sh (.bl (!k))
noncomputable def D.isNon : D → Bool
  | .non => true
  | _ => false
noncomputable def fIx : Sl → Sl → Option Sl
  | .sh (.str z), .sh (.int i) => if z.length ≤ sizeLine then (atI z.cps.toList i).map fun c => .sh (.str ⟨#[c]⟩) else none
  | x, .sh (.int i) => x.q.bind fun ds => (atI ds i).map .sh
  | _, _ => none
section
variable {K : PySem.W.Frag} {C : Addr}
theorem o_I {g : Int → Int → V} {g' : Int → Int → D} (h : ∀ i j H, RD K C H (g i j) (g' i j)) : OpS K C (rI0 g) (fI g') := by
  intro Hs H0 H x y a b c Q i hs ra rb e q
  unfold fI at e
  split at e
  · cases e; exact ⟨_, _, RD.intI ra, RD.intI rb, q _ _ _ (.refl i) (h _ _ _)⟩
  · cases e
theorem o_Ic {P : Int → Int → Prop} {c' : Int → Int → Bool} {g : Int → Int → V} {g' : Int → Int → D} (hp : ∀ i j, c' i j = true → P i j) (h : ∀ i j H, RD K C H (g i j) (g' i j)) : OpS K C (rI P g) (fIc c' g') := by
  intro Hs H0 H x y a b c Q i hs ra rb e q
  unfold fIc at e
  split at e
  · split at e
    · cases e; exact ⟨_, _, RD.intI ra, RD.intI rb, hp _ _ (by assumption), q _ _ _ (.refl i) (h _ _ _)⟩
    · cases e
  · cases e
theorem o_sub : OpS K C (rI0 fun i j => .int (i - j)) fSub := o_I fun _ _ _ => .int _
theorem o_lt : OpS K C (rI0 fun i j => .bl (decide (i < j))) fLt := o_I fun _ _ _ => .bl _
theorem o_le : OpS K C (rI0 fun i j => .bl (decide (i ≤ j))) fLe := o_I fun _ _ _ => .bl _
theorem o_gt : OpS K C (rI0 fun i j => .bl (decide (j < i))) fGt := o_I fun _ _ _ => .bl _
theorem o_ge : OpS K C (rI0 fun i j => .bl (decide (j ≤ i))) fGe := o_I fun _ _ _ => .bl _
theorem o_mul : OpS K C (rI CMul fun i j => .int (i * j)) fMul := o_Ic (fun i j h => by
  simp only [Bool.or_eq_true, small64_ok] at h
  exact h) fun _ _ _ => .int _
theorem o_mod : OpS K C (rI (fun _ j => 0 < j) fun i j => .int (i % j)) fMod := o_Ic (fun i j h => by simpa using h) fun _ _ _ => .int _
theorem o_div : OpS K C (rI CDiv fun i j => .int (i / j)) fDiv := o_Ic (fun i j h => smallP_ok.mp h) fun _ _ _ => .int _
theorem o_pow : OpS K C (rI CPow fun i j => .int (i ^ j.toNat)) fPow := o_Ic (fun i j h => by
  simp only [Bool.and_eq_true, decide_eq_true_eq, Nat.ble_eq, small64_ok] at h
  refine ⟨h.1.1, by omega, ?_⟩
  show i.natAbs < 18446744073709551616
  omega) fun _ _ _ => .int _
noncomputable def rAddB (K : PySem.W.Frag) : R2 := fun x y H Q => rAddA K x y H Q ∨ rCatT K x y H Q
theorem op_addB {X : Cx} (hK : X.K = K) : OpR X (binaryOp .Add) (rAddB K) := (op_addK hK).or (hK ▸ op_catT)
theorem o_add : OpS K C (rAddB K) fAdd := by
  intro Hs H0 H x y a b c Q i hs ra rb e q
  have cat : ∀ {a b : Sl}, RR K C Hs H0 H x a → RR K C Hs H0 H y b → fCat a b = some c → rAddB K x y H Q := by
    intro a b ra rb e
    obtain ⟨xs, e1, e⟩ := bind_some e
    obtain ⟨ys, e2, e⟩ := bind_some e
    split at e
    · next hz =>
      cases e
      obtain ⟨l, us, rfl, h1, r1⟩ := ra.m i e1
      obtain ⟨l', ws, rfl, h2, r2⟩ := rb.m i e2
      exact .inl (.inr (.inr ⟨l, l', us, ws, rfl, rfl, h1, h2, by rw [r1.1, r2.1]; exact hz, fun p hp => own_new i hs hp (r1.append r2) q⟩))
    · cases e
  unfold fAdd at e
  split at e
  · cases e; exact .inl (.inl ⟨_, _, RD.intI ra, RD.intI rb, q _ _ _ (.refl i) (RD.int _)⟩)
  · split at e
    · cases e; exact .inl (.inr (.inl ⟨_, _, RD.strI ra, RD.strI rb, by assumption, q _ _ _ (.refl i) (RD.str _)⟩))
    · cases e
  · split at e
    · next hz =>
      cases e
      obtain ⟨l, us, rfl, h1, r1⟩ := RD.tupI ra
      obtain ⟨l', ws, rfl, h2, r2⟩ := RD.tupI rb
      have n1 : us ≠ [] := by rintro rfl; have := r1.1; have z := hz.1; simp at this; rw [List.eq_nil_of_length_eq_zero this.symm] at z; cases z
      have n2 : ws ≠ [] := by rintro rfl; have := r2.1; have z := hz.2.1; simp at this; rw [List.eq_nil_of_length_eq_zero this.symm] at z; cases z
      exact .inr ⟨l, l', us, ws, rfl, rfl, i.seqT h1, i.seqT h2, n1, by rw [r1.1, r2.1]; exact hz.2.2, fun z => absurd z n2, fun _ p hp => tup_new i hs hp (r1.append r2) q⟩
    · cases e
  · exact cat ra rb e
  · exact cat ra rb e
  · exact cat ra rb e
  · cases e
theorem eqD_some {d e : D} {k : Bool} (h : eqD d e = some k) : d.py.canLay0 = true ∧ e.py.canLay0 = true ∧ min d.py.depth e.py.depth ≤ 60 ∧ k = PyData.eqv d.py e.py := by
  unfold eqD at h
  split at h
  · next z =>
    cases h
    simp only [Bool.and_eq_true, decide_eq_true_eq] at z
    exact ⟨z.1.1, z.1.2, z.2, rfl⟩
  · cases h
theorem map_some {α β : Type} {x : Option α} {f : α → β} {b : β} (e : x.map f = some b) : ∃ a, x = some a ∧ f a = b := by
  cases x with
  | none => cases e
  | some a => cases e; exact ⟨a, rfl, rfl⟩
theorem eqA_some {H : Hp} {x y : V} {d e : D} {k : Bool} (h : eqA d e = some k) (rx : RD K C H x d) (ry : RD K C H y e) : (scal x y = true ∧ decide (x = y) = k) ∨ eqD d e = some k := by
  unfold eqA at h
  split at h
  · cases h; rw [RD.intI rx, RD.intI ry]; exact .inl ⟨rfl, by simp⟩
  · cases h; rw [RD.strI rx, RD.strI ry]; exact .inl ⟨rfl, by simp⟩
  · cases h; rw [RD.blI rx, RD.blI ry]; exact .inl ⟨rfl, by simp⟩
  · cases h; rw [RD.nonI rx, RD.nonI ry]; exact .inl ⟨rfl, by simp⟩
  · cases h; rw [RD.nonI rx, RD.intI ry]; exact .inl ⟨rfl, by simp⟩
  · cases h; rw [RD.intI rx, RD.nonI ry]; exact .inl ⟨rfl, by simp⟩
  · cases h; rw [RD.nonI rx, RD.strI ry]; exact .inl ⟨rfl, by simp⟩
  · cases h; rw [RD.strI rx, RD.nonI ry]; exact .inl ⟨rfl, by simp⟩
  · cases h; rw [RD.nonI rx, RD.blI ry]; exact .inl ⟨rfl, by simp⟩
  · cases h; rw [RD.blI rx, RD.nonI ry]; exact .inl ⟨rfl, by simp⟩
  · cases h; rw [RD.intI rx, RD.strI ry]; exact .inl ⟨rfl, by simp⟩
  · cases h; rw [RD.strI rx, RD.intI ry]; exact .inl ⟨rfl, by simp⟩
  · exact .inr h
theorem o_eq : OpS K C (rEqA K) fEq := by
  intro Hs H0 H x y a b c Q i hs ra rb e q
  obtain ⟨d, e1, e⟩ := bind_some e
  obtain ⟨d', e2, e⟩ := bind_some e
  obtain ⟨k, e3, rfl⟩ := map_some e
  have r1 := ra.dat i e1
  have r2 := rb.dat i e2
  rcases eqA_some e3 r1 r2 with ⟨h1, h2⟩ | h
  · exact .inl ⟨h1, by rw [h2]; exact q _ _ _ (.refl i) (RD.bl _)⟩
  · obtain ⟨h1, h2, h3, rfl⟩ := eqD_some h
    exact .inr ⟨_, _, r1.rep h1, r2.rep h2, h1, h2, h3, q _ _ _ (.refl i) (RD.bl _)⟩
theorem o_ne : OpS K C (rNeA K) fNe := by
  intro Hs H0 H x y a b c Q i hs ra rb e q
  obtain ⟨d, e1, e⟩ := bind_some e
  obtain ⟨d', e2, e⟩ := bind_some e
  obtain ⟨k, e3, rfl⟩ := map_some e
  have r1 := ra.dat i e1
  have r2 := rb.dat i e2
  rcases eqA_some e3 r1 r2 with ⟨h1, h2⟩ | h
  · exact .inl ⟨h1, by rw [h2]; exact q _ _ _ (.refl i) (RD.bl _)⟩
  · obtain ⟨h1, h2, h3, rfl⟩ := eqD_some h
    exact .inr ⟨_, _, r1.rep h1, r2.rep h2, h1, h2, h3, q _ _ _ (.refl i) (RD.bl _)⟩
theorem RDL.atI {H : Hp} {xs : List V} {ds : List D} {i : Int} {d : D} (r : RDL K C H xs ds) (e : L2.atI ds i = some d) : ∃ x, L2.atI xs i = some x ∧ RD K C H x d := by
  unfold L2.atI at e ⊢
  rw [r.1]
  obtain ⟨j, e1, e⟩ := bind_some e
  obtain ⟨x, e2, r2⟩ := r.get e
  exact ⟨x, by rw [e1]; exact e2, r2⟩
theorem o_ix : OpS K C (rIx K) fIx := by
  intro Hs H0 H x y a b c Q i hs ra rb e q
  unfold fIx at e
  split at e
  · split at e
    · obtain ⟨z, e1, rfl⟩ := map_some e
      rw [RD.strI ra, RD.intI rb]
      exact rd_ixS (by assumption) e1 (q _ _ _ (.refl i) (RD.str _))
    · cases e
  · obtain ⟨ds, e1, e⟩ := bind_some e
    obtain ⟨d, e2, rfl⟩ := map_some e
    obtain ⟨l, xs, rfl, h, r⟩ := ra.q i e1
    obtain ⟨v, e3, r3⟩ := r.atI e2
    rw [RD.intI rb]
    rcases h with h | h
    · exact rd_ixL h e3 (q _ _ _ (.refl i) r3)
    · exact rd_ixT h e3 (q _ _ _ (.refl i) r3)
  · cases e
end
end LE

namespace LE
open PySem L2 LR

noncomputable def frzAll : List Sl → Option (List D)
  | [] => some []
  | s :: ss => s.frz.bind fun d => (frzAll ss).bind fun ds => some (d :: ds)
noncomputable def eTup (as : En → Option (List Sl)) : Ev := fun E => (as E).bind fun ss => (frzAll ss).bind fun ds => if ds.length ≤ 100 then some (.sh (.tup ds)) else none
noncomputable def eLst (as : En → Option (List Sl)) : Ev := fun E => (as E).bind fun ss => (frzAll ss).bind fun ds => if ds.length ≤ 100 then some (.own ds) else none
section
variable {K : PySem.W.Frag} {C : Addr} {t : TA} {ev : En → Option (List Sl)} {Hs H0 H : Hp} {ta te : TE} {ea : Ev}
theorem RRL.frz {vs : List V} {ss : List Sl} (i : Same H0 H) (r : RRL K C Hs H0 H vs ss) : ∀ {ds : List D}, frzAll ss = some ds → RDL K C (frzH Hs H0 H) vs ds := by
  induction r with
  | nil => intro ds e; cases e; exact .nil
  | cons h _ ih =>
    intro ds e
    obtain ⟨d, e1, e⟩ := bind_some e
    obtain ⟨ds', e2, e⟩ := bind_some e
    cases e
    exact .cons (h.frz i e1) (ih e2)
theorem s_tup (ha : SA K C t ev) : SE K C (tTup t) (eTup ev) := by
  intro B H0 H σ E c Q I e q
  obtain ⟨ss, e1, e⟩ := bind_some e
  obtain ⟨ds, e2, e⟩ := bind_some e
  split at e
  · next hl =>
    cases e
    refine ha B H0 H σ E ss _ I e1 fun vs H1 H1' s1 r1 => ?_
    have f := frz_step (Hs := H) s1.i
    have r2 := r1.frz s1.i e2
    exact ⟨by rw [r2.1]; exact Nat.le_trans hl (by decide), fun p hp => tup_new f.i s1.h hp r2 fun v H2 H2' s2 r2 => q v H2 H2' ((s1.comp f fun _ z => z).comp s2 fun _ z => z) r2⟩
  · cases e
theorem s_lst (ha : SA K C t ev) : SE K C (tLst t) (eLst ev) := by
  intro B H0 H σ E c Q I e q
  obtain ⟨ss, e1, e⟩ := bind_some e
  obtain ⟨ds, e2, e⟩ := bind_some e
  split at e
  · next hl =>
    cases e
    refine ha B H0 H σ E ss _ I e1 fun vs H1 H1' s1 r1 => ?_
    have f := frz_step (Hs := H) s1.i
    have r2 := r1.frz s1.i e2
    exact ⟨by rw [r2.1]; exact Nat.le_trans hl (by decide), fun p hp => own_new f.i s1.h hp r2 fun v H2 H2' s2 r2 => q v H2 H2' ((s1.comp f fun _ z => z).comp s2 fun _ z => z) r2⟩
  · cases e

noncomputable def Sl.pass : Sl → Option Sl
  | .sh d => some (.sh d)
  | .own ds => some (.sh (.lst ds))
  | .bo ds => some (.bo ds)
  | .bd ks ds => some (.bd ks ds)
  | .od ks ds => some (.sh (.dct ks ds))
  | .no => none
end
noncomputable def passAll : List Sl → Option (List Sl)
  | [] => some []
  | s :: ss => s.pass.bind fun d => (passAll ss).bind fun ds => some (d :: ds)
noncomputable def spE (K : PySem.W.Frag) (C : Addr) (n : Nat) (f : List Sl → Option Sl) : Sp := fun vs H Q _ => ∃ H0 as r, Same H0 H ∧ RRL K C H H0 H vs as ∧ as.all (fun s => !isOwn s) = true ∧ as.length = n ∧ f as = some r ∧
  ∀ v H0' H', Step H H0 H H0' H' → RR K C H H0' H' v r → Q v H'
noncomputable def eU (n : Nat) (f : List Sl → Option Sl) (as : En → Option (List Sl)) : Ev := fun E => (as E).bind fun ss => (passAll ss).bind fun bs => if bs.length = n then f bs else none
section
variable {K : PySem.W.Frag} {C : Addr} {t : TA} {ev : En → Option (List Sl)} {Hs H0 H : Hp} {ta te : TE} {ea : Ev}
theorem RRL.len {vs : List V} {ss : List Sl} (r : RRL K C Hs H0 H vs ss) : vs.length = ss.length := by
  induction r with
  | nil => rfl
  | cons _ _ ih => simp [ih]
theorem spE_len {n : Nat} {f : List Sl → Option Sl} {vs : List V} {Q : VK} {E : XK} (h : spE K C n f vs H Q E) : vs.length = n := by
  obtain ⟨H0, as, r, _, h1, _, h2, _⟩ := h
  rw [h1.len]; exact h2
theorem RR.pass {v : V} {s s' : Sl} (i : Same H0 H) (r : RR K C Hs H0 H v s) (e : s.pass = some s') : RR K C H (frzH Hs H0 H) H v s' ∧ isOwn s' = false := by
  have st : Step Hs H0 H (frzH Hs H0 H) H := frz_step i
  cases s with
  | no => cases e
  | sh d => cases e; exact ⟨RD.mono st.z r, rfl⟩
  | own ds => cases e; exact ⟨RR.frz (s := .own ds) i r rfl, rfl⟩
  | bo ds => cases e; obtain ⟨l, xs, h1, h2, h3⟩ := r; exact ⟨⟨l, xs, h1, h2, h3.mono st.z⟩, rfl⟩
  | od ks ds => cases e; exact ⟨RR.frz (s := .od ks ds) i r rfl, rfl⟩
  | bd ks ds => cases e; obtain ⟨l, xs, h1, h2, hk, h3⟩ := r; exact ⟨⟨l, xs, h1, h2, hk, h3.mono st.z⟩, rfl⟩
theorem RRL.pass {vs : List V} {ss : List Sl} (i : Same H0 H) (r : RRL K C Hs H0 H vs ss) : ∀ {bs : List Sl}, passAll ss = some bs → RRL K C H (frzH Hs H0 H) H vs bs ∧ bs.all (fun s => !isOwn s) = true := by
  induction r with
  | nil => intro bs e; cases e; exact ⟨.nil, rfl⟩
  | cons h _ ih =>
    intro bs e
    obtain ⟨d, e1, e⟩ := bind_some e
    obtain ⟨ds', e2, e⟩ := bind_some e
    cases e
    obtain ⟨h1, h2⟩ := h.pass i e1
    obtain ⟨h3, h4⟩ := ih e2
    exact ⟨.cons h1 h3, by rw [List.all_cons, h2, h4]; rfl⟩
theorem s_call {n : Nat} {f : List Sl → Option Sl} {X : XK} (ha : SA K C t ev) : SE K C (tCall (spE K C n f) [] X t) (eU n f ev) := by
  intro B H0 H σ E c Q I e q
  obtain ⟨ss, e1, e⟩ := bind_some e
  obtain ⟨bs, e2, e⟩ := bind_some e
  split at e
  · next hl =>
    refine rd_call (ha B H0 H σ E ss _ I e1 fun vs H1 H1' s1 r1 => ?_)
    obtain ⟨h1, h2⟩ := r1.pass s1.i e2
    have f := frz_step (Hs := H) s1.i
    exact ⟨_, bs, c, f.i, h1, h2, hl, e, fun v H2 H2' s2 r2 => q v H2 H2' ((s1.comp f fun _ z => z).comp s2 fun a z => Same.free s1.h z) (r2.weak fun a z => Same.free s1.h z)⟩
  · cases e

noncomputable def prE (p : Pr) : D := .tup [.int p.1, .int p.2]
end
section
variable {K : PySem.W.Frag} {C : Addr} {t : TA} {ev : En → Option (List Sl)} {Hs H0 H : Hp} {ta te : TE} {ea : Ev}
noncomputable def ints? : List D → Option (List Int)
  | [] => some []
  | .int i :: ds => (ints? ds).map (i :: ·)
  | _ :: _ => none
noncomputable def bls? : List D → Option (List Bool)
  | [] => some []
  | .bl i :: ds => (bls? ds).map (i :: ·)
  | _ :: _ => none
end
theorem ints_map : ∀ ns : List Int, ints? (ns.map .int) = some ns
  | [] => rfl
  | n :: ns => by rw [List.map_cons, ints?, ints_map ns]; rfl
theorem ints_some : ∀ {ds : List D} {ns : List Int}, ints? ds = some ns → ds = ns.map .int
  | [], _, e => by cases e; rfl
  | .int i :: ds, _, e => by
    obtain ⟨ns, e1, e2⟩ := map_some (show (ints? ds).map (i :: ·) = _ from e)
    rw [← e2, ints_some e1]; rfl
  | .non :: _, _, e | .bl _ :: _, _, e | .str _ :: _, _, e | .tup _ :: _, _, e | .lst _ :: _, _, e | .fz _ :: _, _, e | .row _ :: _, _, e => by cases e
theorem bls_some : ∀ {ds : List D} {ns : List Bool}, bls? ds = some ns → ds = ns.map .bl
  | [], _, e => by cases e; rfl
  | .bl i :: ds, _, e => by
    obtain ⟨ns, e1, e2⟩ := map_some (show (bls? ds).map (i :: ·) = _ from e)
    rw [← e2, bls_some e1]; rfl
  | .non :: _, _, e | .int _ :: _, _, e | .str _ :: _, _, e | .tup _ :: _, _, e | .lst _ :: _, _, e | .fz _ :: _, _, e | .row _ :: _, _, e => by cases e
noncomputable def fLen : List Sl → Option Sl
  | [.sh (.str x)] => if x.length ≤ sizeLine then some (.sh (.int x.length)) else none
  | [s] => s.q.map fun ds => .sh (.int ds.length)
  | _ => none
noncomputable def fList : List Sl → Option Sl
  | [s] => s.q.map fun ds => .own ds
  | _ => none
noncomputable def fSum : List Sl → Option Sl
  | [s] => s.q.bind fun ds => (ints? ds).map fun ns => .sh (.int ns.sum)
  | _ => none
noncomputable def fMin : List Sl → Option Sl
  | [.sh (.int a), .sh (.int b)] => some (.sh (.int (min a b)))
  | _ => none
section
variable {K : PySem.W.Frag} {C : Addr} {Hs H0 H : Hp}
theorem RRL.one {vs : List V} {s : Sl} (r : RRL K C Hs H0 H vs [s]) : ∃ v, vs = [v] ∧ RR K C Hs H0 H v s := by
  cases r with
  | cons h t => cases t; exact ⟨_, rfl, h⟩
theorem RRL.two {vs : List V} {s t : Sl} (r : RRL K C Hs H0 H vs [s, t]) : ∃ v w, vs = [v, w] ∧ RR K C Hs H0 H v s ∧ RR K C Hs H0 H w t := by
  cases r with
  | cons h r => cases r with
    | cons h' r => cases r; exact ⟨_, _, rfl, h, h'⟩
theorem c_len : CallS K C (rLen K) fLen := by
  intro Hs H0 H xs as c Q i hs r e q
  unfold fLen at e
  split at e
  · split at e
    · cases e
      obtain ⟨v, rfl, r0⟩ := r.one
      rw [RD.strI r0]
      exact rd_lenS (by assumption) (q _ _ _ (.refl i) (RD.int _))
    · cases e
  · obtain ⟨v, rfl, r0⟩ := r.one
    obtain ⟨ds, e1, rfl⟩ := map_some e
    obtain ⟨l, xs, rfl, h, r1⟩ := r0.q i e1
    have z := q (.int ds.length) _ _ (.refl i) (RD.int _)
    rw [← r1.1] at z
    exact rd_lenSq h z
  · cases e
theorem c_list : CallS K C (rListOf K) fList := by
  intro Hs H0 H xs as c Q i hs r e q
  unfold fList at e
  split at e
  · obtain ⟨v, rfl, r0⟩ := r.one
    obtain ⟨ds, e1, rfl⟩ := map_some e
    obtain ⟨l, ys, rfl, h, r1⟩ := r0.q i e1
    exact ⟨l, ys, rfl, h, fun p hp => own_new i hs hp r1 q⟩
  · cases e
theorem c_sum : CallS K C (rSum K) fSum := by
  intro Hs H0 H xs as c Q i hs r e q
  unfold fSum at e
  split at e
  · obtain ⟨v, rfl, r0⟩ := r.one
    obtain ⟨ds, e1, e⟩ := bind_some e
    obtain ⟨ns, e2, rfl⟩ := map_some e
    obtain ⟨l, ys, rfl, h, r1⟩ := r0.q i e1
    rw [ints_some e2] at r1
    have := r1.ints
    subst this
    exact ⟨l, ns, rfl, h, q _ _ _ (.refl i) (RD.int _)⟩
  · cases e
theorem c_min : CallS K C rMin fMin := by
  intro Hs H0 H xs as c Q i hs r e q
  unfold fMin at e
  split at e
  · cases e
    obtain ⟨v, w, rfl, r1, r2⟩ := r.two
    rw [RD.intI r1, RD.intI r2]
    exact rd_min (q _ _ _ (.refl i) (RD.int _))
  · cases e
end

noncomputable def truS : Sl → Option Bool
  | .sh .non => some false
  | .sh (.bl b) => some b
  | .sh (.int i) => some (i != 0)
  | .sh (.str y) => if y.length ≤ sizeLine then some ((y.length : Int) != 0) else none
  | s => s.q.map fun ds => !ds.isEmpty
noncomputable def tTru? (a : Ev) : En → Option Bool := fun E => (a E).bind truS
noncomputable def tyN : D → Option String
  | .non => some "NoneType"
  | .bl _ => some "bool"
  | .int _ => some "int"
  | .str _ => some "str"
  | .tup _ => some "tuple"
  | .lst _ => some "list"
  | .fz _ => some "list"
  | .row _ => none
  | .dct _ _ => none
  | .dfz _ _ => none
  | .exc _ => none
noncomputable def kitB (t n : String) : Bool := t == n || (t == "bool" && n == "int")
noncomputable def eIsi (n : String) (a : Ev) : Ev := fun E => (a E).bind fun s => s.d.bind fun d => (tyN d).map fun t => .sh (.bl (kitB t n))
noncomputable def D.isRow : D → Bool
  | .row _ => true
  | _ => false
section
variable {K : PySem.W.Frag} {C : Addr} {Hs H0 H : Hp} {te : TE} {ea : Ev}
theorem RDL.empty {xs : List V} {ds : List D} (r : RDL K C H xs ds) : xs.isEmpty = ds.isEmpty := by
  cases xs <;> cases ds <;> first | rfl | (have := r.1; simp at this)
theorem s_tru (ha : SE K C te ea) : ST K C (tTru K te) (tTru? ea) := by
  intro B H0 H σ E k Q I e q
  obtain ⟨a, e1, e⟩ := bind_some e
  refine ha B H0 H σ E a _ I e1 fun x H1 H1' s1 r1 => ?_
  have seq : ∀ {a : Sl}, RR K C H H1 H1' x a → a.q.map (fun ds => !ds.isEmpty) = some k → ∃ k', TruV K x H1' k' ∧ Q k' H1' := fun {a} r1 e => by
    obtain ⟨ds, e2, rfl⟩ := map_some e
    obtain ⟨l, xs, rfl, h, r⟩ := r1.q s1.i e2
    have z := q _ _ s1
    rw [← r.empty] at z
    rcases h with h | h
    · exact ⟨_, .inl ⟨xs, h, rfl⟩, z⟩
    · exact ⟨_, .inr (.inl ⟨xs, h, rfl⟩), z⟩
  unfold truS at e
  split at e
  · cases e; rw [RD.nonI r1]; exact ⟨_, rfl, q _ _ s1⟩
  · cases e; rw [RD.blI r1]; exact ⟨_, rfl, q _ _ s1⟩
  · cases e; rw [RD.intI r1]; exact ⟨_, rfl, q _ _ s1⟩
  · split at e
    · cases e; rw [RD.strI r1]; exact ⟨_, ⟨by assumption, rfl⟩, q _ _ s1⟩
    · cases e
  · exact seq r1 e
theorem RD.ty {x : V} {d : D} {t : String} (r : RD K C H x d) (e : tyN d = some t) : TyS K H x (.type t) := by
  cases r with
  | non => cases e; exact .of .non
  | bl b => cases e; exact .of (.bl b)
  | int i => cases e; exact .of (.int i)
  | str i => cases e; exact .of (.str i)
  | tup h _ _ => cases e; exact .sqT h
  | lst h _ _ => cases e; exact .sqL (.of h)
  | fz h _ _ => cases e; exact .sqL h
  | row _ _ _ _ => cases e
  | dct _ _ _ _ => cases e
  | dfz _ _ _ _ => cases e
  | exc _ _ => cases e
noncomputable def KitOk (K : PySem.W.Frag) (n : String) : Prop := ∀ t ∈ ["NoneType", "bool", "int", "str", "tuple", "list"], PySem.W.kitOne K (.type t) (.type n) = some (kitB t n)
theorem tyN_mem {d : D} {t : String} (e : tyN d = some t) : t ∈ ["NoneType", "bool", "int", "str", "tuple", "list"] := by
  cases d <;> cases e <;> simp
theorem s_isi {n : String} (hk : KitOk K n) (ha : SE K C te ea) : SE K C (tCB (rIsi K) (tCons te (tCons (tC (.ty n)) tNil))) (eIsi n ea) := by
  intro B H0 H σ E c Q I e q
  obtain ⟨a, e1, e⟩ := bind_some e
  obtain ⟨d, e2, e⟩ := bind_some e
  obtain ⟨t, e3, rfl⟩ := map_some e
  refine ha B H0 H σ E a _ I e1 fun x H1 H1' s1 r1 => ?_
  exact rd_isi (RD.ty (r1.dat s1.i e2) e3) (hk t (tyN_mem e3)) (q _ _ _ s1 (RD.bl _))
end
theorem kit_int {K : PySem.W.Frag} : KitOk K "int" := fun t ht => by
  simp only [List.mem_cons, List.mem_nil_iff, or_false] at ht
  rcases ht with rfl | rfl | rfl | rfl | rfl | rfl <;> kernel_rfl
theorem kit_bool {K : PySem.W.Frag} : KitOk K "bool" := fun t ht => by
  simp only [List.mem_cons, List.mem_nil_iff, or_false] at ht
  rcases ht with rfl | rfl | rfl | rfl | rfl | rfl <;> kernel_rfl
theorem kit_tuple {K : PySem.W.Frag} : KitOk K "tuple" := fun t ht => by
  simp only [List.mem_cons, List.mem_nil_iff, or_false] at ht
  rcases ht with rfl | rfl | rfl | rfl | rfl | rfl <;> kernel_rfl
theorem kit_list {K : PySem.W.Frag} : KitOk K "list" := fun t ht => by
  simp only [List.mem_cons, List.mem_nil_iff, or_false] at ht
  rcases ht with rfl | rfl | rfl | rfl | rfl | rfl <;> kernel_rfl
end LE

namespace LE
open PySem L2 LR

mutual
inductive Pt where
  | nm (i : Nat)
  | tp (l : Pts)
inductive Pts where
  | nil
  | cons (p : Pt) (l : Pts)
end
mutual
noncomputable def Pt.bind : Pt → D → En → Option En
  | .nm i, d, E => if i < E.length then some (E.set i (.sh d)) else none
  | .tp l, .tup ds, E => l.bind ds E
  | .tp _, _, _ => none
noncomputable def Pts.bind : Pts → List D → En → Option En
  | .nil, [], E => some E
  | .cons p l, d :: ds, E => (p.bind d E).bind fun E' => l.bind ds E'
  | _, _, _ => none
end
mutual
noncomputable def Pt.slots : Pt → List Nat
  | .nm i => [i]
  | .tp l => l.slots
noncomputable def Pts.slots : Pts → List Nat
  | .nil => []
  | .cons p l => p.slots ++ l.slots
end
mutual
theorem Pt.keep : ∀ {p : Pt} {d : D} {E E' : En}, p.bind d E = some E' → E'.length = E.length ∧ ∀ i, i ∉ p.slots → E'[i]? = E[i]?
  | .nm i, d, E, E', e => by
    unfold Pt.bind at e
    split at e
    · cases e
      refine ⟨by simp, fun j hj => ?_⟩
      rw [List.getElem?_set, if_neg]
      intro z; exact hj (by simp [Pt.slots, z])
    · cases e
  | .tp l, d, E, E', e => by
    cases d with
    | tup ds => exact Pts.keep (p := l) (ds := ds) (by simpa [Pt.bind] using e)
    | _ => simp [Pt.bind] at e
theorem Pts.keep : ∀ {p : Pts} {ds : List D} {E E' : En}, p.bind ds E = some E' → E'.length = E.length ∧ ∀ i, i ∉ p.slots → E'[i]? = E[i]?
  | .nil, [], E, E', e => by simp [Pts.bind] at e; subst e; exact ⟨rfl, fun _ _ => rfl⟩
  | .nil, _ :: _, _, _, e => by simp [Pts.bind] at e
  | .cons _ _, [], _, _, e => by simp [Pts.bind] at e
  | .cons p l, d :: ds, E, E', e => by
    rw [Pts.bind] at e
    obtain ⟨E1, e1, e2⟩ := bind_some e
    obtain ⟨h1, h2⟩ := Pt.keep e1
    obtain ⟨h3, h4⟩ := Pts.keep e2
    refine ⟨h3.trans h1, fun i hi => ?_⟩
    simp [Pts.slots] at hi
    rw [h4 i hi.2, h2 i hi.1]
end
section
variable (K : PySem.W.Frag) (C : Addr)
noncomputable def SG (g : TG) (p : Pt) : Prop := ∀ (B H0 H : Hp) (σ : St) (E E' : En) (x : V) (d : D) (Q : St → Hp → Prop), EnvR K C B H0 H σ E → RD K C H0 x d → p.bind d E = some E' → (∀ σ', EnvR K C B H0 H σ' E' → Q σ' H) → g x σ H Q
noncomputable def SGs (g : TGs) (p : Pts) : Prop := ∀ (B H0 H : Hp) (σ : St) (E E' : En) (xs : List V) (ds : List D) (Q : St → Hp → Prop), EnvR K C B H0 H σ E → RDL K C H0 xs ds → p.bind ds E = some E' → (∀ σ', EnvR K C B H0 H σ' E' → Q σ' H) → g xs σ H Q
end
section
variable {K : PySem.W.Frag} {C : Addr}
theorem EnvR.setSh {B H0 H : Hp} {σ : St} {E : En} {i : Nat} {v : V} {d : D} (I : EnvR K C B H0 H σ E) (hi : i < E.length) (r : RD K C H0 v d) : EnvR K C B H0 H (σ.set i (some v)) (E.set i (.sh d)) :=
  I.put' (s := .sh d) (.refl I.h) hi r rfl
theorem g_nm (i : Nat) : SG K C (gName i) (.nm i) := by
  intro B H0 H σ E E' x d Q I r e q
  rw [Pt.bind] at e
  split at e
  · cases e; exact q _ (I.setSh (by assumption) r)
  · cases e
theorem g_nil : SGs K C gNil .nil := by
  intro B H0 H σ E E' xs ds Q I r e q
  cases ds with
  | nil =>
    cases xs with
    | nil => rw [Pts.bind] at e; cases e; exact ⟨rfl, q σ I⟩
    | cons _ _ => have := r.1; simp at this
  | cons _ _ => simp [Pts.bind] at e
theorem g_cons {g : TG} {gs : TGs} {p : Pt} {ps : Pts} (h : SG K C g p) (hs : SGs K C gs ps) : SGs K C (gCons g gs) (.cons p ps) := by
  intro B H0 H σ E E' xs ds Q I r e q
  cases ds with
  | nil => simp [Pts.bind] at e
  | cons d ds =>
    cases xs with
    | nil => have := r.1; simp at this
    | cons x xs =>
      rw [Pts.bind] at e
      obtain ⟨E1, e1, e2⟩ := bind_some e
      exact ⟨x, xs, rfl, h B H0 H σ E E1 x d _ I r.head e1 fun σ1 I1 => hs B H0 H σ1 E1 E' xs ds Q I1 r.tail e2 q⟩
theorem g_tp {n : Nat} {gs : TGs} {ps : Pts} (hn : ∀ (ds : List D) (E E' : En), ps.bind ds E = some E' → ds.length = n) (hs : SGs K C gs ps) : SG K C (gTup K n gs) (.tp ps) := by
  intro B H0 H σ E E' x d Q I r e q
  cases d with
  | tup ds =>
    rw [Pt.bind] at e
    obtain ⟨a, xs, rfl, h, r⟩ := RD.tupI r
    exact ⟨a, xs, rfl, I.h.seqT h, by rw [r.1]; exact hn ds E E' e, hs B H0 H σ E E' xs ds Q I r e q⟩
  | _ => simp [Pt.bind] at e
noncomputable def Pts.len : Pts → Nat
  | .nil => 0
  | .cons _ l => l.len + 1
theorem Pts.bind_len : ∀ {ps : Pts} {ds : List D} {E E' : En}, ps.bind ds E = some E' → ds.length = ps.len
  | .nil, [], _, _, _ => rfl
  | .nil, _ :: _, _, _, e => by simp [Pts.bind] at e
  | .cons _ _, [], _, _, e => by simp [Pts.bind] at e
  | .cons p l, d :: ds, E, E', e => by
    rw [Pts.bind] at e
    obtain ⟨E1, e1, e2⟩ := bind_some e
    rw [List.length_cons, Pts.bind_len e2]; rfl
theorem g_tup {n : Nat} {gs : TGs} {ps : Pts} (hs : SGs K C gs ps) (hn : ps.len = n) : SG K C (gTup K n gs) (.tp ps) := g_tp (fun _ _ _ e => (Pts.bind_len e).trans hn) hs
end

section
variable (K : PySem.W.Frag) (C : Addr)
noncomputable def ItOk (A : Hp) (J : It) (ds : List D) (H0 : Hp) : Prop := ∀ H0' H', SStep A H0 H0' H' → (∀ (i : Nat) (d : D), ds[i]? = some d → J.go i H' ∧ ∀ x H2, J.yld i H' x H2 → ∃ H02, Step H' H0' H' H02 H2 ∧ RD K C H02 x d) ∧ J.stop ds.length H'
noncomputable def SI (m : Bool) (wi : TI) (ev : En → Option (List D)) : Prop := ∀ (B H0 H : Hp) (σ : St) (E : En) (ds : List D) (R : It → Hp → Prop), EnvR K C B H0 H σ E → ev E = some ds →
  (∀ J H0' H', Step H H0 H H0' H' → ItOk K C (if m = true then H' else B) J ds H0' → R J H') → wi σ H R
end
noncomputable def Sl.it (m : Bool) : Sl → Option (List D)
  | .bo ds => if m = true then some ds else none
  | s => s.q
noncomputable def iE (m : Bool) (a : Ev) : En → Option (List D) := fun E => (a E).bind (Sl.it m)
noncomputable def iV (i : Nat) : En → Option (List D) := fun E => match E[i]? with
  | some (.bo ds) => some ds
  | some (.sh d) => (Sl.sh d).q
  | _ => none
noncomputable def rng (lo : Int) (n : Nat) : List D := (List.range n).map fun (i : Nat) => .int (lo + (i : Int))
noncomputable def in62 (a : Int) : Bool := Nat.ble a.natAbs 4611686018427387903
noncomputable def iR1 (as : En → Option (List Sl)) : En → Option (List D) := fun E => (as E).bind fun ss => match ss with
  | [.sh (.int n)] => if in62 n = true then some (rng 0 n.toNat) else none
  | _ => none
section
variable {K : PySem.W.Frag} {C : Addr} {te : TE} {ea : Ev} {m : Bool}
theorem it_list {A H0 : Hp} {a : Addr} {xs : List V} {ds : List D} (hd : ∀ H0' H', SStep A H0 H0' H' → SqL K H' a xs) (r : RDL K C H0 xs ds) : ItOk K C A (Itl K a) ds H0 := by
  intro H0' H' st
  have hq := hd H0' H' st
  refine ⟨fun i d e => ?_, ⟨xs, hq, by rw [r.1]; exact Nat.le_refl _⟩⟩
  obtain ⟨x, e1, r1⟩ := r.get e
  refine ⟨⟨xs, x, hq, e1⟩, fun y H2 ⟨e2, e3⟩ => ?_⟩
  subst e2
  have := e3 xs hq
  rw [e1] at this
  cases this
  exact ⟨H0', .refl st.i, r1.mono st.z⟩
theorem it_tup {A H0 : Hp} {a : Addr} {xs : List V} {ds : List D} (hd : ∀ H0' H', SStep A H0 H0' H' → SqT K H' a xs) (r : RDL K C H0 xs ds) : ItOk K C A (Itt K a) ds H0 := by
  intro H0' H' st
  have hq := hd H0' H' st
  refine ⟨fun i d e => ?_, ⟨xs, hq, by rw [r.1]; exact Nat.le_refl _⟩⟩
  obtain ⟨x, e1, r1⟩ := r.get e
  refine ⟨⟨xs, x, hq, e1⟩, fun y H2 ⟨e2, e3⟩ => ?_⟩
  subst e2
  have := e3 xs hq
  rw [e1] at this
  cases this
  exact ⟨H0', .refl st.i, r1.mono st.z⟩
theorem s_iE (ha : SE K C te ea) : SI K C m (iSeq K te) (iE m ea) := by
  intro B H0 H σ E ds R I e q
  obtain ⟨s, e1, e⟩ := bind_some e
  cases s with
  | no => cases e
  | bd _ _ => cases e
  | od _ _ => cases e
  | bo es =>
    unfold Sl.it at e
    dsimp only at e
    split at e
    · next hm =>
      cases e
      refine .inl (ha B H0 H σ E _ _ I e1 fun x H1 H1' s1 r1 => ?_)
      obtain ⟨l, xs, rfl, h, r⟩ := r1
      refine ⟨l, rfl, ⟨xs, .of h⟩, q _ _ _ s1 ?_⟩
      rw [if_pos hm]
      exact it_list (fun H0' H' st => .of (st.b _ _ h)) r
    · cases e
  | own es =>
    cases (show some es = some ds from e)
    refine .inl (ha B H0 H σ E _ _ I e1 fun x H1 H1' s1 r1 => ?_)
    have f := frz_step (Hs := H) s1.i
    have r2 := RR.frz s1.i r1 rfl
    obtain ⟨l, xs, rfl, h, r⟩ := RD.lstI r2
    exact ⟨l, rfl, ⟨xs, .of (f.i _ _ h)⟩, q _ _ _ (s1.comp f fun _ z => z) (it_list (fun H0' H' st => .of (st.i _ _ (st.z _ _ h))) r)⟩
  | sh d =>
    cases d with
    | lst es =>
      cases (show some es = some ds from e)
      refine .inl (ha B H0 H σ E _ _ I e1 fun x H1 H1' s1 r1 => ?_)
      obtain ⟨l, xs, rfl, h, r⟩ := RD.lstI r1
      exact ⟨l, rfl, ⟨xs, .of (s1.i _ _ h)⟩, q _ _ _ s1 (it_list (fun H0' H' st => .of (st.i _ _ (st.z _ _ h))) r)⟩
    | fz es =>
      cases (show some es = some ds from e)
      refine .inl (ha B H0 H σ E _ _ I e1 fun x H1 H1' s1 r1 => ?_)
      obtain ⟨l, xs, rfl, h, r⟩ := RD.fzI r1
      exact ⟨l, rfl, ⟨xs, s1.i.seq h⟩, q _ _ _ s1 (it_list (fun H0' H' st => (st.z.trans st.i).seq h) r)⟩
    | tup es =>
      cases (show some es = some ds from e)
      refine .inr (ha B H0 H σ E _ _ I e1 fun x H1 H1' s1 r1 => ?_)
      obtain ⟨l, xs, rfl, h, r⟩ := RD.tupI r1
      exact ⟨l, rfl, ⟨xs, s1.i.seqT h⟩, q _ _ _ s1 (it_tup (fun H0' H' st => (st.z.trans st.i).seqT h) r)⟩
    | _ => cases (show none = some ds from e)
theorem s_iV (i : Nat) : SI K C false (iSeq K (tVar i)) (iV i) := by
  intro B H0 H σ E ds R I e q
  unfold iV at e
  split at e
  · next es h =>
    cases e
    rcases I.at' i _ h with z | ⟨v, h1, h2⟩
    · cases z
    · obtain ⟨l, xs, rfl, hl, r⟩ := h2
      refine .inl ⟨_, h1, l, rfl, ⟨xs, .of (I.b _ _ hl)⟩, q _ _ _ (.refl I.h) (it_list (fun H0' H' st => .of (st.b _ _ hl)) r)⟩
  · next d h =>
    refine s_iE (m := false) (ea := eVar i) (s_var i) B H0 H σ E ds R I ?_ q
    show (eVar i E).bind _ = _
    unfold eVar
    rw [h]
    exact e
  · cases e
theorem rng_get {lo : Int} {n i : Nat} {d : D} (e : (rng lo n)[i]? = some d) : i < n ∧ d = .int (lo + (i : Int)) := by
  unfold rng at e
  rw [List.getElem?_map] at e
  cases h : (List.range n)[i]? with
  | none => rw [h] at e; cases e
  | some j =>
    rw [h] at e; cases e
    obtain ⟨h1, h2⟩ := List.getElem?_eq_some_iff.mp h
    simp at h1 h2
    subst h2
    exact ⟨h1, rfl⟩
theorem it_rng {A H0 : Hp} {lo : Int} {n : Nat} : ItOk K C A (Itr lo n) (rng lo n) H0 := by
  intro H0' H' st
  refine ⟨fun i d e => ?_, by show n ≤ _; simp [rng]⟩
  obtain ⟨h1, rfl⟩ := rng_get e
  refine ⟨h1, fun x H2 ⟨e1, e2⟩ => ?_⟩
  subst e1 e2
  exact ⟨H0', .refl st.i, .int _⟩
theorem in62_ok {a : Int} (h : in62 a = true) : -(2 ^ 62) ≤ a ∧ a < 2 ^ 62 := by
  unfold in62 at h
  rw [Nat.ble_eq] at h
  omega
theorem s_iR1 {t : TA} {ev : En → Option (List Sl)} (ha : SA K C t ev) : SI K C m (iRng1 t) (iR1 ev) := by
  intro B H0 H σ E ds R I e q
  obtain ⟨ss, e1, e⟩ := bind_some e
  split at e
  · split at e
    · next hn =>
      cases e
      refine ha B H0 H σ E _ _ I e1 fun vs H1 H1' s1 r1 => ?_
      obtain ⟨v, rfl, r⟩ := r1.one
      rw [RD.intI r]
      exact ⟨_, rfl, (in62_ok hn).1, (in62_ok hn).2, q _ _ _ s1 it_rng⟩
    · cases e
  · cases e
end

noncomputable def yes? : En → Option Bool := fun _ => some true
noncomputable def impE (imp : List (Option Nat)) (E : En) : En := imp.map fun o => match o with
  | none => .no
  | some k => match E[k]? with
    | some (.own ds) => .bo ds
    | some (.od ks ds) => .bd ks ds
    | some s => s
    | none => .no
noncomputable def eEach (p : Pt) (c : En → Option Bool) (a : Ev) (E1 : En) : List D → Option (List D)
  | [] => some []
  | d :: ds => (p.bind d E1).bind fun E2 => (c E2).bind fun k => if k = true then (a E2).bind fun s => s.frz.bind fun y => (eEach p c a E1 ds).bind fun ys => some (y :: ys) else eEach p c a E1 ds
noncomputable def eComp (it : En → Option (List D)) (p : Pt) (c : En → Option Bool) (a : Ev) (imp : List (Option Nat)) : Ev := fun E => (it E).bind fun ds => if ds.length ≤ sizeLine then (eEach p c a (impE imp E) ds).map .own else none
section
variable {K : PySem.W.Frag} {C : Addr}
theorem s_yes : ST K C tYes yes? := fun _ _ _ _ _ _ _ I e q => by cases e; exact q _ _ (.refl I.h)
theorem env_imp {B H0 H : Hp} {σ : St} {E : En} {imp : List (Option Nat)} (I : EnvR K C B H0 H σ E) : EnvR K C H H0 H (impS imp σ) (impE imp E) := by
  have get : ∀ (i : Nat) (s : Sl), (impE imp E)[i]? = some s → s = .no ∨ ∃ v, (impS imp σ)[i]? = some (some v) ∧ RSl K C H H0 H v s ∧ isOwn s = false := fun i s e => by
    unfold impE at e
    unfold impS
    rw [List.getElem?_map] at e ⊢
    cases h : imp[i]? with
    | none => rw [h] at e; cases e
    | some o =>
      rw [h] at e
      cases o with
      | none => cases e; exact .inl rfl
      | some k =>
        have e' : (match E[k]? with | some (.own ds) => Sl.bo ds | some (.od ks ds) => Sl.bd ks ds | some s => s | none => .no) = s := Option.some.inj e
        cases hE : E[k]? with
        | none => rw [hE] at e'; exact .inl e'.symm
        | some s' =>
          rw [hE] at e'
          rcases I.at' k s' hE with z | ⟨v, h1, h2⟩
          · subst z; exact .inl e'.symm
          · have g : (σ[k]?).join = some v := by rw [h1]; rfl
            cases s' with
            | no => exact .inl e'.symm
            | sh d => dsimp only at e'; subst e'; exact .inr ⟨v, by show some ((σ[k]?).join) = _; rw [g], h2, rfl⟩
            | bo ds =>
              dsimp only at e'; subst e'
              obtain ⟨l, xs, q1, q2, q3⟩ := h2
              exact .inr ⟨v, by show some ((σ[k]?).join) = _; rw [g], ⟨l, xs, q1, I.b _ _ q2, q3⟩, rfl⟩
            | own ds =>
              dsimp only at e'; subst e'
              obtain ⟨l, xs, q1, q2, _, _, q3⟩ := h2
              exact .inr ⟨v, by show some ((σ[k]?).join) = _; rw [g], ⟨l, xs, q1, q2, q3⟩, rfl⟩
            | bd ks ds =>
              dsimp only at e'; subst e'
              obtain ⟨l, xs, q1, q2, q3⟩ := h2
              exact .inr ⟨v, by show some ((σ[k]?).join) = _; rw [g], ⟨l, xs, q1, I.b _ _ q2, q3⟩, rfl⟩
            | od ks ds =>
              dsimp only at e'; subst e'
              obtain ⟨l, xs, q1, q2, _, _, q3⟩ := h2
              exact .inr ⟨v, by show some ((σ[k]?).join) = _; rw [g], ⟨l, xs, q1, q2, q3⟩, rfl⟩
  refine ⟨Same.refl _, I.h, by simp [impS, impE], fun i s e => ?_, fun i j s t v hij e1 e2 o1 o2 => ?_⟩
  · rcases get i s e with z | ⟨v, h1, h2, _⟩
    · exact .inl z
    · exact .inr ⟨v, h1, h2⟩
  · rcases get i _ e1 with z | ⟨v, h1, h2, h3⟩
    · subst z; cases o1
    · rw [h3] at o1; cases o1
theorem s_comp {wi : TI} {g : TG} {tt : TT} {te : TE} {imp : List (Option Nat)} {it : En → Option (List D)} {p : Pt} {c : En → Option Bool} {a : Ev} (hi : SI K C true wi it) (hg : SG K C g p) (hc : ST K C tt c) (ha : SE K C te a)
    (hp : (p.slots.all fun i => match imp[i]? with | some none => true | _ => false) = true) : SE K C (tComp wi g tt te imp) (eComp it p c a imp) := by
  intro B H0 H σ E r Q I e q
  obtain ⟨ds, e1, e⟩ := bind_some e
  split at e
  · next hl =>
    obtain ⟨es, e2, rfl⟩ := map_some e
    refine hi B H0 H σ E ds _ I e1 fun J H1 H1' s1 ok => ?_
    rw [if_pos rfl] at ok
    have I1 : EnvR K C H1' H1 H1' (impS imp σ) (impE imp E) := env_imp (I.step s1)
    -- the loop: what was gathered, what comes
    refine ⟨fun i m ys σ' H' => m = ds.length - i ∧ i ≤ ds.length ∧ ∃ H0' gs rs, EnvR K C H1' H0' H' σ' (impE imp E) ∧ Step H1' H1 H1' H0' H' ∧ RDL K C H0' ys gs ∧ eEach p c a (impE imp E) (ds.drop i) = some rs ∧ es = gs ++ rs ∧ gs.length ≤ i,
      ⟨ds.length, by simp, Nat.zero_le _, H1, [], es, I1, .refl s1.i, .nil, e2, rfl, Nat.le_refl _⟩, ?_⟩
    rintro i m ys σ' H' ⟨rfl, hi', H0', gs, rs, I', st, rys, er, ees, hgl⟩
    have stop := ok H0' H' ⟨st.h, st.z, st.n, st.i⟩
    by_cases hlt : i < ds.length
    · have hd : ds[i]? = some ds[i] := by simp [hlt]
      obtain ⟨go, yl⟩ := stop.1 i _ hd
      refine .inr ⟨go, by rw [rys.1]; omega, fun ys' σ2 H2 => ∃ H02 gs rs, EnvR K C H1' H02 H2 σ2 (impE imp E) ∧ Step H1' H1 H1' H02 H2 ∧ RDL K C H02 ys' gs ∧ eEach p c a (impE imp E) (ds.drop (i + 1)) = some rs ∧ es = gs ++ rs ∧ gs.length ≤ i + 1,
        fun ys' σ2 H2 h => ⟨ds.length - (i + 1), by omega, rfl, hlt, h⟩, fun x H2 y => ?_⟩
      obtain ⟨H02, st2, rx⟩ := yl x H2 y
      rw [List.drop_eq_getElem_cons hlt, eEach] at er
      obtain ⟨E2, b1, er⟩ := bind_some er
      obtain ⟨k, b2, er⟩ := bind_some er
      refine hg H1' H02 H2 σ' (impE imp E) E2 x _ _ (I'.step st2) rx b1 fun σ2 I2 => ?_
      have back : ∀ {H03 H3 : Hp}, EnvR K C H1' H03 H3 σ2 E2 → EnvR K C H1' H03 H3 σ2 (impE imp E) := fun {H03 H3} J => by
        obtain ⟨k1, k2⟩ := Pt.keep b1
        refine J.sub k1.symm fun j s ej => ?_
        by_cases hj : j ∈ p.slots
        · have := List.all_eq_true.mp hp j hj
          have ej' := ej
          unfold impE at ej'
          rw [List.getElem?_map] at ej'
          cases hm : imp[j]? with
          | none => rw [hm] at this; cases this
          | some o =>
            rw [hm] at this ej'
            cases o with
            | none => cases ej'; exact .inl rfl
            | some _ => cases this
        · exact .inr (by rw [k2 j hj]; exact ej)
      refine hc H1' H02 H2 σ2 E2 k _ I2 b2 fun H03 H3 st3 => ?_
      have st13 : Step H1' H1 H1' H03 H3 := (st.trans st2).trans st3
      cases k with
      | false =>
        rw [if_neg (by simp)]
        rw [if_neg (by simp)] at er
        exact ⟨H03, gs, rs, back (I2.step st3), st13, rys.mono (st2.z.trans st3.z), er, ees, by omega⟩
      | true =>
        rw [if_pos rfl]
        rw [if_pos rfl] at er
        obtain ⟨s, b3, er⟩ := bind_some er
        obtain ⟨y', b4, er⟩ := bind_some er
        obtain ⟨ws, b5, er⟩ := bind_some er
        cases er
        refine ha H1' H03 H3 σ2 E2 s _ (I2.step st3) b3 fun v H04 H4 st4 r4 => ?_
        have f := frz_step (Hs := H3) st4.i
        have st5 : Step H3 H03 H3 (frzH H3 H04 H4) H4 := st4.comp f fun _ z => z
        exact ⟨_, gs ++ [y'], ws, back ((I2.step st3).step st5), st13.trans st5, (rys.mono ((st2.z.trans st3.z).trans st5.z)).snoc (RR.frz st4.i r4 b4), b5, by rw [ees, List.append_assoc]; rfl, by rw [List.length_append]; simp; exact hgl⟩
    · have e3 : i = ds.length := by omega
      subst e3
      refine .inl ⟨stop.2, by rw [rys.1]; omega, fun p hp => ?_⟩
      rw [List.drop_length, eEach] at er
      cases er
      rw [List.append_nil] at ees
      subst ees
      exact own_new (Hs := H) st.i (s1.h.trans st.h) hp rys fun v H2 H2' s2 r2 => q v H2 H2' ((s1.trans st).comp s2 fun _ z => z) r2
  · cases e
end
end LE

namespace LE
open PySem L2 LR

inductive Out where
  | nx (E : En) | rt (r : Sl) | bk (E : En) | ct (E : En)
noncomputable abbrev Es := En → Option Out
section
variable (K : PySem.W.Frag) (C : Addr)
noncomputable def Fin (B H0 : Hp) (D : Ends) : Out → Prop
  | .nx E => ∀ σ' H0' H', SStep B H0 H0' H' → EnvR K C B H0' H' σ' E → D.nx σ' H'
  | .bk E => ∀ σ' H0' H', SStep B H0 H0' H' → EnvR K C B H0' H' σ' E → D.bk σ' H'
  | .ct E => ∀ σ' H0' H', SStep B H0 H0' H' → EnvR K C B H0' H' σ' E → D.ct σ' H'
  | .rt r => ∀ v H0' H', SStep B H0 H0' H' → RR K C B H0' H' v r → D.rt v H'
noncomputable def SS (ts : TS) (ev : Es) : Prop := ∀ (B H0 H : Hp) (σ : St) (E : En) (o : Out) (D : Ends), EnvR K C B H0 H σ E → ev E = some o → Fin K C B H0 D o → ts D σ H
end
noncomputable def xNext : Es := fun E => some (.nx E)
noncomputable def seqK (b : Es) : Out → Option Out
  | .nx E => b E
  | .rt r => some (.rt r)
  | .bk E => some (.bk E)
  | .ct E => some (.ct E)
noncomputable def xSeq (a b : Es) : Es := fun E => (a E).bind (seqK b)
noncomputable def xIf (c : En → Option Bool) (a b : Es) : Es := fun E => (c E).bind fun k => if k = true then a E else b E
noncomputable def keep? : Sl → Option Sl
  | .sh d => some (.sh d)
  | .own ds => some (.own ds)
  | .od ks ds => some (.od ks ds)
  | _ => none
noncomputable def xSet (i : Nat) (a : Ev) : Es := fun E => (a E).bind fun s => (keep? s).bind fun s => if i < E.length then some (.nx (E.set i s)) else none
noncomputable def xSetZ (i : Nat) (a : Ev) : Es := fun E => (a E).bind fun s => s.frz.bind fun d => if i < E.length then some (.nx (E.set i (.sh d))) else none
noncomputable def xAsg (p : Pt) (a : Ev) : Es := fun E => (a E).bind fun s => s.frz.bind fun d => (p.bind d E).map .nx
noncomputable def xDrop (a : Ev) : Es := fun E => (a E).map fun _ => .nx E
noncomputable def xRet (a : Ev) : Es := fun E => (a E).bind fun s => (keep? s).map .rt
noncomputable def xRetV (i : Nat) : Es := fun E => match E[i]? with
  | some (.sh d) => some (.rt (.sh d))
  | some (.own ds) => some (.rt (.own ds))
  | some (.od ks ds) => some (.rt (.od ks ds))
  | _ => none
noncomputable def xNever : Es := fun _ => none
noncomputable def xApp (i : Nat) (a : Ev) : Es := fun E => match E[i]? with
  | some (.own ds) => (a E).bind fun s => s.frz.bind fun d => if ds.length < sizeLine then some (.nx (E.set i (.own (ds ++ [d])))) else none
  | _ => none
noncomputable def xAug (f : Int → Int → Int) (i : Nat) (a : Ev) : Es := fun E => match E[i]? with
  | some (.sh (.int x)) => (a E).bind fun s => match s with
    | .sh (.int y) => some (.nx (E.set i (.sh (.int (f x y)))))
    | _ => none
  | _ => none
noncomputable def frzE (i : Nat) (E : En) : En := match E[i]? with
  | some (.own ds) => E.set i (.sh (.lst ds))
  | some (.od ks ds) => E.set i (.sh (.dct ks ds))
  | _ => E
noncomputable def xLoop (p : Pt) (b : Es) : List D → Es
  | [], E => some (.nx E)
  | d :: ds, E => (p.bind d E).bind fun E1 => (b E1).bind fun o => match o with
    | .nx E2 => xLoop p b ds E2
    | .ct E2 => xLoop p b ds E2
    | .bk E2 => some (.nx E2)
    | .rt r => some (.rt r)
noncomputable def xFor (it : En → Option (List D)) (p : Pt) (b : Es) : Es := fun E => (it E).bind fun ds => xLoop p b ds E
section
variable {K : PySem.W.Frag} {C : Addr} {B H0 H H0' H' : Hp} {σ : St} {E : En} {D : Ends} {o : Out} {te : TE} {ea : Ev} {t u : TS} {et eu : Es}
theorem Fin.step (st : SStep B H0 H0' H') (f : Fin K C B H0 D o) : Fin K C B H0' D o := by
  cases o with
  | nx E => exact fun σ' H1 H1' s1 I => f σ' H1 H1' (st.trans s1) I
  | bk E => exact fun σ' H1 H1' s1 I => f σ' H1 H1' (st.trans s1) I
  | ct E => exact fun σ' H1 H1' s1 I => f σ' H1 H1' (st.trans s1) I
  | rt r => exact fun v H1 H1' s1 I => f v H1 H1' (st.trans s1) I
theorem EnvR.ss (I : EnvR K C B H0 H σ E) : SStep B H0 H0 H := .refl I.b I.h
theorem x_next : SS K C tNext xNext := fun _ _ _ _ _ _ _ I e f => by cases e; exact f _ _ _ I.ss I
theorem x_seq (ht : SS K C t et) (hu : SS K C u eu) : SS K C (tSeq t u) (xSeq et eu) := by
  intro B H0 H σ E o D I e f
  obtain ⟨o1, e1, e⟩ := bind_some e
  refine ht B H0 H σ E o1 _ I e1 ?_
  cases o1 with
  | nx E1 => exact fun σ1 H1 H1' s1 I1 => hu B H1 H1' σ1 E1 o D I1 e (f.step s1)
  | bk E1 => cases e; exact f
  | ct E1 => cases e; exact f
  | rt r => cases e; exact f
theorem x_if {c : TT} {ec : En → Option Bool} (hc : ST K C c ec) (ht : SS K C t et) (hu : SS K C u eu) : SS K C (tIfS c t u) (xIf ec et eu) := by
  intro B H0 H σ E o D I e f
  obtain ⟨k, e1, e⟩ := bind_some e
  refine hc B H0 H σ E k _ I e1 fun H1 H1' s1 => ?_
  cases k with
  | true => rw [if_pos rfl]; exact ht B H1 H1' σ E o D (I.step s1) e (f.step (s1.ss I.b))
  | false => rw [if_neg (by simp)]; exact hu B H1 H1' σ E o D (I.step s1) e (f.step (s1.ss I.b))
theorem keep_some {s r : Sl} (e : keep? s = some r) : s = r ∧ isBo r = false := by
  cases s <;> cases e <;> exact ⟨rfl, rfl⟩
theorem x_set {i : Nat} (ha : SE K C te ea) : SS K C (tAsg te (gName i)) (xSet i ea) := by
  intro B H0 H σ E o D I e f
  obtain ⟨s, e1, e⟩ := bind_some e
  obtain ⟨s', e2, e⟩ := bind_some e
  obtain ⟨rfl, hb⟩ := keep_some e2
  split at e
  · cases e
    exact ha B H0 H σ E _ _ I e1 fun v H1 H1' s1 r1 => f _ _ _ (s1.ss I.b) (I.put' s1 (by assumption) r1 hb)
  · cases e
theorem x_setZ {i : Nat} (ha : SE K C te ea) : SS K C (tAsg te (gName i)) (xSetZ i ea) := by
  intro B H0 H σ E o D I e f
  obtain ⟨s, e1, e⟩ := bind_some e
  obtain ⟨d, e2, e⟩ := bind_some e
  split at e
  · cases e
    refine ha B H0 H σ E _ _ I e1 fun v H1 H1' s1 r1 => ?_
    have s2 : Step H H0 H (frzH H H1 H1') H1' := s1.comp (frz_step s1.i) fun _ z => z
    exact f _ _ _ (s2.ss I.b) ((I.step s2).setSh (by assumption) (RR.frz s1.i r1 e2))
  · cases e
theorem x_asg {g : TG} {p : Pt} (ha : SE K C te ea) (hg : SG K C g p) : SS K C (tAsg te g) (xAsg p ea) := by
  intro B H0 H σ E o D I e f
  obtain ⟨s, e1, e⟩ := bind_some e
  obtain ⟨d, e2, e⟩ := bind_some e
  obtain ⟨E', e3, rfl⟩ := map_some e
  refine ha B H0 H σ E _ _ I e1 fun v H1 H1' s1 r1 => ?_
  have s2 : Step H H0 H (frzH H H1 H1') H1' := s1.comp (frz_step s1.i) fun _ z => z
  exact hg B _ H1' σ E E' v d _ (I.step s2) (RR.frz s1.i r1 e2) e3 fun σ' I' => f _ _ _ (s2.ss I.b) I'
theorem x_drop (ha : SE K C te ea) : SS K C (tDrop te) (xDrop ea) := by
  intro B H0 H σ E o D I e f
  obtain ⟨s, e1, rfl⟩ := map_some e
  exact ha B H0 H σ E _ _ I e1 fun v H1 H1' s1 r1 => f _ _ _ (s1.ss I.b) (I.step s1)
theorem x_ret (ha : SE K C te ea) : SS K C (tRet te) (xRet ea) := by
  intro B H0 H σ E o D I e f
  obtain ⟨s, e1, e⟩ := bind_some e
  obtain ⟨s', e2, rfl⟩ := map_some e
  obtain ⟨rfl, hb⟩ := keep_some e2
  exact ha B H0 H σ E _ _ I e1 fun v H1 H1' s1 r1 => f _ _ _ (s1.ss I.b) (r1.weak fun a z => Same.free I.b z)
theorem x_retV {i : Nat} : SS K C (tRet (tVar i)) (xRetV i) := by
  intro B H0 H σ E o D I e f
  unfold xRetV at e
  split at e
  · next d h =>
    cases e
    rcases I.at' i _ h with z | ⟨v, h1, h2⟩
    · cases z
    · exact ⟨v, h1, f _ _ _ I.ss h2⟩
  · next d h =>
    cases e
    rcases I.at' i _ h with z | ⟨v, h1, h2⟩
    · cases z
    · exact ⟨v, h1, f _ _ _ I.ss h2⟩
  · next d h =>
    cases e
    rcases I.at' i _ h with z | ⟨v, h1, h2⟩
    · cases z
    · exact ⟨v, h1, f _ _ _ I.ss h2⟩
  · cases e
theorem EnvR.mutG {i : Nat} {l : Addr} {t t' : Sl} {o' : HO} (I : EnvR K C B H0 H σ E) (e1 : E[i]? = some t) (ho : isOwn t = true) (ho' : isOwn t' = true) (e2 : σ[i]? = some (some (.ref l))) (r : RSl K C B H0 (upd H l o') (.ref l) t') :
    EnvR K C B H0 (upd H l o') σ (E.set i t') := by
  obtain ⟨h1, h2, h3⟩ := I.ownG e1 ho e2
  have hi : i < E.length := (List.getElem?_eq_some_iff.mp e1).1
  have nb : ∀ {A : Hp}, A l = none → Same A H → Same A (upd H l o') := fun {A} n s a o e => by rw [upd_ne (ne_of_none e n)]; exact s a o e
  refine ⟨nb h3 I.b, nb h2 I.h, by simp [I.len], fun j s e => ?_, fun j k s1 s2 v hjk a1 a2 p1 p2 a3 => ?_⟩
  · rw [List.getElem?_set] at e
    by_cases hj : i = j
    · subst hj
      rw [if_pos rfl, if_pos hi] at e
      cases e
      exact .inr ⟨_, e2, r⟩
    · rw [if_neg hj] at e
      rcases I.at' j s e with z | ⟨v, q1, q2⟩
      · exact .inl z
      · refine .inr ⟨v, q1, ?_⟩
        cases s with
        | no => trivial
        | sh d => exact q2
        | bo es => exact q2
        | bd ks es => exact q2
        | own es =>
          obtain ⟨l', ys, p1, p2, p3, p4, p5⟩ := q2
          subst p1
          have : l' ≠ l := fun z => by subst z; exact I.sep i j t _ (.ref l') hj e1 e ho rfl e2 q1
          exact ⟨l', ys, rfl, by rw [upd_ne this]; exact p2, p3, p4, p5⟩
        | od ks es =>
          obtain ⟨l', ys, p1, p2, p3, p4, p5⟩ := q2
          subst p1
          have : l' ≠ l := fun z => by subst z; exact I.sep i j t _ (.ref l') hj e1 e ho rfl e2 q1
          exact ⟨l', ys, rfl, by rw [upd_ne this]; exact p2, p3, p4, p5⟩
  · have own : ∀ {j : Nat} {u : Sl}, (E.set i t')[j]? = some u → isOwn u = true → ∃ g, E[j]? = some g ∧ isOwn g = true := fun {j u} a w => by
      rw [List.getElem?_set] at a
      by_cases hj : i = j
      · subst hj; exact ⟨t, e1, ho⟩
      · rw [if_neg hj] at a; exact ⟨_, a, w⟩
    obtain ⟨g1, b1, c1⟩ := own a1 p1
    obtain ⟨g2, b2, c2⟩ := own a2 p2
    exact I.sep j k g1 g2 v hjk b1 b2 c1 c2 a3
theorem EnvR.mut {i : Nat} {l : Addr} {ds ds' : List LE.D} {xs xs' : List V} (I : EnvR K C B H0 H σ E) (e1 : E[i]? = some (.own ds)) (e2 : σ[i]? = some (some (.ref l))) (r : RDL K C H0 xs' ds') :
    EnvR K C B H0 (upd H l (.lst xs')) σ (E.set i (.own ds')) := by
  obtain ⟨_, h2, h3⟩ := I.ownG e1 rfl e2
  exact I.mutG (t' := .own ds') e1 rfl rfl e2 ⟨l, xs', rfl, upd_same, h2, h3, r⟩
theorem EnvR.slot {i : Nat} {ds : List LE.D} (I : EnvR K C B H0 H σ E) (e1 : E[i]? = some (.own ds)) : ∃ l xs, σ[i]? = some (some (.ref l)) ∧ H l = some (.lst xs) ∧ H0 l = none ∧ B l = none ∧ RDL K C H0 xs ds := by
  rcases I.at' i _ e1 with z | ⟨v, h1, l, xs, rfl, h2, h3, h4, h5⟩
  · cases z
  · exact ⟨l, xs, h1, h2, h3, h4, h5⟩
theorem x_app {i : Nat} (ha : SE K C te ea) : SS K C (tDrop (tBM K "list" rAppend (tVar i) (tCons te tNil))) (xApp i ea) := by
  intro B H0 H σ E o D I e f
  unfold xApp at e
  split at e
  · next ds h =>
    obtain ⟨s, e1, e⟩ := bind_some e
    obtain ⟨d, e2, e⟩ := bind_some e
    split at e
    · next hz =>
      cases e
      obtain ⟨l, xs, g1, g2, g3, g4, g5⟩ := I.slot h
      refine ⟨_, g1, .inl ⟨rfl, _, .of g2⟩, ?_⟩
      refine ha B H0 H σ E _ _ I e1 fun v H1 H1' s1 r1 => ?_
      have s2 : Step H H0 H (frzH H H1 H1') H1' := s1.comp (frz_step s1.i) fun _ z => z
      have I2 := I.step s2
      have m := I2.mut (xs := xs) h g1 ((g5.mono s2.z).snoc (RR.frz s1.i r1 e2))
      exact ⟨l, xs, v, rfl, rfl, s2.h _ _ g2, by rw [g5.1]; exact hz, f _ _ _ ⟨m.b, s2.z, (s2.ss I.b).n, m.h⟩ m⟩
    · cases e
  · cases e
theorem x_aug {i : Nat} {g : Int → Int → Int} (ha : SE K C te ea) : SS K C (tAug i te (ipI g)) (xAug g i ea) := by
  intro B H0 H σ E o D I e f
  unfold xAug at e
  split at e
  · next x h =>
    obtain ⟨s, e1, e⟩ := bind_some e
    split at e
    · cases e
      rcases I.at' i _ h with z | ⟨v, h1, h2⟩
      · cases z
      · have hi : i < E.length := (List.getElem?_eq_some_iff.mp h).1
        refine ⟨v, h1, ha B H0 H σ E _ _ I e1 fun w H1 H1' s1 r1 => ⟨_, _, RD.intI h2, RD.intI r1, f _ _ _ (s1.ss I.b) ((I.step s1).setSh hi (.int _))⟩⟩
    · cases e
  · cases e
theorem EnvR.slotD {i : Nat} {ks : List Int} {ds : List LE.D} (I : EnvR K C B H0 H σ E) (e1 : E[i]? = some (.od ks ds)) : ∃ l xs, σ[i]? = some (some (.ref l)) ∧ H l = some (dkO ks xs) ∧ H0 l = none ∧ B l = none ∧ ks.length = ds.length ∧ RDL K C H0 xs ds := by
  rcases I.at' i _ e1 with z | ⟨v, h1, l, xs, rfl, h2, h3, h4, h5⟩
  · cases z
  · exact ⟨l, xs, h1, h2, h3, h4, h5⟩
theorem EnvR.frzG (I : EnvR K C B H0 H σ E) {i : Nat} {t : Sl} {l : Addr} {o : HO} {d : LE.D} (h : E[i]? = some t) (ho : isOwn t = true) (g1 : σ[i]? = some (some (.ref l))) (g2 : H l = some o) (g5 : ∀ H1, Same H0 H1 → H1 l = some o → RD K C H1 (.ref l) d) : ∃ H0', SStep B H0 H0' H ∧ EnvR K C B H0' H σ (E.set i (.sh d)) := by
  obtain ⟨_, g3, g4⟩ := I.ownG h ho g1
  have hi : i < E.length := (List.getElem?_eq_some_iff.mp h).1
  have s0 : Same H0 (upd H0 l o) := .new g3
  have s1 : Same (upd H0 l o) H := fun a o e => by
    by_cases ha : a = l
    · subst ha; rw [upd_same] at e; cases e; exact g2
    · rw [upd_ne ha] at e; exact I.h a o e
  refine ⟨upd H0 l o, ⟨I.b, s0, fun a o e => ?_, s1⟩, I.b, s1, by simp [I.len], fun j s e => ?_, fun j k u1 u2 v hjk a1 a2 w1 w2 a3 => ?_⟩
  · by_cases ha : a = l
    · subst ha; exact .inr (.inl g4)
    · rw [upd_ne ha] at e; exact .inl e
  · rw [List.getElem?_set] at e
    by_cases hj : i = j
    · subst hj
      rw [if_pos rfl, if_pos hi] at e
      cases e
      exact .inr ⟨_, g1, g5 _ s0 upd_same⟩
    · rw [if_neg hj] at e
      rcases I.at' j s e with z | ⟨v, q1, q2⟩
      · exact .inl z
      · refine .inr ⟨v, q1, ?_⟩
        cases s with
        | no => trivial
        | sh d => exact RD.mono s0 q2
        | bo es => obtain ⟨l', ys, p1, p2, p3⟩ := q2; exact ⟨l', ys, p1, p2, p3.mono s0⟩
        | bd ks es => obtain ⟨l', ys, p1, p2, hk, p3⟩ := q2; exact ⟨l', ys, p1, p2, hk, p3.mono s0⟩
        | own es =>
          obtain ⟨l', ys, p1, p2, p3, p4, p5⟩ := q2
          subst p1
          have : l' ≠ l := fun z => by subst z; exact I.sep i j t _ (.ref l') hj h e ho rfl g1 q1
          exact ⟨l', ys, rfl, p2, by rw [upd_ne this]; exact p3, p4, p5.mono s0⟩
        | od ks es =>
          obtain ⟨l', ys, p1, p2, p3, p4, hk, p5⟩ := q2
          subst p1
          have : l' ≠ l := fun z => by subst z; exact I.sep i j t _ (.ref l') hj h e ho rfl g1 q1
          exact ⟨l', ys, rfl, p2, by rw [upd_ne this]; exact p3, p4, hk, p5.mono s0⟩
  · have own : ∀ {j : Nat} {u : Sl}, (E.set i (.sh d))[j]? = some u → isOwn u = true → E[j]? = some u := fun {j u} a w => by
      rw [List.getElem?_set] at a
      by_cases hj : i = j
      · subst hj; rw [if_pos rfl, if_pos hi] at a; cases a; cases w
      · rw [if_neg hj] at a; exact a
    exact I.sep j k u1 u2 v hjk (own a1 w1) (own a2 w2) w1 w2 a3
theorem EnvR.frz (I : EnvR K C B H0 H σ E) (i : Nat) : ∃ H0', SStep B H0 H0' H ∧ EnvR K C B H0' H σ (frzE i E) := by
  unfold frzE
  split
  · next ds h =>
    obtain ⟨l, xs, g1, g2, g3, g4, g5⟩ := I.slot h
    exact I.frzG h rfl g1 g2 fun H1 s0 hl => .mkL hl (g5.mono s0)
  · next ks ds h =>
    obtain ⟨l, xs, g1, g2, g3, g4, hk, g5⟩ := I.slotD h
    exact I.frzG h rfl g1 g2 fun H1 s0 hl => .mkD hl hk (g5.mono s0)
  · exact ⟨H0, I.ss, I⟩
theorem x_for {wi : TI} {g : TG} {it : En → Option (List LE.D)} {p : Pt} (hi : SI K C false wi it) (hg : SG K C g p) (ht : SS K C t et) : SS K C (tFor wi g t) (xFor it p et) := by
  intro B H0 H σ E o D I e f
  obtain ⟨ds, e1, e⟩ := bind_some e
  refine hi B H0 H σ E ds _ I e1 fun J H1 H1' s1 ok => ?_
  rw [if_neg (by simp)] at ok
  refine ⟨fun i m σ' H' => m = ds.length - i ∧ i ≤ ds.length ∧ ∃ H0' E', EnvR K C B H0' H' σ' E' ∧ SStep B H1 H0' H' ∧ xLoop p et (ds.drop i) E' = some o,
    ⟨ds.length, by simp, Nat.zero_le _, H1, E, I.step s1, .refl (I.b.trans s1.h) s1.i, e⟩, ?_⟩
  rintro i m σ' H' ⟨rfl, hi', H0', E', I', st, er⟩
  have stop := ok H0' H' st
  have f' : Fin K C B H0' D o := (f.step (s1.ss I.b)).step st
  by_cases hlt : i < ds.length
  · have hd : ds[i]? = some ds[i] := by simp [hlt]
    obtain ⟨go, yl⟩ := stop.1 i _ hd
    refine .inr ⟨go, fun σ2 H2 => ∃ H02 E2, EnvR K C B H02 H2 σ2 E2 ∧ SStep B H1 H02 H2 ∧ xLoop p et (ds.drop (i + 1)) E2 = some o, fun σ2 H2 h => ⟨ds.length - (i + 1), by omega, rfl, hlt, h⟩, fun x H2 y => ?_⟩
    obtain ⟨H02, st2, rx⟩ := yl x H2 y
    rw [List.drop_eq_getElem_cons hlt, xLoop] at er
    obtain ⟨E1, b1, er⟩ := bind_some er
    obtain ⟨o1, b2, er⟩ := bind_some er
    have ss2 : SStep B H0' H02 H2 := st2.ss I'.b
    refine hg B H02 H2 σ' E' E1 x _ _ (I'.step st2) rx b1 fun σ2 I2 => ?_
    refine ht B H02 H2 σ2 E1 o1 _ I2 b2 ?_
    cases o1 with
    | nx E2 => exact fun σ3 H3 H3' s3 I3 => ⟨H3, E2, I3, (st.trans ss2).trans s3, er⟩
    | ct E2 => exact fun σ3 H3 H3' s3 I3 => ⟨H3, E2, I3, (st.trans ss2).trans s3, er⟩
    | bk E2 => cases er; exact f'.step ss2
    | rt r => cases er; exact f'.step ss2
  · have e3 : i = ds.length := by omega
    subst e3
    rw [List.drop_length, xLoop] at er
    cases er
    exact .inl ⟨stop.2, f' _ _ _ I'.ss I'⟩
end

noncomputable def endK : Out → Option Sl
  | .nx _ => some (.sh .non)
  | .rt r => some r
  | .bk _ => none
  | .ct _ => none
noncomputable def fRun (N : Nat) (b : Es) : List Sl → Option Sl := fun as => (b (as ++ List.replicate (N - as.length) .no)).bind endK
section
variable {K : PySem.W.Frag} {C : Addr}
theorem RRL.get {Hs H0 H : Hp} : ∀ {vs : List V} {ss : List Sl} {i : Nat} {s : Sl}, RRL K C Hs H0 H vs ss → ss[i]? = some s → ∃ v, vs[i]? = some v ∧ RR K C Hs H0 H v s
  | _, _, _, _, .nil, e => by simp at e
  | _, _, 0, _, .cons h _, e => by simp at e; subst e; exact ⟨_, rfl, h⟩
  | _, _, i + 1, s, .cons _ t, e => by
    obtain ⟨v, h1, h2⟩ := RRL.get (i := i) (s := s) t (by simpa using e)
    exact ⟨v, by simpa using h1, h2⟩
theorem fn_done {N : List Str} {n : Nat} {b : Es} {ts : TS} {vs : List V} {H : Hp} {Q : VK} {E : XK} (hb : SS K C ts b) (h : spE K C n (fRun N.length b) vs H Q E) : ts { nx := fun _ H' => Q .non H', rt := Q } (L2.start N vs) H := by
  obtain ⟨H0, as, r, i, ra, ho, hl, e, q⟩ := h
  have lens := ra.len
  have noOwn : ∀ (j : Nat) (s : Sl), as[j]? = some s → isOwn s = false := fun j s e => by
    have := List.all_eq_true.mp ho s (List.mem_of_getElem? e)
    simpa using this
  have get : ∀ (j : Nat) (s : Sl), (as ++ List.replicate (N.length - as.length) Sl.no)[j]? = some s → s = .no ∨ as[j]? = some s := fun j s e => by
    by_cases hj : j < as.length
    · rw [List.getElem?_append_left hj] at e; exact .inr e
    · rw [List.getElem?_append_right (by omega), List.getElem?_replicate] at e
      split at e
      · cases e; exact .inl rfl
      · cases e
  have I : EnvR K C H H0 H (L2.start N vs) (as ++ List.replicate (N.length - as.length) .no) := by
    refine ⟨Same.refl _, i, by simp [L2.start, lens], fun j s e => ?_, fun j k s1 s2 v hjk e1 e2 w1 w2 => ?_⟩
    · rcases get j s e with z | z
      · exact .inl z
      · obtain ⟨v, h1, h2⟩ := ra.get z
        refine .inr ⟨v, ?_, ?_⟩
        · unfold L2.start
          rw [List.getElem?_append_left (by have := (List.getElem?_eq_some_iff.mp h1).1; simpa using this), List.getElem?_map, h1]; rfl
        · cases s with
          | no => trivial
          | sh d => exact h2
          | bo ds => exact h2
          | own ds => exact absurd (noOwn j _ z) (by simp [isOwn])
          | bd ks ds => exact h2
          | od ks ds => exact absurd (noOwn j _ z) (by simp [isOwn])
    · rcases get j _ e1 with z | z
      · subst z; cases w1
      · rw [noOwn j _ z] at w1; cases w1
  obtain ⟨o, e1, e⟩ := bind_some e
  refine hb H H0 H _ _ o _ I e1 ?_
  cases o with
  | nx E1 => cases e; exact fun σ' H1 H1' s1 I1 => q _ H1 H1' ⟨s1.b, s1.z, s1.n, s1.i⟩ RD.non
  | rt r' => cases e; exact fun v H1 H1' s1 r1 => q v H1 H1' ⟨s1.b, s1.z, s1.n, s1.i⟩ r1
  | bk _ => cases e
  | ct _ => cases e
theorem law_imp {P : Program} {w : World} {mg : Str → Option Value} {base : Heap} {k : Nat} {f : Addr} {fd : FuncData} {ps : List Str} {ev : List Sl → Option Sl} (F : FnOk P w K mg base CX0 k f fd ps (spE K C 1 ev))
    (h : ∀ ns : List Int, ns.length ≤ 63 → ev [.sh (.fz (ns.map .int))] = some (.sh (.bl true))) : FnOk P w K mg base CX0 k f fd ps (spLaw K) :=
  F.imp fun vs H Q E ⟨a, ns, e, hS, hl, q⟩ => by
    subst e
    exact ⟨H, [.sh (.fz (ns.map .int))], _, Same.refl _, .cons (show RD K C H _ _ from RD.mkF hS (RDL.ofInts ns)) .nil, rfl, rfl, h ns hl, fun v H0' H' _ r => by rw [RD.blI r]; exact q H'⟩
structure RowK (K : PySem.W.Frag) (C : Addr) : Prop where
  t : RowC K C
  k1 : PySem.W.findIn K (.ref C) "__class__" = some (some (.builtin "object.__class__"))
  k2 : PySem.W.specialIn K (.builtin "object.__class__") "__get__" = some (some (.builtin "getset_descriptor.__get__"))
  k3 : PySem.W.takesIn K (.builtin "object.__class__") = some true
  k4 : PySem.W.mroIn K C (.type "object") = some true
end
end LE

namespace L2
open PySem PySem.Spec PyProof.Rows
end L2
namespace LE
open PySem L2 LR
noncomputable def in60 (a : Int) : Bool := Nat.ble a.natAbs 1152921504606846975
theorem in60_ok {a : Int} : in60 a = true ↔ -1152921504606846976 < a ∧ a < 1152921504606846976 := by
  unfold in60
  rw [Nat.ble_eq]
  omega
section
variable {K : PySem.W.Frag} {C : Addr} {m : Bool}
noncomputable def str? : Sl → Option Str
  | .sh (.str z) => some z
  | _ => none
end
end LE

namespace LE
open PySem L2 LR
noncomputable def okS (P : En → Prop) : Option Out → Prop
  | some (.nx E) => P E
  | some (.ct E) => P E
  | _ => False
theorem okS_nx {P : En → Prop} {E : En} : okS P (some (.nx E)) = P E := rfl
theorem okS_ct {P : En → Prop} {E : En} : okS P (some (.ct E)) = P E := rfl
theorem okS_some {P : En → Prop} {o : Option Out} (h : okS P o) : ∃ E, (o = some (.nx E) ∨ o = some (.ct E)) ∧ P E := by
  unfold okS at h
  split at h
  · exact ⟨_, .inl rfl, h⟩
  · exact ⟨_, .inr rfl, h⟩
  · exact h.elim
theorem loop_rel {γ α β : Type} {p : Pt} {b : Es} {f : α → D} {k : Out → Option γ} {r : Option γ} (R : List α → β → En → Prop) (g : β → α → β) : ∀ {as : List α} {E : En} (s : β) (h0 : R as s E)
    (h : ∀ a as s E, R (a :: as) s E → okS (R as (g s a)) ((p.bind (f a) E).bind b)) (fin : ∀ E', R [] (as.foldl g s) E' → k (.nx E') = r), (xLoop p b (as.map f) E).bind k = r
  | [], E, s, h0, _, fin => fin E h0
  | a :: as, E, s, h0, h, fin => by
    obtain ⟨E2, e2, r2⟩ := okS_some (h a as s E h0)
    have ih := loop_rel (k := k) (r := r) R g (as := as) (E := E2) (g s a) r2 h fin
    rw [List.map_cons, xLoop]
    cases hp : p.bind (f a) E with
    | none => rw [hp] at e2; rcases e2 with e2 | e2 <;> cases e2
    | some E1 =>
      rw [hp, Option.bind_some] at e2
      rw [Option.bind_some]
      rcases e2 with e2 | e2 <;> (rw [e2, Option.bind_some]; exact ih)
theorem loop_cnt {γ : Type} {p : Pt} {b : Es} {f : Nat → D} {n : Nat} {E : En} {k : Out → Option γ} {r : Option γ} (R : Nat → En → Prop) (h0 : R 0 E)
    (h : ∀ i E, i < n → R i E → okS (R (i + 1)) ((p.bind (f i) E).bind b)) (fin : ∀ E', R n E' → k (.nx E') = r) : (xLoop p b ((List.range n).map f) E).bind k = r := by
  refine loop_rel (fun (as : List Nat) (i : Nat) E => i + as.length = n ∧ as = List.range' i as.length ∧ R i E) (fun i _ => i + 1) 0 ⟨by simp, by simp [List.range_eq_range'], h0⟩ (fun a as i E ⟨hk, e, q⟩ => ?_) fun E' ⟨hk, _, q⟩ => ?_
  · rw [List.length_cons, List.range'_succ] at e
    have e1 : a = i := (List.cons.inj e).1
    subst e1
    obtain ⟨E2, e2, r2⟩ := okS_some (h a E (by rw [List.length_cons] at hk; omega) q)
    have fin2 : (a + 1) + as.length = n ∧ as = List.range' (a + 1) as.length ∧ R (a + 1) E2 := ⟨by rw [List.length_cons] at hk; omega, (List.cons.inj e).2, r2⟩
    rcases e2 with e2 | e2 <;> (rw [e2]; exact fin2)
  · have e3 : (List.range n).foldl (fun i _ => i + 1) 0 = n := by simpa using hk
    rw [e3] at q
    exact fin E' q
theorem each_yes {α : Type} {p : Pt} {a : Ev} {E1 : En} {f g : α → D} : ∀ {xs : List α}, (∀ x ∈ xs, ((p.bind (f x) E1).bind a).bind Sl.frz = some (g x)) → eEach p yes? a E1 (xs.map f) = some (xs.map g)
  | [], _ => rfl
  | x :: xs, h => by
    have h1 := h x List.mem_cons_self
    obtain ⟨s, e1, e2⟩ := bind_some h1
    obtain ⟨E2, e3, e4⟩ := bind_some e1
    rw [List.map_cons, eEach, e3]
    simp only [Option.bind_some, yes?, if_true, e4, e2]
    rw [each_yes fun y hy => h y (List.mem_cons_of_mem _ hy)]
    rfl
theorem rng0 (n : Nat) : rng 0 n = (List.range n).map fun i => .int (i : Int) := by
  unfold rng
  exact List.map_congr_left fun i _ => by rw [Int.zero_add]
theorem size_eq : sizeLine = 16777216 := rfl
theorem atI_map {α β : Type} (f : α → β) (xs : List α) (i : Int) : atI (xs.map f) i = (atI xs i).map f := by
  unfold atI
  rw [List.length_map]
  cases ixN xs.length i with
  | none => rfl
  | some j => simp
theorem atI_nat' {α : Type} {xs : List α} {k : Nat} (h : k < xs.length) : atI xs (k : Int) = some xs[k] := by
  unfold atI ixN
  rw [if_pos (by omega), if_pos (by omega)]
  simp [h]
theorem atI_cell {ns : List Int} {k : Int} (h0 : 0 ≤ k) (h : k < (ns.length : Int)) : atI ns k = some (cell ns k) := by
  obtain ⟨j, rfl⟩ := Int.eq_ofNat_of_zero_le h0
  have hj : j < ns.length := by omega
  rw [atI_nat' hj]
  simp [cell, hj]
structure Kd {α : Type} (f : α → D) (n : Nat) : Prop where
  lay : ∀ a, (f a).py.canLay0 = true
  dep : ∀ a, (f a).py.depth ≤ n
  eqv : ∀ a b, PyData.eqv (f a).py (f b).py = true ↔ a = b
theorem Kd.eq {α : Type} [DecidableEq α] {f : α → D} {n : Nat} (k : Kd f n) (h : n ≤ 60) (a b : α) : eqD (f a) (f b) = some (decide (a = b)) := by
  unfold eqD
  have := k.dep a
  rw [k.lay a, k.lay b, if_pos (by simp; omega)]
  congr 1
  rw [Bool.eq_iff_iff, k.eqv]; simp
theorem kd_int : Kd D.int 1 := ⟨fun _ => rfl, fun _ => by simp [D.py, PyData.depth], fun a b => by show (a == b) = true ↔ _; simp⟩
theorem kd_all {α : Type} {f : α → D} {n : Nat} (k : Kd f n) : (∀ xs : List α, PyData.canLayAll0 (D.pyL (xs.map f)) = true) ∧ (∀ xs : List α, PyData.depthAll (D.pyL (xs.map f)) ≤ n) ∧ ∀ xs ys : List α, PyData.eqvAll (D.pyL (xs.map f)) (D.pyL (ys.map f)) = true ↔ xs = ys := by
  refine ⟨fun xs => ?_, fun xs => ?_, fun xs => ?_⟩
  · induction xs with
    | nil => rfl
    | cons x xs ih => show (PyData.canLay0 _ && PyData.canLayAll0 _) = true; rw [k.lay, ih]; rfl
  · induction xs with
    | nil => simp [D.pyL, PyData.depthAll]
    | cons x xs ih =>
      have := k.dep x
      simp only [List.map_cons, D.pyL, PyData.depthAll]
      omega
  · induction xs with
    | nil => intro ys; cases ys with
      | nil => simp [D.pyL, PyData.eqvAll]
      | cons y ys => simp [D.pyL, PyData.eqvAll]
    | cons x xs ih => intro ys; cases ys with
      | nil => simp [D.pyL, PyData.eqvAll]
      | cons y ys => simp only [List.map_cons, D.pyL, PyData.eqvAll, Bool.and_eq_true, k.eqv, ih, List.cons.injEq]
theorem kd_lst {α : Type} {f : α → D} {n : Nat} (k : Kd f n) : Kd (fun xs : List α => D.lst (xs.map f)) (n + 1) :=
  ⟨fun xs => (kd_all k).1 xs, fun xs => by have := (kd_all k).2.1 xs; simp only [D.py, PyData.depth]; omega, fun xs ys => by simp only [D.py, PyData.eqv]; exact (kd_all k).2.2 xs ys⟩
theorem kd_tup {α : Type} {f : α → D} {n : Nat} (k : Kd f n) : Kd (fun xs : List α => D.tup (xs.map f)) (n + 1) :=
  ⟨fun xs => (kd_all k).1 xs, fun xs => by have := (kd_all k).2.1 xs; simp only [D.py, PyData.depth]; omega, fun xs ys => by simp only [D.py, PyData.eqv]; exact (kd_all k).2.2 xs ys⟩
theorem kd_pr : Kd prE 2 := ⟨fun _ => rfl, fun _ => by simp [prE, D.py, D.pyL, PyData.depth, PyData.depthAll], fun a b => by
  obtain ⟨a1, a2⟩ := a
  obtain ⟨b1, b2⟩ := b
  simp [prE, D.py, D.pyL, PyData.eqv, PyData.eqvAll]⟩
theorem eqD_pr (a b : Pr) : eqD (prE a) (prE b) = some (decide (a = b)) := kd_pr.eq (by decide) a b
theorem eqD_prL (a b : List Pr) : eqD (.lst (a.map prE)) (.lst (b.map prE)) = some (decide (a = b)) := (kd_lst kd_pr).eq (by decide) a b
theorem eqD_prT (a b : List Pr) : eqD (.tup (a.map prE)) (.tup (b.map prE)) = some (decide (a = b)) := (kd_tup kd_pr).eq (by decide) a b
theorem eqD_intL (a b : List Int) : eqD (.lst (a.map .int)) (.lst (b.map .int)) = some (decide (a = b)) := (kd_lst kd_int).eq (by decide) a b
section
variable {a b : Int} {xs ys : List D} {d : D} {x y : Str} {E : En} {B : Es} {r : Sl}
theorem seqK_nx : seqK B (.nx E) = B E := rfl
theorem seqK_rt : seqK B (.rt r) = some (.rt r) := rfl
theorem seqK_bk : seqK B (.bk E) = some (.bk E) := rfl
theorem seqK_ct : seqK B (.ct E) = some (.ct E) := rfl
theorem endK_nx : endK (.nx E) = some (.sh .non) := rfl
theorem endK_rt : endK (.rt r) = some r := rfl
theorem fI_ok {g : Int → Int → D} : fI g (.sh (.int a)) (.sh (.int b)) = some (.sh (g a b)) := rfl
theorem fMul_ok (h : (-18446744073709551616 < a ∧ a < 18446744073709551616) ∨ (-18446744073709551616 < b ∧ b < 18446744073709551616)) : fMul (.sh (.int a)) (.sh (.int b)) = some (.sh (.int (a * b))) := by
  show (if _ then _ else _) = _
  rw [if_pos]
  simp only [Bool.or_eq_true, small64_ok]
  exact h
theorem fMod_ok (h : 0 < b) : fMod (.sh (.int a)) (.sh (.int b)) = some (.sh (.int (a % b))) := by
  show (if _ then _ else _) = _
  rw [if_pos (by simpa using h)]
theorem fDiv_ok (h : 0 < b ∧ b < 1073741824) : fDiv (.sh (.int a)) (.sh (.int b)) = some (.sh (.int (a / b))) := by
  show (if _ then _ else _) = _
  rw [if_pos (smallP_ok.mpr h)]
theorem fPow_ok (h : 0 ≤ b ∧ b ≤ 1000000 ∧ -1000 < a ∧ a < 1000) : fPow (.sh (.int a)) (.sh (.int b)) = some (.sh (.int (a ^ b.toNat))) := by
  show (if _ then _ else _) = _
  rw [if_pos]
  simp only [Bool.and_eq_true, decide_eq_true_eq, Nat.ble_eq, small64_ok]
  omega
theorem fAdd_ii : fAdd (.sh (.int a)) (.sh (.int b)) = some (.sh (.int (a + b))) := rfl
theorem fAdd_ss (h : x.length + y.length ≤ 16777216) : fAdd (.sh (.str x)) (.sh (.str y)) = some (.sh (.str (x ++ y))) := if_pos h
theorem cat_ok {p q : Sl} (h1 : p.m = some xs) (h2 : q.m = some ys) (h : xs.length + ys.length ≤ 16777216) : fCat p q = some (.own (xs ++ ys)) := by
  unfold fCat
  rw [h1, h2]
  exact if_pos h
theorem fAdd_oo (h : xs.length + ys.length ≤ 16777216) : fAdd (.own xs) (.own ys) = some (.own (xs ++ ys)) := cat_ok rfl rfl h
theorem fAdd_ob (h : xs.length + ys.length ≤ 16777216) : fAdd (.own xs) (.bo ys) = some (.own (xs ++ ys)) := cat_ok rfl rfl h
theorem fAdd_bo (h : xs.length + ys.length ≤ 16777216) : fAdd (.bo xs) (.own ys) = some (.own (xs ++ ys)) := cat_ok rfl rfl h
theorem fAdd_bb (h : xs.length + ys.length ≤ 16777216) : fAdd (.bo xs) (.bo ys) = some (.own (xs ++ ys)) := cat_ok rfl rfl h
theorem fAdd_os (h : xs.length + ys.length ≤ 16777216) : fAdd (.own xs) (.sh (.lst ys)) = some (.own (xs ++ ys)) := cat_ok rfl rfl h
theorem fAdd_so (h : xs.length + ys.length ≤ 16777216) : fAdd (.sh (.lst xs)) (.own ys) = some (.own (xs ++ ys)) := cat_ok rfl rfl h
theorem fAdd_lb (h : xs.length + ys.length ≤ 16777216) : fAdd (.sh (.lst xs)) (.bo ys) = some (.own (xs ++ ys)) := cat_ok rfl rfl h
theorem fAdd_bs (h : xs.length + ys.length ≤ 16777216) : fAdd (.bo xs) (.sh (.lst ys)) = some (.own (xs ++ ys)) := cat_ok rfl rfl h
theorem fAdd_ll (h : xs.length + ys.length ≤ 16777216) : fAdd (.sh (.lst xs)) (.sh (.lst ys)) = some (.own (xs ++ ys)) := cat_ok rfl rfl h
theorem fLen_s (h : x.length ≤ 16777216) : fLen [.sh (.str x)] = some (.sh (.int x.length)) := if_pos h
theorem fLen_l : fLen [.sh (.lst xs)] = some (.sh (.int xs.length)) := rfl
theorem fLen_f : fLen [.sh (.fz xs)] = some (.sh (.int xs.length)) := rfl
theorem fLen_t : fLen [.sh (.tup xs)] = some (.sh (.int xs.length)) := rfl
theorem fLen_b : fLen [.bo xs] = some (.sh (.int xs.length)) := rfl
theorem fLen_o : fLen [.own xs] = some (.sh (.int xs.length)) := rfl
theorem fIx_l : fIx (.sh (.lst xs)) (.sh (.int a)) = (atI xs a).map .sh := rfl
theorem fIx_f : fIx (.sh (.fz xs)) (.sh (.int a)) = (atI xs a).map .sh := rfl
theorem fIx_t : fIx (.sh (.tup xs)) (.sh (.int a)) = (atI xs a).map .sh := rfl
theorem fIx_b : fIx (.bo xs) (.sh (.int a)) = (atI xs a).map .sh := rfl
theorem fIx_o : fIx (.own xs) (.sh (.int a)) = (atI xs a).map .sh := rfl
theorem eqA_ii : eqA (.int a) (.int b) = some (decide (a = b)) := rfl
theorem eqA_ss : eqA (.str x) (.str y) = some (decide (x = y)) := rfl
theorem eqA_bb {p q : Bool} : eqA (.bl p) (.bl q) = some (decide (p = q)) := rfl
theorem eqA_pp (p q : Pr) : eqA (prE p) (prE q) = some (decide (p = q)) := eqD_pr p q
theorem eqA_PP (p q : List Pr) : eqA (.lst (p.map prE)) (.lst (q.map prE)) = some (decide (p = q)) := eqD_prL p q
theorem eqA_TT (p q : List Pr) : eqA (.tup (p.map prE)) (.tup (q.map prE)) = some (decide (p = q)) := eqD_prT p q
theorem eqA_II (p q : List Int) : eqA (.lst (p.map .int)) (.lst (q.map .int)) = some (decide (p = q)) := eqD_intL p q
theorem in62_t (h : -4611686018427387904 < a ∧ a < 4611686018427387904) : in62 a = true := by
  unfold in62
  rw [Nat.ble_eq]
  omega
theorem in60_t (h : -1152921504606846976 < a ∧ a < 1152921504606846976) : in60 a = true := in60_ok.mpr h
theorem smallP_t (h : 0 < a ∧ a < 1073741824) : smallP a = true := smallP_ok.mpr h
theorem fSum_ok {s : Sl} {ns : List Int} (e : s.q = some (ns.map .int)) : fSum [s] = some (.sh (.int ns.sum)) := by
  show (s.q.bind _) = _
  rw [e, Option.bind_some, ints_map]; rfl
theorem Pt_nm {i : Nat} : (Pt.nm i).bind d E = if i < E.length then some (E.set i (.sh d)) else none := by rw [Pt.bind]
theorem Pt_tp {l : Pts} : (Pt.tp l).bind (.tup xs) E = l.bind xs E := by rw [Pt.bind]
theorem Pts_nil : Pts.nil.bind [] E = some E := by rw [Pts.bind]
theorem Pts_cons {q : Pt} {l : Pts} : (Pts.cons q l).bind (d :: xs) E = (q.bind d E).bind fun E' => l.bind xs E' := by rw [Pts.bind]
theorem cst0 : ((0 : Nat) : Int) = 0 := rfl
theorem cst1 : ((1 : Nat) : Int) = 1 := rfl
theorem cst2 : ((2 : Nat) : Int) = 2 := rfl
theorem cst3 : ((3 : Nat) : Int) = 3 := rfl
theorem cst4 : ((4 : Nat) : Int) = 4 := rfl
theorem isNon_non : D.isNon .non = true := rfl
theorem isNon_int : D.isNon (.int a) = false := rfl
theorem isNon_bl {k : Bool} : D.isNon (.bl k) = false := rfl
theorem isNon_str : D.isNon (.str x) = false := rfl
theorem isNon_tup : D.isNon (.tup xs) = false := rfl
theorem isNon_lst : D.isNon (.lst xs) = false := rfl
theorem isNon_fz : D.isNon (.fz xs) = false := rfl
theorem isNon_row : D.isNon (.row xs) = false := rfl
theorem kit_ii : kitB "int" "int" = true := by decide
theorem kit_ib' : kitB "int" "bool" = false := by decide
theorem kit_bb : kitB "bool" "bool" = true := by decide
theorem kit_tt : kitB "tuple" "tuple" = true := by decide
theorem kit_ll : kitB "list" "list" = true := by decide
theorem kit_ss : kitB "str" "str" = true := by decide
end
end LE

namespace HT
open PySem PySem.Spec PyProof.Rows
section
variable {prog : Program} {w : World} {A : Around} {E : Value → Shared → Prop} {s : Shared}
theorem getItem_tuple_all {t sl : Addr} {items : Array Value} {vl vu : Value} {lo hi : Option Int} {Q : Value → Shared → Prop} (ht : IsTup s.heap t items) (hs : s.heap.IsSliceOf sl vl vu .none) (pl : IsPart vl lo) (pu : IsPart vu hi)
    (hw : sIx items.size 0 lo = 0 ∧ sIx items.size items.size hi = items.size) (h : Q (.ref t) s) : wpAny (model prog w) A (getItem (.ref t) (.ref sl)) Q E s := by
  obtain ⟨os, hos, hcs, hds⟩ := id hs
  have hTs : s.TypeIs (.ref sl) "slice" := ⟨os, hos, hcs⟩
  unfold getItem
  try with_reducible refine wpAny_holding ?_
  first | refine wpAny_bind (wpAny_pure ?_) | skip
  refine wpAny_bind (wpAny_sequenceKey ht.typeIs (by decide) ?_)
  refine wpAny_bind (wpAny_callSpecial?_slot (name := Str.ofString "__getitem__") ht.typeIs PyProof.Rows.slot_tuple_getitem
    (wpAny_call_entry PyProof.Rows.slot_tuple_getitem ht.typeIs entry_tuple_getitem ?_ (args_tuple_getitem _ _)))
  show wpAny _ _ (Builtin.Tuple.tupleItemsOf (.ref t) >>= _) _ _ s
  refine wpAny_bind (tupleItemsOf_ ht ?_)
  refine wpAny_bind (wpAny_typeOf hTs ?_)
  rw [if_pos (by decide)]
  refine wpAny_bind (sliceApplied_gen hs pl pu ?_)
  have yes : (((sIx items.size 0 lo : Nat) : Int) == 0 && (1 : Int) == 1 && (sIx items.size items.size hi - sIx items.size 0 lo) == items.size) = true := by
    rw [hw.1, hw.2]; simp
  show wpAny _ _ (if (((sIx items.size 0 lo : Nat) : Int) == 0 && (1 : Int) == 1 && (sIx items.size items.size hi - sIx items.size 0 lo) == items.size) = true then _ else _) _ _ s
  rw [if_pos yes]
  unfold Builtin.Tuple.tupleIsExact
  refine wpAny_bind (wpAny_bind (wpAny_typeOf ht.typeIs (wpAny_pure ?_)))
  rw [if_pos (by decide)]
  refine wpAny_bind (wpAny_rule ?_)
  exact wpAny_pure ⟨_, rfl, wpAny_pure h⟩
end
end HT
namespace L2
open PySem PySem.Spec PyProof.Rows
section
variable {X : Cx} {K : PySem.W.Frag}
def rSlW (K : PySem.W.Frag) : V → Option Int → Option Int → Hp → VK → Prop := fun x lo hi H Q => ∃ a xs, x = .ref a ∧ SqT K H a xs ∧ (HT.sIx xs.length 0 lo = 0 ∧ HT.sIx xs.length xs.length hi = xs.length) ∧ Q (.ref a) H
theorem sl_whole : SlR X (rSlW X.K) := by
  intro pins s σ H x v vl vu lo hi sl Q I rx hs pl pu h
  obtain ⟨a, xs, rfl, hx, hw, q⟩ := h
  cases rx
  obtain ⟨its, r, ht, hz⟩ := I.tuple hx
  have hlen : its.toArray.size = xs.length := by rw [List.size_toArray]; exact r.length.symm
  refine ⟨"tuple", _, PyProof.Rows.slot_tuple_getitem.lookup, ht.typeIs, ?_⟩
  exact HT.getItem_tuple_all ht hs pl pu (by rw [hlen]; exact hw) ⟨.ref a, H, I, rfl, q⟩
def rSlA (K : PySem.W.Frag) : V → Option Int → Option Int → Hp → VK → Prop := fun x lo hi H Q => rSlL K x lo hi H Q ∨ rSlT K x lo hi H Q ∨ rSlW K x lo hi H Q
theorem sl_allK (hK : X.K = K) : SlR X (rSlA K) := by
  subst hK
  exact sl_list.or (sl_tup.or sl_whole)
end
end L2
namespace LE
open PySem L2 LR
noncomputable def cutD {α : Type} (xs : List α) (lo hi : Option Int) : List α := (xs.drop (HT.sIx xs.length 0 lo)).take (HT.sIx xs.length xs.length hi - HT.sIx xs.length 0 lo)
noncomputable def fSl (s : Sl) (lo hi : Option Int) : Option Sl := match s with
  | .sh (.tup ds) => some (.sh (.tup (cutD ds lo hi)))
  | s => s.r.map fun ds => .own (cutD ds lo hi)
noncomputable def ePart (o : Option Ev) : En → Option (Option Int) := fun E => match o with
  | none => some none
  | some a => (a E).bind fun s => match s with
    | .sh (.int i) => some (some i)
    | _ => none
noncomputable def eSl (a : Ev) (lo hi : Option Ev) : Ev := fun E => (a E).bind fun s => (ePart lo E).bind fun l => (ePart hi E).bind fun h => fSl s l h
section
variable {K : PySem.W.Frag} {C : Addr} {te : TE} {ea : Ev} {tl th : TO} {el eh : Option Ev}
noncomputable def SP' (K : PySem.W.Frag) (C : Addr) (t : TO) (ev : En → Option (Option Int)) : Prop := ∀ (B H0 H : Hp) (σ : St) (E : En) (r : Option Int) (Q : Option Int → Hp → Prop), EnvR K C B H0 H σ E → ev E = some r →
  (∀ H0' H', Step H H0 H H0' H' → Q r H') → t σ H Q
theorem p_none : SP' K C tNoPart (ePart none) := fun _ _ _ _ _ _ _ I e q => by cases e; exact q _ _ (.refl I.h)
theorem p_some (ha : SE K C te ea) : SP' K C (tPart te) (ePart (some ea)) := by
  intro B H0 H σ E r Q I e q
  obtain ⟨s, e1, e⟩ := bind_some e
  split at e
  · cases e
    exact ha B H0 H σ E _ _ I e1 fun x H1 H1' s1 r1 => ⟨_, RD.intI r1, q _ _ s1⟩
  · cases e
theorem RDL.cut {H : Hp} {xs : List V} {ds : List D} {lo hi : Option Int} (r : RDL K C H xs ds) : RDL K C H (cutV xs lo hi) (cutD ds lo hi) := by
  unfold cutV cutD
  rw [r.1]
  exact (r.drop _).take _
theorem s_sl (ha : SE K C te ea) (hl : SP' K C tl (ePart el)) (hh : SP' K C th (ePart eh)) : SE K C (tSl (rSlA K) te tl th) (eSl ea el eh) := by
  intro B H0 H σ E c Q I e q
  obtain ⟨s, e1, e⟩ := bind_some e
  obtain ⟨l, e2, e⟩ := bind_some e
  obtain ⟨h, e3, e⟩ := bind_some e
  refine ha B H0 H σ E _ _ I e1 fun x H1 H1' s1 r1 => hl B H1 H1' σ E l _ (I.step s1) e2 fun H2 H2' s2 => hh B H2 H2' σ E h _ (I.step (s1.trans s2)) e3 fun H3 H3' s3 => ?_
  have s13 := (s1.trans s2).trans s3
  have r3 := (r1.step s2).step s3
  have lst : ∀ {ds : List D}, s.r = some ds → c = .own (cutD ds l h) → rSlA K x l h H3' Q := fun {ds} er ec => by
    subst ec
    obtain ⟨a, xs, rfl, hq, r⟩ := r3.r s13.i er
    exact .inl ⟨a, xs, rfl, hq, fun p hp => own_new s13.i s13.h hp r.cut fun v H4 H4' s4 r4 => q v H4 H4' (s13.comp s4 fun _ z => z) r4⟩
  unfold fSl at e
  split at e
  · cases e
    obtain ⟨a, xs, rfl, hq, r⟩ := RD.tupI r3
    by_cases hw : HT.sIx xs.length 0 l = 0 ∧ HT.sIx xs.length xs.length h = xs.length
    · refine .inr (.inr ⟨a, xs, rfl, s13.i.seqT hq, hw, q _ _ _ s13 ?_⟩)
      have e5 : cutV xs l h = xs := by unfold cutV; rw [hw.1, hw.2]; simp
      have r5 := r.cut (lo := l) (hi := h)
      rw [e5] at r5
      exact RD.mkT hq r5
    · exact .inr (.inl ⟨a, xs, rfl, s13.i.seqT hq, hw, fun p hp => tup_new s13.i s13.h hp r.cut fun v H4 H4' s4 r4 => q v H4 H4' (s13.comp s4 fun _ z => z) r4⟩)
  · obtain ⟨ds, e4, e5⟩ := map_some e
    exact lst e4 e5.symm
end
end LE

namespace PySem
section
variable {prog : Program} {w : World} {A : Around}
theorem Draws.tup (hh : A.handled = none) (j a : Addr) (ne : a ≠ j) (xs : Array Value) : Draws prog w A j [j, a] xs.size (fun i v => xs[i]? = some v) (fun i h => h.IsTupleIter j a i ∧ h.IsTuple a xs) where
  live := fun _ _ q => let ⟨o, ho, _⟩ := q.1; ⟨o, ho⟩
  frame := fun _ _ _ q k => ⟨q.1.at fun o e => k j (by simp) o e, q.2.at fun o e => k a (by simp) o e⟩
  item := fun i s Q E hi q hQ => by
    obtain ⟨o, ho, hc, hd⟩ := id q.1
    obtain ⟨ol, hol, _, nl, hdl⟩ := id q.2
    have hx : xs[i]? = some xs[i] := by simp [hi]
    unfold Builtin.SmallTypes.nextOf
    refine wpAny_bind (wpAny_callSpecial?_slot (name := Str.ofString "__next__") q.1.typeIs F.slot_tuple_iterator_next (wpAny_call_entry F.slot_tuple_iterator_next q.1.typeIs F.entry_tuple_iterator_next ?_ (F.args_tuple_iterator_next_1 _)))
    show wpAny _ _ (field (.ref j) 0 >>= _) _ _ s
    refine wpAny_bind (wpAny_field ho hd (x := .ref a) rfl ?_)
    show wpAny _ _ (if (Value.ref a == Value.none) = true then _ else _) _ _ s
    rw [if_neg (show ¬ ((Value.ref a == Value.none) = true) from Bool.false_ne_true)]
    show wpAny _ _ (field (.ref j) 1 >>= _) _ _ s
    refine wpAny_bind (wpAny_field ho hd (x := .int i 0) rfl (show wpAny _ _ (seqItems? (.ref a) >>= _) _ _ s from wpAny_bind (wpAny_seqItems hol hdl ?_)))
    simp only [Int.toNat_natCast, hx]
    refine wpAny_bind (wpAny_setField ho hd (by simp) (wpAny_pure ⟨xs[i], rfl, wpAny_pure (hQ _ _ s.toks hx ⟨⟨_, Heap.get?_update_self _ ho (Obj.isFreed_of_fields (Obj.data_mapFields hd _)), (Obj.cls_mapFields ..).trans hc, ?_⟩, q.2.extBut (Heap.SameBut.update ..).extBut ne⟩ (Heap.SameBut.update ..))⟩))
    rw [Obj.data_mapFields hd]; simp [rawInt]
  done := fun s Q E q hE => by
    obtain ⟨o, ho, hc, hd⟩ := id q.1
    obtain ⟨ol, hol, _, nl, hdl⟩ := id q.2
    have hx : xs[xs.size]? = none := by simp
    unfold Builtin.SmallTypes.nextOf
    refine wpAny_bind (wpAny_callSpecial?_slot (name := Str.ofString "__next__") q.1.typeIs F.slot_tuple_iterator_next (wpAny_call_entry F.slot_tuple_iterator_next q.1.typeIs F.entry_tuple_iterator_next ?_ (F.args_tuple_iterator_next_1 _)))
    show wpAny _ _ (field (.ref j) 0 >>= _) _ _ s
    refine wpAny_bind (wpAny_field ho hd (x := .ref a) rfl ?_)
    show wpAny _ _ (if (Value.ref a == Value.none) = true then _ else _) _ _ s
    rw [if_neg (show ¬ ((Value.ref a == Value.none) = true) from Bool.false_ne_true)]
    show wpAny _ _ (field (.ref j) 1 >>= _) _ _ s
    refine wpAny_bind (wpAny_field ho hd (x := .int xs.size 0) rfl (show wpAny _ _ (seqItems? (.ref a) >>= _) _ _ s from wpAny_bind (wpAny_seqItems hol hdl ?_)))
    simp only [Int.toNat_natCast, hx]
    refine wpAny_bind (wpAny_rule (wpAny_bind (wpAny_setField ho hd (by simp) (show wpAny _ _ (newExc (.type "StopIteration") [] >>= _) _ _ _ from wpAny_bind ?_))))
    simp only [newExc, newTuple]
    refine wpAny_bind (wpAny_newObj_type (wpAny_bind (m := firstArgMember _ _) (wpAny_of_eq (a := Value.none) (by first | rfl | (simp only [firstArgMember]; rfl)) (wpAny_newObj_type ?_ (by size_fits)))) (by size_fits))
    simp only [raiseNew]
    refine wpAny_bind (wpAny_handled ?_)
    first | rw [show A.in1.handled = none from hh] | rw [hh]
    refine wpAny_bind (wpAny_pure (wpAny_throw ?_))
    exact hE _ _ (((Heap.SameBut.update ..).extBut.push _).push _) ⟨_, Heap.get?_push_size _ rfl, rfl⟩
end

structure ZA (z TI TO i1 i2 : Addr) (p1 p2 : List Addr) : Prop where
  a1 : TI ≠ z
  a2 : TO ≠ z
  a3 : TI ≠ TO
  m1 : i1 ∈ p1
  m2 : i2 ∈ p2
  z1 : z ∉ p1
  z2 : z ∉ p2
  t1 : TI ∉ p1
  t2 : TI ∉ p2
  o1 : TO ∉ p1
  o2 : TO ∉ p2
  x1 : i1 ∉ p2
  x2 : i2 ∉ p1
section
variable {prog : Program} {w : World} {A : Around} {E : Value → Shared → Prop} {s : Shared} {z TI TO i1 i2 : Addr} {p1 p2 : List Addr} {n1 n2 k : Nat} {P1 P2 : Nat → Value → Prop} {S1 S2 : Nat → Heap → Prop}
theorem zip_itemD {a b : Value} {Q : Value → Shared → Prop} (D : ZA z TI TO i1 i2 p1 p2) (D1 : Draws prog w A i1 p1 n1 P1 S1) (D2 : Draws prog w A i2 p2 n2 P2 S2) (gz : IsZip s.heap z TI TO .none) (gI : IsPair s.heap TI (.ref i1) (.ref i2)) (gO : IsPair s.heap TO a b)
    (st1 : S1 k s.heap) (st2 : S2 k s.heap) (l1 : k < n1) (l2 : k < n2)
    (hQ : ∀ x y h' tk, P1 k x → P2 k y → IsZip h' z TI TO (rawInt s.heap.objs.size) → IsPair h' TI (.ref i1) (.ref i2) → IsPair h' TO x y → S1 (k + 1) h' → S2 (k + 1) h' → IsPair h' s.heap.objs.size x y → h'.objs.size = s.heap.objs.size + 1 →
      (∀ c o, c ≠ z → c ≠ TO → c ≠ i1 → c ≠ i2 → s.heap.get? c = some o → h'.get? c = some o) → Q (.ref s.heap.objs.size) { s with heap := h', toks := tk }) :
    wpAny (model prog w) A (Builtin.«zip.__next__» ⟨[.ref z], []⟩) (fun fin s' => ∃ v, fin = .done (.ret v) ∧ Q v s') E s := by
  obtain ⟨hp, g, d, t0, os⟩ := s
  have zi1 : i1 ≠ z := fun q => D.z1 (q ▸ D.m1)
  have zi2 : i2 ≠ z := fun q => D.z2 (q ▸ D.m2)
  have oi1 : i1 ≠ TO := fun q => D.o1 (q ▸ D.m1)
  have oi2 : i2 ≠ TO := fun q => D.o2 (q ▸ D.m2)
  have ii1 : i1 ≠ TI := fun q => D.t1 (q ▸ D.m1)
  have ii2 : i2 ≠ TI := fun q => D.t2 (q ▸ D.m2)
  have i12 : i1 ≠ i2 := fun q => D.x1 (q ▸ D.m2)
  show wpAny _ _ (field (.ref z) 2 >>= _) _ _ _
  refine wpAny_bind (wpAny_field gz rfl (x := .bool false) rfl (show wpAny _ _ (field (.ref z) 3 >>= _) _ _ _ from wpAny_bind (wpAny_field gz rfl (x := .ref TI) rfl (wpAny_bind (wpAny_seqItems gI rfl ?_)))))
  show wpAny _ _ (Builtin.SmallTypes.ownedTupleIsFree (.ref z) >>= _) _ _ _
  refine wpAny_bind ?_
  unfold Builtin.SmallTypes.ownedTupleIsFree
  refine wpAny_bind (wpAny_field gz rfl (x := .none) rfl (wpAny_pure ?_))
  simp only [if_true]
  refine wpAny_bind (wpAny_rule (wpAny_bind (wpAny_field gz rfl (x := .ref TO) rfl (wpAny_bind (wpAny_setField_rec gz (by simp) fun k1 y1 e1 => ?_)))))
  replace y1 : IsZip k1 z TI TO .ellipsis := y1
  replace e1 : Heap.SameBut z hp k1 := e1
  refine wpAny_bind ?_
  simp only [List.zipIdx_cons, List.zipIdx_nil, List.forIn_cons, List.forIn_nil]
  refine wpAny_bind (wpAny_bind (wpAny_onRaise (show wpAny _ _ (Builtin.SmallTypes.nextOf (.ref i1) >>= _) _ _ _ from wpAny_bind (D1.item k _ _ _ l1 (D1.frame _ _ _ st1 fun b hb o q => e1.extBut b o (fun r => D.z1 (r ▸ hb)) q) fun x k2 t2 px s2 e2 => wpAny_pure ?_))))
  replace e2 : Heap.SameBut i1 k1 k2 := e2
  have O2 : IsPair k2 TO a b := e2.extBut _ _ (Ne.symm oi1) (e1.extBut _ _ D.a2 gO)
  refine wpAny_bind (wpAny_seqItems (s := ⟨k2, g, d, t2, os⟩) O2 rfl (wpAny_bind (wpAny_updateSeq_pair (s := ⟨k2, g, d, t2, os⟩) O2 fun k3 O3 e3 => ?_)))
  replace O3 : IsPair k3 TO x b := O3
  replace e3 : Heap.SameBut TO k2 k3 := e3
  refine wpAny_bind (wpAny_letGo (wpAny_pure ?_))
  have st2' : S2 k k3 := D2.frame _ _ _ st2 fun b hb o q => e3.extBut b o (fun r => D.o2 (r ▸ hb)) (e2.extBut b o (fun r => D.x1 (r ▸ hb)) (e1.extBut b o (fun r => D.z2 (r ▸ hb)) q))
  refine wpAny_bind (wpAny_bind (wpAny_onRaise (show wpAny _ _ (Builtin.SmallTypes.nextOf (.ref i2) >>= _) _ _ _ from wpAny_bind (D2.item k _ _ _ l2 st2' fun y k4 t4 py s4 e4 => wpAny_pure ?_))))
  replace e4 : Heap.SameBut i2 k3 k4 := e4
  have O4 : IsPair k4 TO x b := e4.extBut _ _ (Ne.symm oi2) O3
  refine wpAny_bind (wpAny_seqItems (s := ⟨k4, g, d, t4, os⟩) O4 rfl (wpAny_bind (wpAny_updateSeq_pair (s := ⟨k4, g, d, t4, os⟩) O4 fun k5 O5 e5 => ?_)))
  replace O5 : IsPair k5 TO x y := O5
  replace e5 : Heap.SameBut TO k4 k5 := e5
  refine wpAny_bind (wpAny_letGo (wpAny_pure (wpAny_pure (wpAny_bind (wpAny_seqItems (s := ⟨k5, g, d, t4, os⟩) O5 rfl (wpAny_bind (wpAny_newTuple ?_)))))))
  have hsz : k5.objs.size = hp.objs.size := by rw [e5.1, e4.1, e3.1, e2.1, e1.1]
  have Z5 : IsZip k5 z TI TO .ellipsis := e5.extBut _ _ (Ne.symm D.a2) (e4.extBut _ _ (Ne.symm zi2) (e3.extBut _ _ (Ne.symm D.a2) (e2.extBut _ _ (Ne.symm zi1) y1)))
  have keep5 : ∀ c o, c ≠ z → c ≠ TO → c ≠ i1 → c ≠ i2 → hp.get? c = some o → k5.get? c = some o := fun c o c1 c2 c3 c4 q => e5.extBut _ _ c2 (e4.extBut _ _ c4 (e3.extBut _ _ c2 (e2.extBut _ _ c3 (e1.extBut _ _ c1 q))))
  have T1 : S1 (k + 1) k5 := D1.frame _ _ _ s2 fun b hb o q => e5.extBut b o (fun r => D.o1 (r ▸ hb)) (e4.extBut b o (fun r => D.x2 (r ▸ hb)) (e3.extBut b o (fun r => D.o1 (r ▸ hb)) q))
  have T2 : S2 (k + 1) k5 := D2.frame _ _ _ s4 fun b hb o q => e5.extBut b o (fun r => D.o2 (r ▸ hb)) q
  have zlt : z < k5.objs.size := Heap.lt_size Z5
  show wpAny _ _ (Builtin.SmallTypes.ownedTupleHandOut (.ref z) (.ref k5.objs.size) >>= _) _ _ _
  refine wpAny_bind ?_
  unfold Builtin.SmallTypes.ownedTupleHandOut
  have Z6 : IsZip (k5.push { cls := .type "tuple", data := .seq #[x, y] }) z TI TO .ellipsis := Heap.get?_push_of_some _ Z5
  refine wpAny_bind (wpAny_setField_rec Z6 (by simp) fun k7 Z7 e7 => ?_)
  replace Z7 : IsZip k7 z TI TO (rawInt k5.objs.size) := Z7
  replace e7 : Heap.SameBut z (k5.push { cls := .type "tuple", data := .seq #[x, y] }) k7 := e7
  refine wpAny_setField_rec Z7 (by simp) fun k8 Z8 e8 => ?_
  replace Z8 : IsZip k8 z TI TO (rawInt k5.objs.size) := Z8
  replace e8 : Heap.SameBut z k7 k8 := e8
  have up : ∀ c o, c ≠ z → k5.get? c = some o → k8.get? c = some o := fun c o c1 q => e8.extBut _ _ c1 (e7.extBut _ _ c1 (Heap.get?_push_of_some _ q))
  have N8 : IsPair k8 k5.objs.size x y := e8.extBut _ _ (Nat.ne_of_gt zlt) (e7.extBut _ _ (Nat.ne_of_gt zlt) (Heap.get?_push_size _ rfl))
  have z8 : k8.objs.size = k5.objs.size + 1 := by rw [e8.1, e7.1, Heap.size_push]
  rw [hsz] at Z8 N8 z8
  refine wpAny_pure ⟨_, rfl, ?_⟩
  show Q (.ref k5.objs.size) _
  rw [hsz]
  refine hQ x y k8 t4 px py Z8 (up _ _ D.a1 (keep5 _ _ D.a1 D.a3 (Ne.symm ii1) (Ne.symm ii2) gI)) (up _ _ D.a2 O5) ?_ ?_ N8 z8 fun c o c1 c2 c3 c4 q => up c o c1 (keep5 c o c1 c2 c3 c4 q)
  · exact D1.frame _ _ _ T1 fun b hb o q => up b o (fun r => D.z1 (r ▸ hb)) q
  · exact D2.frame _ _ _ T2 fun b hb o q => up b o (fun r => D.z2 (r ▸ hb)) q
theorem zip_endD {a b : Value} {Q : Fin → Shared → Prop} (D : ZA z TI TO i1 i2 p1 p2) (D1 : Draws prog w A i1 p1 n1 P1 S1) (D2 : Draws prog w A i2 p2 n2 P2 S2) (gz : IsZip s.heap z TI TO .none) (gI : IsPair s.heap TI (.ref i1) (.ref i2)) (gO : IsPair s.heap TO a b)
    (st1 : S1 k s.heap) (st2 : S2 k s.heap) (hend : k = n1 ∨ (k < n1 ∧ k = n2))
    (hE : ∀ h' e tk, (∀ c o, c ≠ z → c ≠ TO → c ≠ i1 → c ≠ i2 → s.heap.get? c = some o → h'.get? c = some o) → (∃ o, h'.get? e = some o ∧ o.cls = .type "StopIteration") → E (.ref e) { s with heap := h', toks := tk }) :
    wpAny (model prog w) A (Builtin.«zip.__next__» ⟨[.ref z], []⟩) Q E s := by
  obtain ⟨hp, g, d, t0, os⟩ := s
  have zi1 : i1 ≠ z := fun q => D.z1 (q ▸ D.m1)
  have zi2 : i2 ≠ z := fun q => D.z2 (q ▸ D.m2)
  have oi1 : i1 ≠ TO := fun q => D.o1 (q ▸ D.m1)
  show wpAny _ _ (field (.ref z) 2 >>= _) _ _ _
  refine wpAny_bind (wpAny_field gz rfl (x := .bool false) rfl (show wpAny _ _ (field (.ref z) 3 >>= _) _ _ _ from wpAny_bind (wpAny_field gz rfl (x := .ref TI) rfl (wpAny_bind (wpAny_seqItems gI rfl ?_)))))
  show wpAny _ _ (Builtin.SmallTypes.ownedTupleIsFree (.ref z) >>= _) _ _ _
  refine wpAny_bind ?_
  unfold Builtin.SmallTypes.ownedTupleIsFree
  refine wpAny_bind (wpAny_field gz rfl (x := .none) rfl (wpAny_pure ?_))
  simp only [if_true]
  refine wpAny_bind (wpAny_rule (wpAny_bind (wpAny_field gz rfl (x := .ref TO) rfl (wpAny_bind (wpAny_setField_rec gz (by simp) fun k1 y1 e1 => ?_)))))
  replace y1 : IsZip k1 z TI TO .ellipsis := y1
  replace e1 : Heap.SameBut z hp k1 := e1
  refine wpAny_bind ?_
  simp only [List.zipIdx_cons, List.zipIdx_nil, List.forIn_cons, List.forIn_nil]
  refine wpAny_bind (wpAny_bind (wpAny_onRaise (show wpAny _ _ (Builtin.SmallTypes.nextOf (.ref i1) >>= _) _ _ _ from wpAny_bind ?_)))
  have q1 : S1 k k1 := D1.frame _ _ _ st1 fun b hb o q => e1.extBut b o (fun r => D.z1 (r ▸ hb)) q
  rcases hend with rfl | ⟨l1, rfl⟩
  · refine D1.done _ _ _ q1 fun k2 e e2 he => ?_
    replace e2 : Heap.ExtBut i1 k1 k2 := e2
    obtain ⟨oe, hoe, hce⟩ := he
    have Z2 : IsZip k2 z TI TO .ellipsis := e2 _ _ (Ne.symm zi1) y1
    have ez : e ≠ z := fun q => by subst q; rw [Z2] at hoe; cases hoe; simp at hce
    exact wpAny_setField_rec Z2 (by simp) fun k3 _ e3 => hE k3 e t0 (fun c o c1 _ c3 _ q => e3.extBut _ _ c1 (e2 _ _ c3 (e1.extBut _ _ c1 q))) ⟨oe, e3.extBut _ _ ez hoe, hce⟩
  · refine D1.item k _ _ _ l1 q1 fun x k2 t2 px s2 e2 => wpAny_pure ?_
    replace e2 : Heap.SameBut i1 k1 k2 := e2
    have O2 : IsPair k2 TO a b := e2.extBut _ _ (Ne.symm oi1) (e1.extBut _ _ D.a2 gO)
    refine wpAny_bind (wpAny_seqItems (s := ⟨k2, g, d, t2, os⟩) O2 rfl (wpAny_bind (wpAny_updateSeq_pair (s := ⟨k2, g, d, t2, os⟩) O2 fun k3 O3 e3 => ?_)))
    replace e3 : Heap.SameBut TO k2 k3 := e3
    refine wpAny_bind (wpAny_letGo (wpAny_pure ?_))
    have st2' : S2 k k3 := D2.frame _ _ _ st2 fun b hb o q => e3.extBut b o (fun r => D.o2 (r ▸ hb)) (e2.extBut b o (fun r => D.x1 (r ▸ hb)) (e1.extBut b o (fun r => D.z2 (r ▸ hb)) q))
    refine wpAny_bind (wpAny_bind (wpAny_onRaise (show wpAny _ _ (Builtin.SmallTypes.nextOf (.ref i2) >>= _) _ _ _ from wpAny_bind (D2.done _ _ _ st2' fun k4 e e4 he => ?_))))
    replace e4 : Heap.ExtBut i2 k3 k4 := e4
    obtain ⟨oe, hoe, hce⟩ := he
    have Z4 : IsZip k4 z TI TO .ellipsis := e4 _ _ (Ne.symm zi2) (e3.extBut _ _ (Ne.symm D.a2) (e2.extBut _ _ (Ne.symm zi1) y1))
    have ez : e ≠ z := fun q => by subst q; rw [Z4] at hoe; cases hoe; simp at hce
    exact wpAny_setField_rec Z4 (by simp) fun k5 _ e5 => hE k5 e t2 (fun c o c1 c2 c3 c4 q => e5.extBut _ _ c1 (e4 _ _ c4 (e3.extBut _ _ c2 (e2.extBut _ _ c3 (e1.extBut _ _ c1 q))))) ⟨oe, e5.extBut _ _ ez hoe, hce⟩
end
end PySem

namespace PySem
def IsSq (b : Bool) (h : Heap) (a : Addr) (xs : Array Value) : Prop := match b with
  | true => h.IsTuple a xs
  | false => h.IsList a xs
def IsItr (b : Bool) (h : Heap) (j a : Addr) (i : Nat) : Prop := match b with
  | true => h.IsTupleIter j a i
  | false => h.IsListIter j a i
def itO (b : Bool) (a : Addr) : Obj := match b with
  | true => { cls := .type "tuple_iterator", data := .fields #[.ref a, .int 0 0] }
  | false => { cls := .type "list_iterator", data := .fields #[.ref a, .int 0 0] }
section
variable {prog : Program} {w : World} {A : Around} {E : Value → Shared → Prop} {s : Shared} {b b1 b2 : Bool} {a a1 a2 : Addr} {xs ys : Array Value}
theorem IsSq.push {h : Heap} (q : IsSq b h a xs) (o : Obj) : IsSq b (h.push o) a xs := by
  cases b with
  | true => exact Heap.IsTuple.push q o
  | false => exact Heap.IsList.push q o
theorem IsSq.lt {h : Heap} (q : IsSq b h a xs) : a < h.objs.size := by
  cases b with
  | true => obtain ⟨o, e, _⟩ := q; exact Heap.lt_size e
  | false => obtain ⟨o, e, _⟩ := q; exact Heap.lt_size e
theorem IsItr.new {h : Heap} (e : h.get? a1 = some (itO b a)) : IsItr b h a1 a 0 := by
  cases b with
  | true => exact ⟨_, e, rfl, rfl⟩
  | false => exact ⟨_, e, rfl, rfl⟩
theorem pyIter_sq {Q : Value → Shared → Prop} (q : IsSq b s.heap a xs) (h : Q (.ref s.heap.objs.size) { s with heap := s.heap.push (itO b a) }) : wpAny (model prog w) A (pyIter (.ref a)) Q E s := by
  cases b with
  | true => exact wpAny_pyIter_tuple q h
  | false => exact wpAny_pyIter_list q h
theorem Draws.sq (hh : A.handled = none) (j : Addr) (ne : a ≠ j) : Draws prog w A j [j, a] xs.size (fun i v => xs[i]? = some v) (fun i h => IsItr b h j a i ∧ IsSq b h a xs) := by
  cases b with
  | true => exact Draws.tup hh j a ne xs
  | false => exact Draws.list hh j a ne xs
abbrev zP1 (h : Heap) (b1 : Bool) (a1 : Addr) : Heap := h.push (itO b1 a1)
abbrev zP2 (h : Heap) (b1 b2 : Bool) (a1 a2 : Addr) : Heap := (zP1 h b1 a1).push (itO b2 a2)
abbrev zP3 (h : Heap) (b1 b2 : Bool) (a1 a2 : Addr) : Heap := (zP2 h b1 b2 a1 a2).push { cls := .type "tuple", data := .seq #[.ref h.objs.size, .ref (zP1 h b1 a1).objs.size] }
abbrev zP4 (h : Heap) (b1 b2 : Bool) (a1 a2 : Addr) : Heap := (zP3 h b1 b2 a1 a2).push { cls := .type "tuple", data := .seq #[.none, .none] }
abbrev zP5 (h : Heap) (b1 b2 : Bool) (a1 a2 : Addr) : Heap := (zP4 h b1 b2 a1 a2).push { cls := .type "zip", data := .fields #[.none, .bool false, .bool false, .ref (zP2 h b1 b2 a1 a2).objs.size, .ref (zP3 h b1 b2 a1 a2).objs.size] }
theorem meets_zipD (b1 b2 : Bool) (a1 a2 : Addr) (xs ys : Array Value) : Meets (Builtin.«zip.__new__» ⟨[.type "zip", .ref a1, .ref a2], []⟩) (fun _ R s => IsSq b1 s.heap a1 xs ∧ IsSq b2 s.heap a2 ys ∧
    R (.ok (.ret (.ref (zP4 s.heap b1 b2 a1 a2).objs.size))) { s with heap := zP5 s.heap b1 b2 a1 a2 }) :=
  .of_wp fun prog w A R s h => by
    obtain ⟨hp, g, d, tk, os⟩ := s; obtain ⟨q1, q2, h⟩ := h
    have hsub := sub_zip
    have r1 : IsSq b1 (Shared.heap ⟨hp, g, d, tk, os⟩) a1 xs := q1
    have r2 : IsSq b2 (Shared.heap ⟨hp.push (itO b1 a1), g, d, tk, os⟩) a2 ys := IsSq.push q2 _
    wp_walk using pyIter_sq r1, pyIter_sq r2
    exact ⟨_, rfl, h⟩
theorem call_zipD {Q : Value → Shared → Prop} (q1 : IsSq b1 s.heap a1 xs) (q2 : IsSq b2 s.heap a2 ys)
    (h : ∀ h', IsZip h' (s.heap.objs.size + 4) (s.heap.objs.size + 2) (s.heap.objs.size + 3) .none → IsPair h' (s.heap.objs.size + 2) (.ref s.heap.objs.size) (.ref (s.heap.objs.size + 1)) → IsPair h' (s.heap.objs.size + 3) .none .none →
      IsItr b1 h' s.heap.objs.size a1 0 → IsItr b2 h' (s.heap.objs.size + 1) a2 0 → (∀ c o, s.heap.get? c = some o → h'.get? c = some o) → Q (.ref (s.heap.objs.size + 4)) { s with heap := h' }) :
    wpAny (model prog w) A (call (.type "zip") [.ref a1, .ref a2]) Q E s := by
  refine callType_new F.called_zip (by decide) (F.typeCall_zip_2 _ _) (F.newCall_zip_2 _ _) (fun obj => F.args_object_init_3 obj _ _) F.entry_zip_new (meets_zipD b1 b2 a1 a2 xs ys) ⟨q1, q2, ?_⟩
  have z1 : (zP1 s.heap b1 a1).objs.size = s.heap.objs.size + 1 := Heap.size_push ..
  have z2 : (zP2 s.heap b1 b2 a1 a2).objs.size = s.heap.objs.size + 2 := by rw [Heap.size_push, z1]
  have z3 : (zP3 s.heap b1 b2 a1 a2).objs.size = s.heap.objs.size + 3 := by rw [Heap.size_push, z2]
  have z4 : (zP4 s.heap b1 b2 a1 a2).objs.size = s.heap.objs.size + 4 := by rw [Heap.size_push, z3]
  have up : ∀ {k : Heap} {c : Addr} {o u : Obj}, k.get? c = some o → (k.push u).get? c = some o := fun q => Heap.get?_push_of_some _ q
  have fi1 : (itO b1 a1).isFreed = false := by cases b1 <;> rfl
  have fi2 : (itO b2 a2).isFreed = false := by cases b2 <;> rfl
  have g5 : (zP5 s.heap b1 b2 a1 a2).get? (zP4 s.heap b1 b2 a1 a2).objs.size = some _ := Heap.get?_push_size _ rfl
  have g4 : (zP5 s.heap b1 b2 a1 a2).get? (zP3 s.heap b1 b2 a1 a2).objs.size = some _ := up (Heap.get?_push_size _ rfl)
  have g3 : (zP5 s.heap b1 b2 a1 a2).get? (zP2 s.heap b1 b2 a1 a2).objs.size = some _ := up (up (Heap.get?_push_size _ rfl))
  have g2 : (zP5 s.heap b1 b2 a1 a2).get? (zP1 s.heap b1 a1).objs.size = some _ := up (up (up (Heap.get?_push_size _ fi2)))
  have g1 : (zP5 s.heap b1 b2 a1 a2).get? s.heap.objs.size = some _ := up (up (up (up (Heap.get?_push_size _ fi1))))
  show _ ∧ _
  rw [z2, z3, z4] at g5
  rw [z1, z2] at g3
  rw [z3] at g4
  rw [z1] at g2
  rw [z4]
  exact ⟨⟨_, g5, rfl⟩, h _ g5 g3 g4 (.new g1) (.new g2) fun c o q => up (up (up (up (up q))))⟩
end
end PySem

namespace L2
open PySem PySem.Spec PyProof.Rows
section
variable {X : Cx} {pins : List (Addr × Obj)} {σ : St} {H : Hp} {s : Shared} {h' : Heap}
def Sq (b : Bool) (K : PySem.W.Frag) (H : Hp) (a : Addr) (xs : List V) : Prop := match b with
  | true => SqT K H a xs
  | false => SqL K H a xs
theorem Sq.heap {b : Bool} {a : Addr} {xs : List V} (I : Inv X pins σ H s) (q : Sq b X.K H a xs) : ∃ its : List Value, Vals xs its ∧ IsSq b s.heap a its.toArray := by
  cases b with
  | true => obtain ⟨its, r, p, _⟩ := I.tuple q; exact ⟨its, r, p⟩
  | false => obtain ⟨its, r, p, _⟩ := I.list q; exact ⟨its, r, p.isList⟩
theorem Sq.inj {b : Bool} {a : Addr} {xs ys : List V} (I : Inv X pins σ H s) (q : Sq b X.K H a xs) (q' : Sq b X.K H a ys) : xs = ys := by
  cases b with
  | true => exact I.tuple_inj q q'
  | false => exact I.list_inj q q'
theorem FpOk.off {b : Bool} {a c : Addr} {xs : List V} (I : Inv X pins σ H s) (q : Sq b X.K H a xs) (f : FpOk X pins H c) : a ≠ c := by
  intro e
  subst e
  have own : ∀ {o : HO}, H a = some o → False := fun h => by rw [f.1] at h; cases h
  have mod : ∀ {o : Obj}, X.K.lookup a = some o → False := fun {o} h => by
    have hb := I.ok.mod.kin a o h
    rcases f.2.2.2.1 with z | z
    · exact I.ok.noex a o hb z
    · exact absurd (Heap.lt_size hb) (Nat.not_lt.mpr (Nat.le_trans I.ok.bsz z))
  cases b with
  | true =>
    rcases q with (h | ⟨o, h⟩) | ⟨o, its, n, h, _⟩
    · exact own h
    · exact own h
    · exact mod h
  | false =>
    rcases q with (h | ⟨o, h⟩) | ⟨o, its, n, h, _⟩
    · exact own h
    · exact own h
    · exact mod h
theorem IsItr.keep {b : Bool} {h h' : Heap} {j a : Addr} {i : Nat} (q : IsItr b h j a i) (k : ∀ o, h.get? j = some o → h'.get? j = some o) : IsItr b h' j a i := by
  cases b with
  | true => obtain ⟨o, e, r⟩ := q; exact ⟨o, k o e, r⟩
  | false => obtain ⟨o, e, r⟩ := q; exact ⟨o, k o e, r⟩
theorem IsItr.obj {b : Bool} {h : Heap} {j a : Addr} {i : Nat} (q : IsItr b h j a i) : ∃ o, h.get? j = some o ∧ ∀ v, o.data ≠ .cell v := by
  cases b with
  | true => obtain ⟨o, e, _, d⟩ := q; exact ⟨o, e, fun v z => by rw [d] at z; cases z⟩
  | false => obtain ⟨o, e, _, d⟩ := q; exact ⟨o, e, fun v z => by rw [d] at z; cases z⟩
end
end L2

namespace LE
open PySem L2 LR
noncomputable def zipT (ds es : List D) : List D := List.zipWith (fun a b => .tup [a, b]) ds es
section
variable {K : PySem.W.Frag} {C : Addr} {m : Bool}
theorem held {H H1 H1' : Hp} {v : V} {s : Sl} {ds : List D} (r : RR K C H H1 H1' v s) (i : Same H1 H1') (e : s.it m = some ds) :
    ∃ (b : Bool) (a : Addr) (xs : List V), v = .ref a ∧ (∀ A, (m = true → A = H1') → ∀ H0' H', SStep A (frzH H H1 H1') H0' H' → Sq b K H' a xs) ∧ RDL K C (frzH H H1 H1') xs ds := by
  have f := frz_step (Hs := H) i
  have shared : ∀ {d : D}, RD K C (frzH H H1 H1') v d → (Sl.sh d).q = some ds → ∃ (b : Bool) (a : Addr) (xs : List V), v = .ref a ∧ (∀ A, (m = true → A = H1') → ∀ H0' H', SStep A (frzH H H1 H1') H0' H' → Sq b K H' a xs) ∧ RDL K C (frzH H H1 H1') xs ds := fun {d} r e => by
    cases d with
    | lst es => cases e; obtain ⟨l, xs, h1, h2, h3⟩ := RD.lstI r; exact ⟨false, l, xs, h1, fun A _ H0' H' st => SqL.of (st.i _ _ (st.z _ _ h2)), h3⟩
    | fz es => cases e; obtain ⟨l, xs, h1, h2, h3⟩ := RD.fzI r; exact ⟨false, l, xs, h1, fun A _ H0' H' st => (st.z.trans st.i).seq h2, h3⟩
    | tup es => cases e; obtain ⟨l, xs, h1, h2, h3⟩ := RD.tupI r; exact ⟨true, l, xs, h1, fun A _ H0' H' st => (st.z.trans st.i).seqT h2, h3⟩
    | _ => cases e
  cases s with
  | no => cases e
  | sh d => exact shared (RD.mono f.z r) e
  | own es => exact shared (RR.frz (s := .own es) i r rfl) e
  | bd _ _ => cases e
  | od _ _ => cases e
  | bo es =>
    unfold Sl.it at e
    dsimp only at e
    split at e
    · next hm =>
      cases e
      obtain ⟨l, xs, h1, h2, h3⟩ := r
      refine ⟨false, l, xs, h1, fun A hA H0' H' st => ?_, h3.mono f.z⟩
      have := hA hm
      subst this
      exact SqL.of (st.b _ _ h2)
    · cases e
theorem zip_map {α β : Type} (f : α → D) (g : β → D) (xs : List α) (ys : List β) : zipT (xs.map f) (ys.map g) = (List.zip xs ys).map fun p => .tup [f p.1, g p.2] := by
  unfold zipT
  induction xs generalizing ys with
  | nil => rfl
  | cons x xs ih => cases ys with
    | nil => rfl
    | cons y ys => simp [ih]
end
end LE

namespace PySem
namespace F
theorem rv_own : Manifest.owners.lookup (String.ofList ['d', 'e', 's', 'r', 'e', 'v', 'e', 'r'].reverse) = some Manifest.sig_reversed := by kernel_rfl
theorem rv_slot_init : Slot "reversed" "__init__" "object.__init__" :=
  .of (owner := "object") (n := "__init__") (by rw [typeLookup_type, builtinLookup_eq_fast]; kernel_rfl) (by decide +kernel) (by decide +kernel) (by decide +kernel) (by first | exact .inl (by decide +kernel) | exact .inr (by decide +kernel)) (by rw [isSubtype_type]; kernel_rfl)
theorem rv_slot_next : Slot "reversed" "__next__" "reversed.__next__" :=
  .of (owner := "reversed") (n := "__next__") (by rw [typeLookup_type, builtinLookup_eq_fast]; kernel_rfl) (by decide +kernel) (by decide +kernel) (by decide +kernel) (by first | exact .inl (by decide +kernel) | exact .inr (by decide +kernel)) (by rw [isSubtype_type]; kernel_rfl)
theorem rv_slot_iter : Slot "reversed" "__iter__" "reversed.__iter__" :=
  .of (owner := "reversed") (n := "__iter__") (by rw [typeLookup_type, builtinLookup_eq_fast]; kernel_rfl) (by decide +kernel) (by decide +kernel) (by decide +kernel) (by first | exact .inl (by decide +kernel) | exact .inr (by decide +kernel)) (by rw [isSubtype_type]; kernel_rfl)
theorem rv_args_next (a : Value) : argsOk "reversed.__next__" ⟨[a], []⟩ := by
  unfold argsOk; rw [signature?_of (id := "reversed.__next__") (n := ['_', '_', 't', 'x', 'e', 'n', '_', '_']) (o := ['d', 'e', 's', 'r', 'e', 'v', 'e', 'r']) (by kernel_rfl) rv_own]; kernel_rfl
theorem rv_args_iter (a : Value) : argsOk "reversed.__iter__" ⟨[a], []⟩ := by
  unfold argsOk; rw [signature?_of (id := "reversed.__iter__") (n := ['_', '_', 'r', 'e', 't', 'i', '_', '_']) (o := ['d', 'e', 's', 'r', 'e', 'v', 'e', 'r']) (by kernel_rfl) rv_own]; kernel_rfl
theorem rv_entry_next : entryFor table "reversed.__next__" = some Builtin.«reversed.__next__» := entryFor_of_tree (by kernel_rfl)
theorem rv_entry_iter : entryFor table "reversed.__iter__" = some Builtin.«dict_keyiterator.__iter__» :=
  entryFor_alias (id' := "dict_keyiterator.__iter__") (by kernel_rfl) (by first | rfl | decide +kernel | (unfold String.splitOn; simp +decide [String.splitOnAux])) (by decide +kernel) (by kernel_rfl)
theorem rv_called : TypeCalled "reversed" "reversed.__new__" "object.__init__" :=
  ⟨by decide +kernel, by decide +kernel, ⟨_, _, mro_reversed⟩, made_reversed, by decide +kernel, sub_reversed_self, rv_slot_init⟩
theorem rv_tuple_none : typeLookup (.type "tuple") "__reversed__" = pure none := by rw [typeLookup_type, builtinLookup_eq_fast]; kernel_rfl
theorem rv_tuple_dict : isSubtype (.type "tuple") (.type "dict") = pure false := by rw [isSubtype_type]; kernel_rfl
end F
abbrev IsRv (h : Heap) (r a : Addr) (i : Int) : Prop := h.get? r = some { cls := .type "reversed", dict := none, data := .fields #[.ref a, rawInt i], slots := #[] }
section
variable {prog : Program} {w : World} {A : Around} {E : Value → Shared → Prop} {s : Shared} {a r : Addr} {xs : Array Value}
theorem meets_rv (a : Addr) (xs : Array Value) : Meets (Builtin.«reversed.__new__» ⟨[.type "reversed", .ref a], []⟩) (fun _ R s => s.heap.IsTuple a xs ∧ (xs.size : Int) < 2 ^ 63 ∧
    R (.ok (.ret (.ref s.heap.objs.size))) { s with heap := s.heap.push { cls := .type "reversed", data := .fields #[.ref a, rawInt ((xs.size : Int) - 1)] }, toks := s.toks + 1 + 1 }) :=
  .of_wp fun prog w A R s h => by
    obtain ⟨hp, g, d, tk, os⟩ := s; obtain ⟨q1, q2, h⟩ := h
    have hT : (⟨hp, g, d, tk, os⟩ : Shared).TypeIs (.ref a) "tuple" := q1.typeIs
    unfold Builtin.«reversed.__new__»
    refine wpAny_bind (wpAny_of_eq (newClass_reversed _) ?_)
    try dsimp only
    refine wpAny_bind (wpAny_of_eq (a := ()) (by first | rfl | kernel_rfl) ?_)
    refine wpAny_bind (wpAny_of_eq (a := ()) (by first | rfl | kernel_rfl) ?_)
    try dsimp only
    refine wpAny_bind (wpAny_specialOf hT F.rv_tuple_none ?_)
    try dsimp only
    refine wpAny_bind ?_
    refine wpAny_bind (m := isInstance (.ref a) (.type "dict")) (wpAny_isInstance hT F.rv_tuple_dict ?_)
    refine wpAny_bind (wpAny_specialOf hT PyProof.Rows.slot_tuple_getitem.lookup ?_)
    refine wpAny_pure ?_
    refine wpAny_bind (PyProof.Rows.len_tuple (s := ⟨hp, g, d, tk, os⟩) q1 q2 ?_)
    refine wpAny_bind (wpAny_of_eq (a := some (xs.size : Int)) rfl ?_)
    try dsimp only
    refine wpAny_bind ?_
    show wpAny _ _ (newObj (.type "reversed") (.fields #[.ref a, rawInt ((xs.size : Int) - 1)])) _ _ _
    exact wpAny_newObj_type (wpAny_pure ⟨_, rfl, h⟩) (by size_fits)
theorem call_rv {Q : Value → Shared → Prop} (q1 : s.heap.IsTuple a xs) (q2 : (xs.size : Int) < 2 ^ 63)
    (h : ∀ h' tk, IsRv h' s.heap.objs.size a ((xs.size : Int) - 1) → (∀ c o, s.heap.get? c = some o → h'.get? c = some o) → Q (.ref s.heap.objs.size) { s with heap := h', toks := tk }) :
    wpAny (model prog w) A (call (.type "reversed") [.ref a]) Q E s := by
  refine callType_new F.rv_called (by decide) (F.typeCall_reversed_1 _) (F.newCall_reversed_1 _) (fun obj => F.args_object_init_2 obj _) F.entry_reversed_new (meets_rv a xs) ⟨q1, q2, ?_⟩
  exact ⟨⟨_, Heap.get?_push_size _ rfl, rfl⟩, h _ _ (Heap.get?_push_size _ rfl) fun c o q => Heap.get?_push_of_some _ q⟩
theorem next_rv {i : Nat} {x : Value} {Q : Option Value → Shared → Prop} (hit : IsRv s.heap r a (i : Int)) (hl : s.heap.IsTuple a xs) (hb : (i : Int) < 2 ^ 63) (hx : xs[i]? = some x)
    (hQ : ∀ h' tk, IsRv h' r a ((i : Int) - 1) → Heap.SameBut r s.heap h' → Q (some x) { s with heap := h', toks := tk }) : wpAny (model prog w) A (pyNext (.ref r)) Q E s := by
  have hT : s.TypeIs (.ref r) "reversed" := ⟨_, hit, rfl⟩
  have hi : i < xs.size := by
    by_cases z : i < xs.size
    · exact z
    · rw [Array.getElem?_eq_none (by omega)] at hx; cases hx
  unfold pyNext
  refine wpAny_bind (wpAny_attempt (wpAny_callSpecial?_slot (name := Str.ofString "__next__") hT F.rv_slot_next
    (wpAny_call_entry F.rv_slot_next hT F.rv_entry_next ?_ (F.rv_args_next _))))
  unfold Builtin.«reversed.__next__»
  refine wpAny_bind (wpAny_of_eq (a := (Value.ref r, [])) rfl ?_)
  try dsimp only
  refine wpAny_bind (wpAny_field hit rfl (x := .ref a) rfl ?_)
  refine wpAny_bind (wpAny_field hit rfl (x := rawInt (i : Int)) rfl ?_)
  show wpAny _ _ (if (i : Int) < 0 then _ else _) _ _ s
  rw [if_neg (by omega)]
  show wpAny _ _ (specialOf (.ref a) _ >>= _) _ _ s
  refine wpAny_bind (wpAny_specialOf hl.typeIs PyProof.Rows.slot_tuple_getitem.lookup ?_)
  show wpAny _ _ (mkInt (i : Int) >>= _) _ _ s
  refine wpAny_bind (wpAny_mkInt ?_)
  refine wpAny_bind (wpAny_attempt (PyProof.Rows.getItem_tuple (s := { s with toks := s.toks + 1 }) hl (by omega) hb (j := i) (by simp [seqIndex?]; omega) hx ?_))
  show wpAny _ _ (field (.ref r) 1 >>= _) _ _ _
  refine wpAny_bind (wpAny_field hit rfl (x := rawInt (i : Int)) rfl ?_)
  show wpAny _ _ (setField (.ref r) 1 (rawInt ((i : Int) - 1)) >>= _) _ _ _
  refine wpAny_bind (wpAny_setField_rec hit (by simp) fun k1 y1 e1 => ?_)
  exact wpAny_pure ⟨x, rfl, wpAny_pure (hQ k1 _ y1 e1)⟩
theorem end_rv {Q : Option Value → Shared → Prop} (hh : A.handled = none) (hit : IsRv s.heap r a (-1))
    (hQ : ∀ h', Heap.ExtBut r s.heap h' → Q none { s with heap := h' }) : wpAny (model prog w) A (pyNext (.ref r)) Q E s := by
  have hT : s.TypeIs (.ref r) "reversed" := ⟨_, hit, rfl⟩
  unfold pyNext
  refine wpAny_bind (wpAny_attempt (wpAny_callSpecial?_slot (name := Str.ofString "__next__") hT F.rv_slot_next
    (wpAny_call_entry F.rv_slot_next hT F.rv_entry_next ?_ (F.rv_args_next _))))
  unfold Builtin.«reversed.__next__»
  refine wpAny_bind (wpAny_of_eq (a := (Value.ref r, [])) rfl ?_)
  try dsimp only
  refine wpAny_bind (wpAny_field hit rfl (x := .ref a) rfl ?_)
  refine wpAny_bind (wpAny_field hit rfl (x := rawInt (-1)) rfl ?_)
  show wpAny _ _ (if (-1 : Int) < 0 then _ else _) _ _ s
  rw [if_pos (by decide)]
  refine wpAny_bind (wpAny_rule ?_)
  refine wpAny_bind ?_
  refine wpAny_bind (m := setField (.ref r) 1 (rawInt (-1))) (wpAny_setField_rec hit (by simp) fun k1 y1 e1 => ?_)
  refine wpAny_setField_rec (s := { s with heap := k1 }) y1 (by simp) fun k2 y2 e2 => ?_
  refine wpAny_bind ?_
  show wpAny _ _ (newExc (.type "StopIteration") [] >>= _) _ _ _
  refine wpAny_bind ?_
  simp only [newExc, newTuple]
  refine wpAny_bind (wpAny_newObj_type ?_ (by size_fits))
  refine wpAny_bind (m := firstArgMember _ _) (wpAny_of_eq (a := Value.none) (by first | rfl | (simp only [firstArgMember]; rfl)) ?_)
  refine wpAny_newObj_type ?_ (by size_fits)
  simp only [raiseNew]
  refine wpAny_bind (wpAny_handled ?_)
  first | rw [show A.in1.handled = none from hh] | rw [hh]
  refine wpAny_bind (wpAny_pure (wpAny_throw ?_))
  refine wpAny_bind (wpAny_isInstance (T := "StopIteration") (b := true) ⟨_, Heap.get?_push_size _ rfl, rfl⟩ isSubtype_stop ?_)
  replace e1 : Heap.SameBut r s.heap k1 := e1
  replace e2 : Heap.SameBut r k1 k2 := e2
  refine wpAny_pure (hQ _ ?_)
  exact (Heap.ExtBut.push (Heap.ExtBut.push (fun b o hb q => e2.extBut b o hb (e1.extBut b o hb q)) _) _)
theorem iter_rv {i : Int} {Q : Value → Shared → Prop} (hit : IsRv s.heap r a i) (h : Q (.ref r) s) : wpAny (model prog w) A (pyIter (.ref r)) Q E s := by
  have hT : s.TypeIs (.ref r) "reversed" := ⟨_, hit, rfl⟩
  refine wpAny_pyIter_slot hT F.rv_slot_iter (wpAny_call_entry F.rv_slot_iter hT F.rv_entry_iter ?_ (F.rv_args_iter _))
  show wpAny _ _ (ret (.ref r)) _ _ s
  exact wpAny_pure ⟨_, rfl, "reversed", _, hT, F.rv_slot_next.lookup, h⟩
end
end PySem
namespace L2
open PySem PySem.Spec PyProof.Rows
def Itv (K : PySem.W.Frag) (b : Bool) (a : Addr) (n : Nat) : It :=
  ⟨fun i H => i < n ∧ ∃ xs, Sq b K H a xs ∧ xs.length = n, fun i H x H' => H' = H ∧ ∀ xs, Sq b K H a xs → xs[n - 1 - i]? = some x, fun i _ => i = n⟩
def RvSt (b : Bool) (r a : Addr) (i : Int) (h : Heap) : Prop := match b with
  | true => IsRv h r a i
  | false => h.IsRevIter r a i
theorem turn_rv {P : Program} {w : World} {K : PySem.W.Frag} {tg : Expr} (b : Bool) (a r : Addr) (n : Nat) (hn : n ≤ sizeLine) : Turn P w K tg (Itv K b a n) [r] r (fun i h => RvSt b r a ((n : Int) - 1 - (i : Int)) h) where
  mem := by simp
  obj := fun i h st c hc => by
    have e : c = r := by simpa using hc
    subst e
    cases b with
    | true => exact ⟨_, st, fun v z => nomatch (show Data.fields _ = Data.cell v from z)⟩
    | false => obtain ⟨o, e, _, d⟩ := st; exact ⟨o, e, fun v z => by rw [d] at z; cases z⟩
  keep := fun i h h' st k => by
    cases b with
    | true => exact k r (by simp) _ st
    | false => exact Heap.IsRevIter.at st fun o e => k r (by simp) o e
  item := by
    intro X hP hw hK hc i pins s σ H E I hf st hg
    subst hP hw hK
    obtain ⟨hi, xs, hq, hlen⟩ := hg
    obtain ⟨f0, f1, f2, f3, f4, f5⟩ := hf r (by simp)
    obtain ⟨its, rv, p⟩ := hq.heap I
    obtain ⟨x, hx⟩ : ∃ x, xs[n - 1 - i]? = some x := ⟨xs[n - 1 - i]'(by omega), by simp⟩
    obtain ⟨u, hu, ru⟩ := rv.get hx
    have e : (n : Int) - 1 - (i : Int) = ((n - 1 - i : Nat) : Int) := by omega
    have e2 : ((n - 1 - i : Nat) : Int) - 1 = (n : Int) - 1 - ((i + 1 : Nat) : Int) := by omega
    rw [e] at st
    have hz : sizeLine < 2 ^ 63 := by decide
    cases b with
    | true =>
      refine next_rv (s := s) st p (by omega) (x := u) (by simpa using hu) fun h' tk st' sb => ?_
      replace sb : Heap.SameBut r s.heap h' := sb
      have I1 : Inv X pins σ H { s with heap := h', toks := tk } := I.turned (fun b o hb e => (sb.2 b hb).trans e) f0 f1 f3 f4 f5
      rw [e2] at st'
      exact ⟨u, rfl, go_of (s := { s with heap := h', toks := tk }) st' rfl rfl (by decide) ⟨x, H, I1, ru, ⟨rfl, fun ys hy => by rw [Sq.inj I hy hq]; exact hx⟩, st', fun b hb => (hf b hb).1⟩⟩
    | false =>
      refine wpAny_pyNext_rev_item (s := s) st p (x := u) (by simpa using hu) fun h' st' sb => ?_
      have I1 : Inv X pins σ H { s with heap := h' } := I.turned (t' := s.toks) (fun b o hb e => (sb.2 b hb).trans e) f0 f1 f3 f4 f5
      rw [e2] at st'
      obtain ⟨o, eo, co, d⟩ := id st'
      exact ⟨u, rfl, go_of (s := { s with heap := h' }) eo co d (by decide) ⟨x, H, I1, ru, ⟨rfl, fun ys hy => by rw [Sq.inj I hy hq]; exact hx⟩, st', fun b hb => (hf b hb).1⟩⟩
  done := by
    intro X hP hw hK hc i pins s σ H E I hf st hg
    subst hP hw hK
    obtain ⟨f0, f1, f2, f3, f4, f5⟩ := hf r (by simp)
    replace hg : i = n := hg
    have e : (n : Int) - 1 - (i : Int) = -1 := by omega
    rw [e] at st
    cases b with
    | true => exact end_rv (s := s) (a := a) (I.ok.hd hc) st fun h' eb => ⟨rfl, I.turned (t' := s.toks) (fun b o hb e => eb b o hb e) f0 f1 f3 f4 f5⟩
    | false => exact wpAny_pyNext_rev_end (s := s) (I.ok.hd hc) st fun h' eb => ⟨rfl, I.turned (t' := s.toks) (fun b o hb e => eb b o hb e) f0 f1 f3 f4 f5⟩
  self := fun _ i s _ _ st h => by
    cases b with
    | true => exact iter_rv (s := s) st h
    | false => exact wpAny_pyIter_revIter (s := s) st h
def iRv (K : PySem.W.Frag) (ta : TA) : TI := fun σ H R => ta σ H fun vs H1 => ∃ (b : Bool) (a : Addr) (xs : List V), vs = [.ref a] ∧ Sq b K H1 a xs ∧ R (Itv K b a xs.length) H1
theorem pi_revK {X : Cx} {K : PySem.W.Frag} {tg : Expr} {a : Expr} {ta : TA} {p pos : Pos} (hK : X.K = K) (hg : Gl X "reversed") (hm : X.mg "reversed" = none) (ha : PA X [a] ta) (hs : starEach [a] X.env = [(false, eval a X.env)] := by rfl)
    : PI X tg (.Call (.Name "reversed" p) [a] [] pos) (iRv K ta) := by
  subst hK
  intro pins s σ H R I h
  refine Call_ (ld_blt I hg hm bt_reversed (PyProof.Rows.callWith_type1 (thn (ha pos pins s σ H _ I h) fun us s1 ⟨vs, H1, I1, r1, q1⟩ => ?_) (by rw [hs]; rfl) (by rfl)))
  obtain ⟨b, a, xs, e, c1, q⟩ := q1
  subst e
  cases r1 with
  | cons r rr =>
  cases rr
  cases r
  have fresh : ∀ c ∈ [s1.heap.objs.size], FpOk X pins H1 c := fun c hc => by
    have e : c = s1.heap.objs.size := by simpa using hc
    subst e
    exact I1.fpOk (Nat.le_refl _) (I1.hok.fresh (Nat.le_refl _))
  have hz : sizeLine < 2 ^ 63 := by decide
  cases b with
  | true =>
    obtain ⟨its, rv, p1, sz⟩ := I1.tuple c1
    have hl := rv.length
    refine call_rv (s := s1) (xs := its.toArray) p1 (by rw [List.size_toArray]; omega) fun h' tk t1 kp => iter_rv (s := { s1 with heap := h', toks := tk }) t1 ?_
    refine ⟨_, [s1.heap.objs.size], _, _, H1, rfl, I1.kept (t' := tk) kp, turn_rv true a _ xs.length sz, ?_, fresh, q⟩
    show IsRv h' s1.heap.objs.size a _
    have e : (its.toArray.size : Int) - 1 = (xs.length : Int) - 1 - ((0 : Nat) : Int) := by rw [List.size_toArray, ← hl]; simp
    rw [← e]
    exact t1
  | false =>
    obtain ⟨its, rv, p1, sz⟩ := I1.list c1
    have hl := rv.length
    refine call_reversed_list (s := s1) p1.isList (wpAny_pyIter_revIter (l := a) (i := ((its.toArray.size : Int) - 1)) ⟨_, Heap.get?_push_size _ rfl, rfl, rfl⟩ ?_)
    refine ⟨_, [s1.heap.objs.size], _, _, H1, rfl, I1.kept (t' := s1.toks) fun b o e => Heap.get?_push_of_some _ e, turn_rv false a _ xs.length sz, ?_, fresh, q⟩
    refine ⟨_, Heap.get?_push_size _ rfl, rfl, ?_⟩
    have e : (its.toArray.size : Int) - 1 = (xs.length : Int) - 1 - ((0 : Nat) : Int) := by rw [List.size_toArray, ← hl]; simp
    rw [e]
    rfl
end L2
namespace LE
open PySem L2 LR
noncomputable def iRev (m : Bool) (as : En → Option (List Sl)) : En → Option (List D) := fun E => (as E).bind fun ss => match ss with
  | [s] => (s.it m).map List.reverse
  | _ => none
section
variable {K : PySem.W.Frag} {C : Addr} {m : Bool}
theorem s_iRev {t : TA} {ev : En → Option (List Sl)} (ha : SA K C t ev) : SI K C m (iRv K t) (iRev m ev) := by
  intro B H0 H σ E ds R I e q
  obtain ⟨ss, e1, e⟩ := bind_some e
  split at e
  · next s =>
    obtain ⟨ds1, e2, e⟩ := Option.map_eq_some_iff.mp e
    subst e
    refine ha B H0 H σ E _ _ I e1 fun vs H1 H1' s1 r1 => ?_
    obtain ⟨v, rfl, ra⟩ := r1.one
    have f := frz_step (Hs := H) s1.i
    obtain ⟨b1, a1, xs, rfl, k1, w1⟩ := held ra s1.i e2
    have hA : m = true → (if m = true then H1' else B) = H1' := fun h => if_pos h
    have sA : Same (if m = true then H1' else B) H1' := by
      split
      · exact Same.refl _
      · exact I.b.trans s1.h
    have st0 : SStep (if m = true then H1' else B) (frzH H H1 H1') (frzH H H1 H1') H1' := ⟨sA, Same.refl _, fun _ _ e => .inl e, f.i⟩
    refine ⟨b1, a1, xs, rfl, k1 _ hA _ _ st0, q _ _ _ (s1.comp f fun _ z => z) ?_⟩
    intro H0' H' st
    have q1 := k1 _ hA _ _ st
    refine ⟨fun i d e => ?_, by rw [List.length_reverse, w1.1]; rfl⟩
    have hi : i < ds1.length := by have := (List.getElem?_eq_some_iff.mp e).1; rwa [List.length_reverse] at this
    rw [List.getElem?_reverse hi, ← w1.1] at e
    obtain ⟨x, x1, x2⟩ := w1.get e
    refine ⟨⟨by rw [w1.1]; exact hi, xs, q1, rfl⟩, ?_⟩
    rintro z H2 ⟨rfl, hv⟩
    have h1 := hv xs q1
    rw [x1] at h1; cases h1
    exact ⟨H0', .refl st.i, x2.mono st.z⟩
  · cases e
end
end LE

namespace PySem
open AutoSeq1 (wpAny_loadPart')
section
variable {prog : Program} {w : World} {A : Around} {E : Value → Shared → Prop} {s : Shared} {b : Bool} {a e it : Addr} {xs : Array Value}
end
end PySem
namespace L2
open PySem PySem.Spec PyProof.Rows
end L2
namespace LE
open PySem L2 LR
section
variable {K : PySem.W.Frag} {C : Addr} {m : Bool}
end
end LE

namespace L2
open PySem PySem.Spec PyProof.Rows
def sortZ (ns : List Int) : List Int := ns.mergeSort (fun a b => decide (a ≤ b))
theorem sortZ_perm (ns : List Int) : (sortZ ns).Perm ns := List.mergeSort_perm _ _
theorem sortZ_pw (ns : List Int) : (sortZ ns).Pairwise (· ≤ ·) := by
  have h := List.pairwise_mergeSort (le := fun a b : Int => decide (a ≤ b)) (by intro a b c h1 h2; simp only [decide_eq_true_eq] at *; omega) (by intro a b; simp only [Bool.or_eq_true, decide_eq_true_eq]; omega) ns
  exact h.imp fun {a b} h => by simpa using h
theorem sort_uniq : ∀ {xs ys : List Int}, xs.Perm ys → xs.Pairwise (· ≤ ·) → ys.Pairwise (· ≤ ·) → xs = ys
  | [], ys, p, _, _ => by rw [List.Perm.nil_eq p]
  | x :: xs, ys, p, h1, h2 => by
    cases ys with
    | nil => exact absurd p.symm (by simp)
    | cons y ys =>
      obtain ⟨a1, a2⟩ := List.pairwise_cons.mp h1
      obtain ⟨b1, b2⟩ := List.pairwise_cons.mp h2
      have e : x = y := by
        have hx : x ∈ y :: ys := p.mem_iff.mp List.mem_cons_self
        have hy : y ∈ x :: xs := p.mem_iff.mpr List.mem_cons_self
        rcases List.mem_cons.mp hx with z | z
        · exact z
        · rcases List.mem_cons.mp hy with w | w
          · exact w.symm
          · have := a1 y w
            have := b1 x z
            omega
      subst e
      rw [sort_uniq (List.Perm.cons_inv p) a2 b2]
theorem vals_of_ints : ∀ {ns : List Int} {us : List Value}, IntsAre us ns → Vals (ns.map V.int) us := by
  intro ns us h
  induction h with
  | nil => exact .nil
  | cons _ _ _ ih => exact .cons ⟨_, rfl⟩ ih
section
variable {X : Cx}
end
end L2
namespace LE
open PySem L2 LR
section
variable {K : PySem.W.Frag} {C : Addr}
end
end LE

namespace PySem
namespace F
end F
section
variable {prog : Program} {w : World} {A : Around} {E : Value → Shared → Prop} {s : Shared} {l : Addr} {lo hi : Int} {t u v : Tok}
end
end PySem
namespace L2
open PySem PySem.Spec PyProof.Rows
end L2
namespace LE
open PySem L2 LR
section
variable {K : PySem.W.Frag} {C : Addr} {m : Bool}
end
end LE

namespace PySem
namespace F
end F
structure ZB (z TI TO i1 i2 i3 : Addr) (p1 p2 p3 : List Addr) : Prop where
  a1 : TI ≠ z
  a2 : TO ≠ z
  a3 : TI ≠ TO
  m1 : i1 ∈ p1
  m2 : i2 ∈ p2
  m3 : i3 ∈ p3
  z1 : z ∉ p1
  z2 : z ∉ p2
  z3 : z ∉ p3
  t1 : TI ∉ p1
  t2 : TI ∉ p2
  t3 : TI ∉ p3
  o1 : TO ∉ p1
  o2 : TO ∉ p2
  o3 : TO ∉ p3
  x12 : i1 ∉ p2
  x13 : i1 ∉ p3
  x21 : i2 ∉ p1
  x23 : i2 ∉ p3
  x31 : i3 ∉ p1
  x32 : i3 ∉ p2
section
variable {prog : Program} {w : World} {A : Around} {E : Value → Shared → Prop} {s : Shared} {z TI TO i1 i2 i3 : Addr} {p1 p2 p3 : List Addr} {n1 n2 n3 k : Nat} {P1 P2 P3 : Nat → Value → Prop} {S1 S2 S3 : Nat → Heap → Prop}
end
end PySem

namespace PySem
section
variable {prog : Program} {w : World} {A : Around} {E : Value → Shared → Prop} {s : Shared} {b1 b2 b3 : Bool} {a1 a2 a3 : Addr} {xs ys zs : Array Value}
end
end PySem
namespace L2
open PySem PySem.Spec PyProof.Rows
end L2
namespace LE
open PySem L2 LR
section
variable {K : PySem.W.Frag} {C : Addr} {m : Bool}
end
end LE

namespace L2
open PySem PySem.Spec PyProof.Rows
section
variable {X : Cx}
end
end L2
namespace LE
open PySem L2 LR
section
variable {K : PySem.W.Frag} {C : Addr}
end
end LE

namespace PySem

section
variable {prog : Program} {w : World} {A : Around} {R : Result → Shared → Prop} {I : Addr} {fp wr : List Addr} {n : Nat} {P : Nat → Value → Prop} {St : Nat → Heap → Prop}
end
section
variable {prog : Program} {w : World} {A : Around} {E : Value → Shared → Prop} {s : Shared} {l : Addr} {xs : Array (Int × Tok)}
end

section
variable {prog : Program} {w : World} {A : Around} {R : Result → Shared → Prop} {I : Addr} {fp wr : List Addr} {n : Nat} {P : Nat → Value → Prop} {St : Nat → Heap → Prop}
end
section
variable {prog : Program} {w : World} {A : Around} {E : Value → Shared → Prop} {s : Shared} {l : Addr} {xs : Array (Int × Tok)}
end

end PySem

namespace L2
open PySem PySem.Spec PyProof.Rows

section
variable {X : Cx}
end
section
variable {X : Cx}
end
end L2
namespace LE
open PySem L2 LR

end LE

namespace LE
open PySem L2 LR

noncomputable def look {α : Type} : List Int → List α → Int → Option α
  | k :: ks, d :: ds, n => if k = n then some d else look ks ds n
  | _, _, _ => none
noncomputable def hasK (ks : List Int) (n : Int) : Bool := ks.any fun k => decide (k = n)
noncomputable def putKs (ks : List Int) (n : Int) : List Int := if hasK ks n = true then ks else ks ++ [n]
noncomputable def setK {α : Type} : List Int → List α → Int → α → List α
  | k :: ks, d :: ds, n, v => (if k = n then v else d) :: setK ks ds n v
  | _, ds, _, _ => ds
noncomputable def putDs {α : Type} (ks : List Int) (ds : List α) (n : Int) (v : α) : List α := if hasK ks n = true then setK ks ds n v else ds ++ [v]
theorem setK_len {α : Type} (n : Int) (v : α) : ∀ (ks : List Int) (ds : List α), (setK ks ds n v).length = ds.length
  | [], _ => rfl
  | _ :: _, [] => rfl
  | _ :: ks, _ :: ds => by simp [setK, setK_len n v ks ds]
theorem putKs_len {α : Type} (ks : List Int) (ds : List α) (n : Int) (v : α) (h : ks.length = ds.length) : (putKs ks n).length = (putDs ks ds n v).length := by
  unfold putKs putDs
  split <;> simp [setK_len, h]
theorem valV_look : ∀ (ks : List Int) (xs : List V) (n : Int), valV ((ks.map Sum.inl : List Key).zip xs) (Sum.inl n) = look ks xs n
  | [], _, _ => rfl
  | _ :: _, [], _ => rfl
  | k :: ks, x :: xs, n => by
    show valV (((Sum.inl k : Key), x) :: (ks.map Sum.inl : List Key).zip xs) (Sum.inl n) = _
    by_cases h : k = n
    · rw [valV_pos (by rw [h]), look, if_pos h]
    · rw [valV_neg (fun e => h (Sum.inl.inj e)), look, if_neg h]
      exact valV_look ks xs n
theorem any_hasK : ∀ (ks : List Int) (xs : List V) (n : Int), ks.length = xs.length → (((ks.map Sum.inl : List Key).zip xs).any fun kv => decide (kv.1 = (Sum.inl n : Key))) = hasK ks n
  | [], _, _, _ => rfl
  | _ :: _, [], _, h => by simp at h
  | k :: ks, x :: xs, n, h => by
    show (decide ((Sum.inl k : Key) = Sum.inl n) || ((ks.map Sum.inl : List Key).zip xs).any _) = (decide (k = n) || ks.any _)
    rw [any_hasK ks xs n (by simpa using h)]
    congr 1
    by_cases e : k = n
    · subst e; simp
    · rw [decide_eq_false e, decide_eq_false fun z => e (Sum.inl.inj z)]
theorem map_setK : ∀ (ks : List Int) (xs : List V) (n : Int) (v : V), ks.length = xs.length → (((ks.map Sum.inl : List Key).zip xs).map fun kv => if kv.1 = (Sum.inl n : Key) then (kv.1, v) else kv) = (ks.map Sum.inl : List Key).zip (setK ks xs n v)
  | [], _, _, _, _ => rfl
  | _ :: _, [], _, _, h => by simp at h
  | k :: ks, x :: xs, n, v, h => by
    show (if (Sum.inl k : Key) = Sum.inl n then ((Sum.inl k : Key), v) else (Sum.inl k, x)) :: ((ks.map Sum.inl : List Key).zip xs).map _ = (Sum.inl k, if k = n then v else x) :: (ks.map Sum.inl : List Key).zip (setK ks xs n v)
    rw [map_setK ks xs n v (by simpa using h)]
    congr 1
    by_cases e : k = n
    · subst e; simp
    · rw [if_neg e, if_neg fun z => e (Sum.inl.inj z)]
theorem putK_put (ks : List Int) (xs : List V) (n : Int) (v : V) (h : ks.length = xs.length) : (HO.dK (putK ((ks.map Sum.inl : List Key).zip xs) (Sum.inl n) v)) = dkO (putKs ks n) (putDs ks xs n v) := by
  unfold dkO putK putKs putDs
  rw [any_hasK ks xs n h]
  split
  · rw [map_setK ks xs n v h]
  · rw [List.map_append, List.zip_append (by simpa using h)]; rfl
section
variable {K : PySem.W.Frag} {C : Addr} {Hs H0 H : Hp}
theorem RDL.look : ∀ {ks : List Int} {xs : List V} {ds : List D} {n : Int}, RDL K C H xs ds → (LE.look ks xs n = none ∧ LE.look ks ds n = none) ∨ ∃ x d, LE.look ks xs n = some x ∧ LE.look ks ds n = some d ∧ RD K C H x d
  | [], _, _, _, _ => .inl ⟨rfl, rfl⟩
  | _ :: _, [], [], _, _ => .inl ⟨rfl, rfl⟩
  | _ :: _, [], _ :: _, _, h => by have := h.1; simp at this
  | _ :: _, _ :: _, [], _, h => by have := h.1; simp at this
  | k :: ks, x :: xs, d :: ds, n, h => by
    simp only [LE.look]
    by_cases e : k = n
    · rw [if_pos e, if_pos e]; exact .inr ⟨x, d, rfl, rfl, h.head⟩
    · rw [if_neg e, if_neg e]; exact RDL.look h.tail
theorem RDL.setK {n : Int} {v : V} {e : D} (r : RD K C H v e) : ∀ {ks : List Int} {xs : List V} {ds : List D}, RDL K C H xs ds → RDL K C H (LE.setK ks xs n v) (LE.setK ks ds n e)
  | [], _, _, h => h
  | _ :: _, [], [], _ => .nil
  | _ :: _, [], _ :: _, h => by have := h.1; simp at this
  | _ :: _, _ :: _, [], h => by have := h.1; simp at this
  | k :: ks, x :: xs, d :: ds, h => by
    simp only [LE.setK]
    refine .cons ?_ (RDL.setK r h.tail)
    split
    · exact r
    · exact h.head
theorem RDL.putDs {n : Int} {v : V} {e : D} {ks : List Int} {xs : List V} {ds : List D} (h : RDL K C H xs ds) (r : RD K C H v e) : RDL K C H (LE.putDs ks xs n v) (LE.putDs ks ds n e) := by
  unfold LE.putDs
  split
  · exact RDL.setK r h
  · exact h.snoc r
theorem od_new {p : Addr} {ks : List Int} {xs : List V} {ds : List D} {Q : VK} (i : Same H0 H) (hs : Same Hs H) (hp : H p = none) (hk : ks.length = ds.length) (r : RDL K C H0 xs ds) (q : ∀ v H0' H', Step Hs H0 H H0' H' → RR K C Hs H0' H' v (.od ks ds) → Q v H') : Q (.ref p) (upd H p (dkO ks xs)) :=
  q _ H0 _ ⟨.new hp, Same.refl _, fun _ _ e => .inl e, i.trans (.new hp)⟩ ⟨p, xs, rfl, upd_same, Same.free i hp, Same.free hs hp, hk, r⟩
end
noncomputable def Sl.dk : Sl → Option (List Int × List D)
  | .sh (.dct ks ds) => some (ks, ds)
  | .sh (.dfz ks ds) => some (ks, ds)
  | .bd ks ds => some (ks, ds)
  | .od ks ds => some (ks, ds)
  | _ => none
noncomputable def int? : Sl → Option Int
  | .sh (.int i) => some i
  | _ => none
noncomputable def eDict : Ev := fun _ => some (.od [] [])
noncomputable def eDIx (a k : Ev) : Ev := fun E => (a E).bind fun s => s.dk.bind fun p => ((k E).bind int?).bind fun n => (look p.1 p.2 n).map .sh
noncomputable def eDGet2 (a k x : Ev) : Ev := fun E => (a E).bind fun s => s.dk.bind fun p => ((k E).bind int?).bind fun n => ((x E).bind sh?).bind fun d => some (.sh ((look p.1 p.2 n).getD d))
noncomputable def xDPut (i : Nat) (k a : Ev) : Es := fun E => match E[i]? with
  | some (.od ks ds) => (a E).bind fun s => s.frz.bind fun d => ((k E).bind int?).bind fun n => if ks.length < sizeLine then some (.nx (E.set i (.od (putKs ks n) (putDs ks ds n d)))) else none
  | _ => none
section
variable {K : PySem.W.Frag} {C : Addr} {Hs H0 H : Hp} {td ty tx te : TE} {ed ek ex ea : Ev}
theorem int_some {s : Sl} {n : Int} (e : int? s = some n) : s = .sh (.int n) := by
  cases s with
  | sh d => cases d with
    | int i => cases e; rfl
    | _ => cases e
  | _ => cases e
theorem RR.dk {v : V} {s : Sl} {p : List Int × List D} (r : RR K C Hs H0 H v s) (i : Same H0 H) (e : s.dk = some p) : ∃ l xs, v = .ref l ∧ Rd H l (dkO p.1 xs) ∧ p.1.length = p.2.length ∧ RDL K C H0 xs p.2 := by
  cases s with
  | bd ks ds => cases e; obtain ⟨l, xs, h1, h2, h3⟩ := r; exact ⟨l, xs, h1, .inl h2, h3⟩
  | od ks ds => cases e; obtain ⟨l, xs, h1, h2, _, _, h3⟩ := r; exact ⟨l, xs, h1, .inl h2, h3⟩
  | sh d => cases d with
    | dct ks ds => cases e; obtain ⟨l, xs, h1, h2, h3⟩ := RD.dctI r; exact ⟨l, xs, h1, .inl (i _ _ h2), h3⟩
    | dfz ks ds => cases e; obtain ⟨l, xs, o, h1, h2, h3⟩ := RD.dfzI r; exact ⟨l, xs, h1, .inr ⟨o, i _ _ h2⟩, h3⟩
    | _ => cases e
  | _ => cases e
theorem dget {l : Addr} {ks : List Int} {xs : List V} {n : Int} (h : Rd H l (dkO ks xs)) : DGet H l (.int n) (look ks xs n) := .inl ⟨_, Sum.inl n, h, rfl, (valV_look ks xs n).symm⟩
theorem s_dict : SE K C tDNewK eDict := by
  intro B H0 H σ E r Q I e q
  cases e
  intro p hp
  exact od_new (ks := []) (xs := []) (Hs := H) I.h (Same.refl _) hp rfl .nil q
theorem s_dix (ha : SE K C td ed) (hk : SE K C ty ek) : SE K C (tDGet td ty) (eDIx ed ek) := by
  intro B H0 H σ E r Q I e q
  obtain ⟨s, e1, e⟩ := bind_some e
  obtain ⟨p, e2, e⟩ := bind_some e
  obtain ⟨n, e3, e⟩ := bind_some e
  obtain ⟨t, e3, e4⟩ := bind_some e3
  obtain rfl := int_some e4
  obtain ⟨d, e5, rfl⟩ := map_some e
  refine ha B H0 H σ E s _ I e1 fun x H1 H1' s1 r1 => hk B H1 H1' σ E _ _ (I.step s1) e3 fun y H2 H2' s2 r2 => ?_
  obtain ⟨l, xs, rfl, h, _, rl⟩ := (r1.step s2).dk s2.i e2
  rw [RD.intI r2]
  rcases RDL.look (ks := p.1) (n := n) rl with ⟨_, z⟩ | ⟨v, d', z1, z2, z3⟩
  · rw [z] at e5; cases e5
  · rw [z2] at e5; cases e5
    exact ⟨l, v, rfl, z1 ▸ dget h, q _ _ _ (s1.trans s2) z3⟩
theorem s_dget2 (ha : SE K C td ed) (hk : SE K C ty ek) (hx : SE K C tx ex) : SE K C (tDGet2 td ty tx) (eDGet2 ed ek ex) := by
  intro B H0 H σ E r Q I e q
  obtain ⟨s, e1, e⟩ := bind_some e
  obtain ⟨p, e2, e⟩ := bind_some e
  obtain ⟨n, e3, e⟩ := bind_some e
  obtain ⟨t, e3, e4⟩ := bind_some e3
  obtain rfl := int_some e4
  obtain ⟨d, e5, e⟩ := bind_some e
  obtain ⟨t', e5, e6⟩ := bind_some e5
  obtain rfl := sh_some e6
  cases e
  refine ha B H0 H σ E s _ I e1 fun x H1 H1' s1 r1 => ?_
  obtain ⟨l0, xs0, rfl, h0, _, _⟩ := r1.dk s1.i e2
  refine ⟨l0, rfl, .inl ⟨_, h0⟩, hk B H1 H1' σ E _ _ (I.step s1) e3 fun y H2 H2' s2 r2 => hx B H2 H2' σ E _ _ ((I.step s1).step s2) e5 fun z H3 H3' s3 r3 => ?_⟩
  obtain ⟨l, xs, hl, h, _, rl⟩ := ((r1.step s2).step s3).dk s3.i e2
  cases hl
  rw [RD.intI r2]
  refine ⟨_, dget h, q _ _ _ ((s1.trans s2).trans s3) ?_⟩
  rcases RDL.look (ks := p.1) (n := n) rl with ⟨z1, z2⟩ | ⟨v, d', z1, z2, z3⟩
  · rw [z1, z2]; exact r3
  · rw [z1, z2]; exact z3
theorem x_dput {i : Nat} (ha : SE K C te ea) (hk : SE K C ty ek) : SS K C (sDPut (tVar i) ty te) (xDPut i ek ea) := by
  intro B H0 H σ E o D I e f
  unfold xDPut at e
  split at e
  · next ks ds h =>
    obtain ⟨s, e1, e⟩ := bind_some e
    obtain ⟨d, e2, e⟩ := bind_some e
    obtain ⟨n, e3, e⟩ := bind_some e
    obtain ⟨t, e3, e4⟩ := bind_some e3
    obtain rfl := int_some e4
    split at e
    · next hz =>
      cases e
      obtain ⟨l, xs, g1, g2, g3, g4, gk, g5⟩ := I.slotD h
      refine ha B H0 H σ E _ _ I e1 fun v H1 H1' s1 r1 => ?_
      have s2 : Step H H0 H (frzH H H1 H1') H1' := s1.comp (frz_step s1.i) fun _ z => z
      have rv := RR.frz s1.i r1 e2
      refine ⟨_, g1, ?_⟩
      refine hk B _ H1' σ E _ _ (I.step s2) e3 fun w H3 H3' s3 r3 => ?_
      have s4 := s2.trans s3
      have hx : ks.length = xs.length := gk.trans g5.1.symm
      obtain ⟨_, n0, nB⟩ := (I.step s4).ownG h rfl g1
      have rr := (g5.mono s4.z).putDs (ks := ks) (n := n) (rv.mono s3.z)
      have m := (I.step s4).mutG (t' := .od (putKs ks n) (putDs ks ds n d)) (o' := dkO (putKs ks n) (putDs ks xs n v)) h rfl rfl g1 ⟨l, _, rfl, upd_same, n0, nB, putKs_len _ _ _ _ gk, rr⟩
      rw [RD.intI r3]
      refine ⟨l, _, rfl, .inl ⟨_, Sum.inl n, s4.h _ _ g2, rfl, ?_, rfl⟩, ?_⟩
      · rw [List.length_zip, List.length_map, ← hx, Nat.min_self]; exact hz
      · rw [putK_put ks xs n v hx]
        exact f _ _ _ ⟨m.b, s4.z, (s4.ss I.b).n, m.h⟩ m
    · cases e
  · cases e
end

section
variable {K : PySem.W.Frag} {C : Addr} {H : Hp}
theorem RDL.rep {xs : List V} {ds : List D} (r : RDL K C H xs ds) : ∀ k : Nat, RDL K C H (List.replicate k xs).flatten (List.replicate k ds).flatten
  | 0 => .nil
  | k + 1 => by
    rw [List.replicate_succ, List.replicate_succ, List.flatten_cons, List.flatten_cons]
    exact r.append (RDL.rep r k)
end
end LE

namespace L2
open PySem PySem.Spec PyProof.Rows
theorem KV.get {κ : Type} : ∀ {kvs : List (κ × V)} {vs : List (κ × Value)} {i : Nat} {p : κ × V}, KV kvs vs → kvs[i]? = some p → ∃ u, vs[i]? = some (p.1, u) ∧ RelV p.2 u
  | _, _, 0, p, .cons h _, e => by
    simp at e; subst e
    obtain ⟨h1, h2⟩ := h
    rename_i q _ _
    exact ⟨_, by simp; exact Prod.ext h1.symm rfl, h2⟩
  | _, _, i + 1, p, .cons _ t, e => by
    obtain ⟨u, h1, h2⟩ := KV.get (i := i) t (by simpa using e)
    exact ⟨u, by simpa using h1, h2⟩
  | _, _, _, _, .nil, e => by simp at e
end L2
namespace LE
open PySem L2 LR
noncomputable def itmT : List Int → List D → List D := List.zipWith fun k d => .tup [.int k, d]
section
variable {K : PySem.W.Frag} {C : Addr} {m : Bool} {t : TS} {et : Es} {td : TE} {ed : Ev}
end
end LE

namespace L2
open PySem PySem.Spec PyProof.Rows
def viewO (p a : Addr) : HO := .ext fun h => PySem.W.KdlKeysView h p a
theorem dict_at {X : Cx} {pins : List (Addr × Obj)} {σ : St} {H : Hp} {s : Shared} {a : Addr} {kvs : List (Key × V)} (I : Inv X pins σ H s) (h : Rd H a (.dK kvs)) :
    ∃ vs ep, KV kvs vs ∧ s.heap.DictAt (mixKind X.prog X.w) a vs ep ∧ (a == sysModules) = false ∧ kvs.length ≤ sizeLine := by
  obtain ⟨z, y, vs, r, ob, es, ep, e1, c⟩ := (show ObjOk X.prog X.w H s.heap a (.dK kvs) from h.ok I.hok)
  exact ⟨vs, ep, r, ⟨ob, es, e1, c⟩, y, z⟩
def DSrc (H : Hp) (r a : Addr) : Prop := r = a ∨ H r = some (viewO r a)
theorem src_of {X : Cx} {pins : List (Addr × Obj)} {σ : St} {H : Hp} {s : Shared} {r a : Addr} {kvs : List (Key × V)} (I : Inv X pins σ H s) (d : DSrc H r a) (h : Rd H a (.dK kvs)) :
    ∃ vs T OK, KV kvs vs ∧ PySem.W.KdlSrc X.prog X.w T r a vs.length (fun i v => ∃ k x, vs[i]? = some (k, x) ∧ (mixKind X.prog X.w).is k v = true) OK ∧ OK s.heap ∧ vs.length ≤ sizeLine := by
  obtain ⟨vs, ep, rl, dd, y, z⟩ := dict_at I h
  rw [KV.length rl] at z
  rcases d with e | e
  · subst e
    exact ⟨vs, _, _, rl, PySem.W.kdl_dict (ep := ep) y, dd, z⟩
  · have vw : PySem.W.KdlKeysView s.heap r a := (show ObjOk X.prog X.w H s.heap r (viewO r a) from I.hok r _ e).1
    exact ⟨vs, _, _, rl, PySem.W.kdl_keys (ep := ep), ⟨vw, dd⟩, z⟩
theorem ints_src {P : Program} {w : World} : ∀ {ks : List Int} {xs : List V} {vs : List (Key × Value)} {acc : List Value}, ks.length = xs.length → KV ((ks.map Sum.inl : List Key).zip xs) vs → acc.length = vs.length →
    (∀ (j : Nat) (v : Value), acc[j]? = some v → ∃ k x, vs[j]? = some (k, x) ∧ (mixKind P w).is k v = true) → IntsAre acc ks
  | [], [], _, acc, _, r, hl, _ => by
    cases r
    cases acc with
    | nil => exact .nil
    | cons _ _ => simp at hl
  | [], _ :: _, _, _, h, _, _, _ => by simp at h
  | _ :: _, [], _, _, h, _, _, _ => by simp at h
  | k :: ks, x :: xs, vs, acc, h, r, hl, hv => by
    cases r with
    | cons r1 r2 =>
      cases acc with
      | nil => simp at hl
      | cons u acc =>
        obtain ⟨k', x', e1, e2⟩ := hv 0 u rfl
        simp at e1
        obtain ⟨r1a, r1b⟩ := r1
        subst e1
        have ek : k' = Sum.inl k := r1a.symm
        subst ek
        rcases keyIs_shape (show keyIs (Sum.inl k) u = true from e2) with ⟨i, t, e, rfl⟩ | ⟨y, t, e, _⟩
        · cases e
          exact .cons k t (ints_src (by simpa using h) r2 (by simpa using hl) fun j v e => hv (j + 1) v (by simpa using e))
        · cases e
section
variable {prog : Program} {w : World} {A : Around} {E : Value → Shared → Prop} {s : Shared} {T : String} {r d : Addr} {n : Nat} {P : Nat → Value → Prop} {OK : Heap → Prop}
theorem collect_src {R : List Value → Shared → Prop} (K : PySem.W.KdlSrc prog w T r d n P OK) (hh : A.handled = none) (hok : OK s.heap) (hn : n ≤ sizeLine)
    (h : ∀ (h' : Heap) (tk : Nat) (acc : Array Value), (∀ b o, s.heap.get? b = some o → h'.get? b = some o) → s.heap.objs.size < h'.objs.size → ItemsOf P acc n → R acc.toList { s with heap := h', toks := tk }) : wpAny (model prog w) A (collect (.ref r)) R E s := by
  obtain ⟨k1, k2⟩ := K.there _ hok
  have old : ∀ b o, s.heap.get? b = some o → (s.heap.push { cls := .type "list", data := .seq ([] : List Value).toArray }).get? b = some o := fun b o e => Heap.get?_push_of_some _ e
  unfold collect
  refine wpAny_bind (wpAny_runValue (codeAny_builtin entry_proto_collect' ?_)); rw [Around.under_plainId PySem.F.plain_proto_collect _]
  show wpAny _ A.in1 (newList [] >>= fun l => again (.builtin "list.__iadd__" ⟨[l, .ref r], []⟩)) _ _ s; refine wpAny_bind (wpAny_newObj_type (wpAny_pure ⟨plainId_quiet PySem.F.plain_list_iadd _, codeAny_builtin entry_list_iadd' ?_⟩)); rw [Around.under_plainId PySem.F.plain_list_iadd _]
  have at0 : (s.heap.push { cls := .type "list", data := .seq ([] : List Value).toArray }).get? s.heap.objs.size = some { cls := .type "list", data := .seq #[] } := Heap.get?_push_size _ rfl
  have fin : ∀ (h' : Heap) (tk : Nat) (acc : Array Value) (c : Nat), (∀ b o, s.heap.get? b = some o → h'.get? b = some o) → h'.get? s.heap.objs.size = some { cls := .type "list", dict := none, data := .seq acc c, slots := #[] } → ItemsOf P acc n →
      wpAny (model prog w) A (load s.heap.objs.size >>= fun o => match o.data with | .seq xs _ => pure xs.toList | _ => unsupported "internal:collect") R E { s with heap := h', toks := tk } := fun h' tk acc c hk hS hi => wpAny_bind (wpAny_load hS (wpAny_pure (h h' tk acc hk (Heap.lt_size hS) hi)))
  have got := PySem.W.kdl_extend (A := A) (s := { s with heap := s.heap.push { cls := .type "list", data := .seq ([] : List Value).toArray } }) (R := fun q s' => ∃ h' tk acc c, q = .ok (.ret (.ref s.heap.objs.size)) ∧ s' = { s with heap := h', toks := tk } ∧ (∀ b o, s.heap.get? b = some o → h'.get? b = some o) ∧ h'.get? s.heap.objs.size = some { cls := .type "list", dict := none, data := .seq acc c, slots := #[] } ∧ ItemsOf P acc n) K hh (K.keep _ _ hok fun b _ o e => old b o e) s.heap.objs.size (Nat.ne_of_gt k1) (Nat.ne_of_gt k2) (.ref s.heap.objs.size) 0 at0 (fun h' tk acc c hk hS hi => ⟨h', tk, acc, c, rfl, rfl, fun b o e => hk b o (Nat.ne_of_lt (Heap.lt_size e)) (old b o e), hS, hi⟩) hn
  refine wpAny_mono got (fun f s' x => ?_) fun e s' ⟨_, _, _, _, z, _⟩ => nomatch z
  cases f with
  | done f => obtain ⟨h', tk, acc, c, e, rfl, hk, hS, hi⟩ := x; cases e; exact fin h' tk acc c hk hS hi
  | again c1 => exact ⟨x.1, codeAny_mono x.2 fun q s2 ⟨h', tk, acc, c, e1, e2, hk, hS, hi⟩ => by subst e1; subst e2; exact fin h' tk acc c hk hS hi⟩
end
def rSortD : List V → Hp → VK → Prop := fun xs H Q => ∃ r a ks vs, xs = [.ref r] ∧ DSrc H r a ∧ Rd H a (.dK ((ks.map Sum.inl : List Key).zip vs)) ∧ ks.length = vs.length ∧ ks.length < 64 ∧ ∀ l, H l = none → Q (.ref l) (upd H l (.lst ((sortZ ks).map V.int)))
theorem call_sortD {X : Cx} (hc : X.calm = true) : CallR X (.builtin "sorted") rSortD := by
  intro pins s σ H xs us Q I r h
  obtain ⟨p, a, ks, vs0, rfl, ds, hq, hlk, h64, q⟩ := h
  obtain ⟨u, rfl, rx⟩ := vals1 r
  cases rx
  obtain ⟨vs, T, OK, rl, K, ok, hz⟩ := src_of I ds hq
  have hh : X.A.in1.handled = none := I.ok.hd hc
  have hl : vs.length = ks.length := by
    have := KV.length rl
    rw [List.length_zip, List.length_map, ← hlk, Nat.min_self] at this
    exact this.symm
  refine Calls.call_function_entry kind_sorted plain_sorted entry_sorted (args_sorted1 _) ?_
  unfold Builtin.«sorted»
  refine wpAny_bind (m := checkCount "sorted" 1 1 _) (wpAny_pure ?_)
  refine wpAny_bind (collect_src K hh ok hz fun h' tk acc hk hsz items => ?_)
  have hI : IntsAre acc.toList ks := ints_src (P := X.prog) (w := X.w) hlk rl (by rw [Array.length_toList, items.1]) fun j v e => items.2 j v (by rw [← Array.getElem?_toList]; exact e)
  have hal : acc.toList.length = ks.length := by rw [Array.length_toList, items.1, hl]
  refine wpAny_bind (wpAny_newList ?_ (by rw [hal]; show ks.length ≤ 16777216; omega))
  have hoL : (h'.push (seqObj "list" acc.toList.toArray 0)).get? h'.objs.size = some (seqObj "list" acc.toList.toArray 0) := Heap.get?_push_size _ rfl
  refine wpAny_bind (wpAny_holding (wpAny_call_entry slot_list_sort ⟨_, hoL, rfl⟩ entry_list_sort (list_sort_tree hoL hI (by rw [hal]; exact h64) fun out ns' a1 a2 a3 => ⟨_, rfl, ?_⟩) (args_list_sort _)))
  refine wpAny_pure ⟨_, rfl, ?_⟩
  have es : ns' = sortZ ks := sort_uniq (a2.trans (sortZ_perm ks).symm) a3 (sortZ_pw ks)
  subst es
  obtain ⟨e, he⟩ := sortedHeap_at (out := out) hoL
  have hle : s.heap.objs.size ≤ h'.objs.size := Nat.le_of_lt hsz
  have hne : H h'.objs.size = none := I.hok.fresh hle
  have hn : ((sortZ ks).map V.int).length ≤ sizeLine := by rw [List.length_map, (sortZ_perm ks).length_eq]; show ks.length ≤ 16777216; omega
  refine ⟨.ref h'.objs.size, _, I.laid (t' := tk) (fun b o x => ?_) hle (show ObjOk X.prog X.w _ _ _ (.lst ((sortZ ks).map V.int)) from ⟨hn, out.toList, e, vals_of_ints a1, ?_⟩), rfl, q _ hne⟩
  · have hx := hk b o x
    have hlt : b < h'.objs.size := Heap.lt_size hx
    rw [sortedHeap_old (Nat.ne_of_lt hlt) (by rw [size_push']; exact Nat.lt_succ_of_lt hlt)]
    exact Heap.get?_push_of_some _ hx
  · rw [he]
end L2
namespace LE
open PySem L2 LR
noncomputable def eSortK (a : Ev) : Ev := fun E => (a E).bind fun s => s.dk.bind fun p => if p.1.length < 64 then some (.own ((sortZ p.1).map .int)) else none
noncomputable def fInt : List Sl → Option Sl
  | [.sh (.int i)] => some (.sh (.int i))
  | [.sh (.bl b)] => some (.sh (.int (if b then 1 else 0)))
  | _ => none
section
variable {K : PySem.W.Frag} {C : Addr} {td : TE} {ed : Ev}
theorem Rd.put {H : Hp} {l p : Addr} {o u : HO} (h : Rd H l o) (hp : H p = none) : Rd (upd H p u) l o := by
  rcases h with h | ⟨ob, h⟩
  · exact .inl (by rw [upd_ne (ne_of_none h hp)]; exact h)
  · exact .inr ⟨ob, by rw [upd_ne (ne_of_none h hp)]; exact h⟩
theorem s_sortD (ha : SE K C td ed) : SE K C (tCB rSortD (tCons td tNil)) (eSortK ed) := by
  intro B H0 H σ E r Q I e q
  obtain ⟨s, e1, e⟩ := bind_some e
  obtain ⟨p, e2, e⟩ := bind_some e
  split at e
  · next h64 =>
    cases e
    refine ha B H0 H σ E s _ I e1 fun x H1 H1' s1 r1 => ?_
    obtain ⟨l, xs, rfl, h, hk, rl⟩ := r1.dk s1.i e2
    exact ⟨l, l, p.1, xs, rfl, .inl rfl, h, by rw [hk, rl.1], h64, fun z hz => own_new s1.i s1.h hz (RDL.ofInts _) fun v H2 H2' s2 r2 => q v H2 H2' (s1.comp s2 fun _ y => y) r2⟩
  · cases e
theorem c_int : CallS K C (fun xs H Q => (∃ i, xs = [V.int i] ∧ Q (.int i) H) ∨ ∃ k, xs = [V.bl k] ∧ Q (.int (if k then 1 else 0)) H) fInt := by
  intro Hs H0 H xs as c Q i hs r e q
  unfold fInt at e
  split at e
  · cases e
    obtain ⟨v, rfl, r0⟩ := r.one
    exact .inl ⟨_, by rw [RD.intI r0], q _ _ _ (.refl i) (RD.int _)⟩
  · cases e
    obtain ⟨v, rfl, r0⟩ := r.one
    exact .inr ⟨_, by rw [RD.blI r0], q _ _ _ (.refl i) (RD.int _)⟩
  · cases e
end
end LE

namespace L2
open PySem PySem.Spec PyProof.Rows
theorem Inv.more {X : Cx} {pins : List (Addr × Obj)} {σ : St} {H H' : Hp} {s : Shared} {h' : Heap} {t' : Nat} (I : Inv X pins σ H s) (k : ∀ b u, s.heap.get? b = some u → h'.get? b = some u) (hx : ∀ b, b < s.heap.objs.size → H' b = H b)
    (new : ∀ b o, s.heap.objs.size ≤ b → H' b = some o → ObjOk X.prog X.w H' h' b o) : Inv X pins σ H' { s with heap := h', toks := t' } := by
  have old : ∀ b o, H b = some o → H' b = some o := fun b o e => by rw [hx b (I.hok.lt e)]; exact e
  refine I.un ⟨fun b u q _ _ _ => k b u q, fun b u q _ _ _ => ⟨u.slots, k b u q⟩, fun b u q n _ => by rw [hx b (Heap.lt_size q)]; exact n, fun b u q _ => ⟨u, k b u q⟩, fun b xs q => old b _ q, fun b u xs q => old b _ q, fun b ps q => ⟨#[], by rw [old b _ q]; simp⟩⟩ fun b o e => ?_
  rcases Nat.lt_or_ge b s.heap.objs.size with z | z
  · rw [hx b z] at e
    exact (I.hok b o e).stay (fun c u _ q => k c u q) (fun c q => old c _ q) fun c xs q => old c _ q
  · exact new b o z e
end L2
namespace LE
open PySem L2 LR
section
variable {K : PySem.W.Frag} {C : Addr} {td : TE} {ed : Ev}
theorem RDL.items : ∀ {ks : List Int} {xs : List V} {ds : List D} {as : List Addr} {H : Hp}, ks.length = ds.length → as.length = ks.length → (∀ (j : Nat) (a : Addr) (k : Int) (x : V), as[j]? = some a → ks[j]? = some k → xs[j]? = some x → H a = some (.tup [.int k, x])) → RDL K C H xs ds → RDL K C H (as.map V.ref) (itmT ks ds)
  | [], [], [], [], _, _, _, _, _ => .nil
  | [], _, _, a :: as, _, _, h, _, _ => by simp at h
  | [], _, d :: ds, _, _, h, _, _, _ => by simp at h
  | k :: ks, _, [], _, _, h, _, _, _ => by simp at h
  | k :: ks, _, _, [], _, _, h, _, _ => by simp at h
  | [], x :: xs, [], [], _, _, _, _, h => by have := h.1; simp at this
  | k :: ks, [], d :: ds, a :: as, _, _, _, _, h => by have := h.1; simp at this
  | k :: ks, x :: xs, d :: ds, a :: as, H, h1, h2, h3, h4 => by
    show RDL K C H (V.ref a :: as.map V.ref) (.tup [.int k, d] :: itmT ks ds)
    refine .cons (.mkT (.of (h3 0 a k x rfl rfl rfl)) (.cons (.int k) (.cons h4.head .nil))) (RDL.items (by simpa using h1) (by simpa using h2) (fun j a k x e1 e2 e3 => h3 (j + 1) a k x (by simpa using e1) (by simpa using e2) (by simpa using e3)) h4.tail)
end
end LE

namespace L2
open PySem PySem.Spec PyProof.Rows
def wo : List Addr → Heap → Heap
  | [], h => h
  | a :: l, h => (wo l h).update a fun _ => { cls := .none, data := .freed }
theorem upd_freed (h : Heap) (a : Addr) : (h.update a fun _ => { cls := .none, data := .freed }).get? a = none := by
  cases q : (h.update a fun _ => ({ cls := .none, data := .freed } : Obj)).get? a with
  | none => rfl
  | some o =>
    obtain ⟨e, f⟩ := Heap.get?_some_iff.mp q
    obtain ⟨os, l⟩ := h
    simp only [Heap.update, Array.getElem?_modify, if_true] at e
    cases z : os[a]? with
    | none => rw [z] at e; cases e
    | some u => rw [z] at e; cases e; cases f
theorem wo_in {h : Heap} {b : Addr} : ∀ {l : List Addr}, b ∈ l → (wo l h).get? b = none
  | [], hb => nomatch hb
  | a :: l, hb => by
    unfold wo
    by_cases e : a = b
    · subst e; exact upd_freed _ _
    · rw [Heap.get?_update_other _ _ e]
      exact wo_in ((List.mem_cons.mp hb).resolve_left (Ne.symm e))
theorem wo_out {h : Heap} {b : Addr} : ∀ {l : List Addr}, b ∉ l → (wo l h).get? b = h.get? b
  | [], _ => rfl
  | a :: l, hb => by
    unfold wo
    rw [Heap.get?_update_other _ _ (fun e => hb (by rw [e]; exact List.mem_cons_self))]
    exact wo_out fun z => hb (List.mem_cons_of_mem _ z)
theorem ff_base {h base base' : Heap} : ∀ {l : List Env}, h.FunFrames base l → (∀ b ∈ frs l, base'.get? b = none) → h.FunFrames base' l
  | [], _, _ => trivial
  | env :: l, ⟨hk, ⟨L, o, hf, hn, ho, hd⟩, hr⟩, n => by
    have e : frs (env :: l) = L :: frs l := by unfold frs; rw [List.filterMap_cons, hf]
    rw [e] at n
    exact ⟨hk, ⟨L, o, hf, n L List.mem_cons_self, ho, hd⟩, ff_base hr fun b hb => n b (List.mem_cons_of_mem _ hb)⟩
theorem ff_none {h base : Heap} {l : List Env} (x : h.FunFrames base l) {b : Addr} (hb : b ∈ frs l) : base.get? b = none ∧ ∃ o, h.get? b = some o ∧ ∀ vs, o.data ≠ .fields vs := x.mem hb
theorem ObjOk.there {P : Program} {w : World} {H : Hp} {h : Heap} {a : Addr} {o : HO} (x : ObjOk P w H h a o) : ∃ u, h.get? a = some u := by
  cases o with
  | lst xs => obtain ⟨_, _, _, _, e⟩ := x; exact ⟨_, e⟩
  | tup xs => obtain ⟨_, _, _, p⟩ := x; obtain ⟨o, e, _⟩ := p; exact ⟨_, e⟩
  | dK kvs => obtain ⟨_, _, _, _, o, _, _, e, _⟩ := x; exact ⟨_, e⟩
  | dT kvs => obtain ⟨_, _, _, _, o, _, _, e, _⟩ := x; exact ⟨_, e⟩
  | set S n => obtain ⟨o, _, _, _, e, _⟩ := x; exact ⟨_, e⟩
  | ins C dx fs => obtain ⟨_, _, _, e, _⟩ := x; exact ⟨_, e⟩
  | own y => obtain ⟨_, e⟩ := x; exact ⟨_, e⟩
  | xd fs => obtain ⟨_, ⟨_, _, _, e, _⟩, _⟩ := x; exact ⟨_, e⟩
  | rng lo hi => obtain ⟨_, _, _, e⟩ := x; exact ⟨_, e⟩
  | frz ob u => obtain ⟨e, _⟩ := x; exact ⟨_, e⟩
  | tbl ps => exact ⟨_, (show h.get? a = some _ from x)⟩
  | met f y => exact ⟨_, (show h.get? a = some _ from x)⟩
  | ext φ => obtain ⟨_, ⟨_, e⟩, _⟩ := x; exact ⟨_, e⟩

def TrD (h base : Heap) (e : Addr) (cls : Value) (dct : Option Addr) (fl : Value) : Prop :=
  ∃ oe vs T oT ts, h.get? e = some oe ∧ (oe.cls = cls ∧ oe.dict = dct) ∧ oe.data = .fields vs ∧ vs[1]? = some (.ref T) ∧ base.get? T = none ∧ T ≠ e ∧ h.get? T = some oT ∧ oT.data = .fields ts ∧ ts[3]? = some fl
def Fl (base : Heap) (l : List Env) (e : Addr) (cls : Value) (h : Heap) : Prop :=
  base.StaysIn h ∧ base.get? e = none ∧ h.FunFrames base l ∧ (TrD h base e cls none .none ∨ ∃ oe vs, h.get? e = some oe ∧ (oe.cls = cls ∧ oe.dict = none) ∧ oe.data = .fields vs ∧ vs[1]? = some .none)
def Cov (fs : List Addr) (H' : Hp) (h h' base : Heap) : Prop := ∀ b o, (H' b ≠ none ∨ ∃ u, h.get? b = some u) → b ∉ fs → h'.get? b = some o → base.get? b = some o
structure XF (P : Program) (w : World) (l : List Env) (H : Hp) (h : Heap) (a : Addr) (cls : Value) (H' : Hp) (base h' : Heap) : Prop where
  un : Un (frs l) [] H H' h h'
  hok : HOk P w H' h'
  fl : Fl base l a cls h'
  cov : Cov (frs l) H' h h' base
  free : H' a = none
  new : h.get? a = none
def CX1 (P : Program) (w : World) : CXT := fun l H s E e s' => ∃ (a : Addr) (cls : Value) (H' : Hp) (base : Heap), e = .ref a ∧ s'.os = s.os ∧ AllBare s'.gens ∧ XF P w l H s.heap a cls H' base s'.heap ∧ E cls (some a) H'
section
variable {P : Program} {w : World} {l : List Env} {H H' : Hp} {h h1 h2 base base0 : Heap} {a : Addr} {cls : Value}
theorem XF.on (x : XF P w l H h a cls H' base h1) (hf : h.FunFrames base0 l) (hn : ∀ b ∈ frs l, H b = none) (k : base.StaysIn h2) (us : h1.UpToSlots h2) (fl : Fl base l a cls h2) : XF P w l H h a cls H' base h2 := by
  have ff : ∀ b ∈ frs l, ∃ o, h1.get? b = some o ∧ ∀ vs, o.data ≠ .fields vs := fun b hb => (ff_none x.fl.2.2.1 hb).2
  have nfr : ∀ b u, H' b = some u → b ∉ frs l := fun b u e hb => by
    obtain ⟨_, o, ho, _⟩ := ff_none hf hb
    rw [x.un.free b o ho (hn b hb) (by simp)] at e; cases e
  refine ⟨⟨fun b o q n hb hx => ?_, fun b o q n hb hx => ?_, x.un.free, fun b o q hx => ?_, x.un.tups, x.un.frzs, x.un.tbls⟩, fun b u e => ?_, fl, fun b o hb hfr q => ?_, x.free, x.new⟩
  · exact k b o (x.cov b o (.inr ⟨_, q⟩) hb (x.un.keep b o q n hb hx))
  · obtain ⟨sl, e1⟩ := x.un.slot b o q n hb hx
    obtain ⟨o', e2, nf⟩ := ff b hb
    rw [e1] at e2; cases e2
    obtain ⟨sl', e3⟩ := us b _ e1 nf
    exact ⟨sl', e3⟩
  · obtain ⟨o', e1⟩ := x.un.there b o q hx
    by_cases hb : b ∈ frs l
    · obtain ⟨o2, e2, nf⟩ := ff b hb
      obtain ⟨sl', e3⟩ := us b _ e2 nf
      exact ⟨_, e3⟩
    · exact ⟨o', k b o' (x.cov b o' (.inr ⟨_, q⟩) hb e1)⟩
  · refine (x.hok b u e).stay (fun c v hc q => ?_) (fun _ z => z) fun _ _ z => z
    have tr : ∃ u', H' c = some u' := by
      rcases hc with rfl | hc
      · exact ⟨_, e⟩
      · exact ⟨_, hc⟩
    obtain ⟨u', e'⟩ := tr
    exact k c v (x.cov c v (.inl (by rw [e']; intro z; cases z)) (nfr c u' e') q)
  · have ex : ∃ o', h1.get? b = some o' := by
      rcases hb with hb | ⟨u, hb⟩
      · cases e : H' b with
        | none => exact absurd e hb
        | some u => exact (x.hok b u e).there
      · exact x.un.there b u hb (by simp)
    obtain ⟨o', e1⟩ := ex
    have e2 := x.cov b o' hb hfr e1
    have e3 := k b o' e2
    rw [q] at e3; cases e3
    exact e2
end
theorem mf_dict (o : Obj) (f : Array Value → Array Value) : (o.mapFields f).dict = o.dict := by
  obtain ⟨c, d, dt, sl⟩ := o
  cases dt <;> rfl
section
variable {M : Model} {A : Around} {E : Value → Shared → Prop} {s : Shared} {base : Heap} {env : Env} {outer l : List Env} {L e : Addr} {cls fl : Value} {dct : Option Addr} {Q : Unit → Shared → Prop}
theorem entryD {oe : Obj} {vs : Array Value} {head : Value} {had : Bool} (hfr : A.frames = some (env :: outer)) (hl : s.heap.FunFrames base (env :: outer)) (hf : env.frame = some L)
    (he : s.heap.get? e = some oe) (hkb : base.StaysIn s.heap) (hen : base.get? e = none) (hd : oe.data = .fields vs) (hsz : 1 < vs.size)
    (h : ∀ h', base.StaysIn h' → h'.FunFrames base (env :: outer) → TrD h' base e oe.cls oe.dict (rawInt L) → s.heap.UpToSlots h' → Q () { s with heap := h' }) :
    wpAny M A (do let a ← frameOf env; let pl ← entryPlaceOf L had; let b ← EntryCells.newEntry head a .none (rawInt L) .none pl; setField (.ref e) 1 b) Q E s := by
  refine wpAny_bind (wpAny_frameOf_fun hfr hl hf fun h₁ hs₁ => wpAny_bind (wpAny_entryPlaceOf fun pl hpl => ?_))
  unfold EntryCells.newEntry newFields
  refine wpAny_bind (wpAny_newObj_type ?_ (hpl.sizeOk5 _ _ _ _ _))
  have ne : e ∉ (env :: outer).filterMap (·.frame) := fun hm => by
    obtain ⟨_, o, ho, nf⟩ := hl.mem hm
    rw [he] at ho; cases ho; exact nf vs hd
  have e1 : h₁.get? e = some oe := (hs₁.2.1 e ne).trans he
  have b1 : base.StaysIn h₁ := fun b o hb => (hs₁.2.1 b fun hm => by rw [(hl.mem hm).1] at hb; cases hb).trans (hkb b o hb)
  generalize hot : ({ cls := .type "traceback", dict := none, data := .fields ([head, .ref L, .none, rawInt L, .none] ++ (if pl.isEmpty then List.replicate 6 Value.none else pl)).toArray } : Obj) = ot
  have hotd : ot.data = .fields ([head, .ref L, .none, rawInt L, .none] ++ (if pl.isEmpty then List.replicate 6 Value.none else pl)).toArray := by rw [← hot]
  have hotf : ot.isFreed = false := by rw [← hot]; rfl
  have e2 := Heap.get?_push_of_some (h := h₁) ot e1
  refine wpAny_setField e2 hd hsz ?_
  have d3 := Obj.data_mapFields hd (·.setIfInBounds 1 (Value.ref h₁.objs.size))
  have e3 := Heap.get?_update_self (Obj.mapFields (·.setIfInBounds 1 (Value.ref h₁.objs.size))) e2 (Obj.isFreed_of_fields d3)
  have tne : h₁.objs.size ≠ e := Nat.ne_of_gt (Heap.lt_size e1)
  have t3 := (Heap.get?_update_other (h₁.push ot) (Obj.mapFields (·.setIfInBounds 1 (Value.ref h₁.objs.size))) (Ne.symm tne)).trans (Heap.get?_push_size h₁ hotf)
  have keep : ∀ b o, b ≠ e → h₁.get? b = some o → ((h₁.push ot).update e (Obj.mapFields (·.setIfInBounds 1 (Value.ref h₁.objs.size)))).get? b = some o := fun b o hb q => by
    rw [Heap.get?_update_other _ _ (Ne.symm hb)]; exact Heap.get?_push_of_some _ q
  have nrec : ∀ b o, s.heap.get? b = some o → (∀ ws, o.data ≠ .fields ws) → b ≠ e := fun b o hb nf z => by
    rw [z, he] at hb; cases hb; exact nf vs hd
  refine h _ (fun b o hb => keep b o (fun z => by rw [z, hen] at hb; cases hb) (b1 b o hb)) (hl.of_keeps fun b o hb nf => ?_) ⟨_, _, h₁.objs.size, _, _, e3, ⟨Obj.cls_mapFields _ _, mf_dict _ _⟩, d3, by simp [hsz], b1.fresh, tne, t3, hotd, by first | (simp; done) | (rcases hpl with rfl | ⟨_, _, _, _, _, _, _, rfl⟩ <;> simp)⟩ fun b o hb nf => ?_
  · obtain ⟨sl, hs⟩ := hs₁.2.2 b o hb
    exact ⟨_, keep b _ (nrec b o hb nf) hs, rfl⟩
  · obtain ⟨sl, hs⟩ := hs₁.2.2 b o hb
    exact ⟨sl, keep b _ (nrec b o hb nf) hs⟩
theorem flightD (hkb : base.StaysIn s.heap) (hl : s.heap.FunFrames base l) (ht : TrD s.heap base e cls dct fl)
    (h : ∀ h', base.StaysIn h' → h'.FunFrames base l → TrD h' base e cls dct .none → s.heap.UpToSlots h' → Q () { s with heap := h' }) : wpAny M A (setFlight (.ref e) none) Q E s := by
  obtain ⟨oe, vs, T, oT, ts, he, hc, hd, h1, nT, hTe, hT, dT, h3⟩ := ht
  have sz : 3 < ts.size := (Array.getElem?_eq_some_iff.mp h3).1
  unfold setFlight
  refine wpAny_bind (wpAny_field he hd h1 ?_)
  rw [if_pos (show (Value.ref T != Value.none) = true from by simp)]
  have other : ∀ b, b ≠ T → (s.heap.update T (Obj.mapFields (·.setIfInBounds 3 ((none : Option Addr).elim Value.none fun f => rawInt f)))).get? b = s.heap.get? b := fun b hb => Heap.get?_update_other _ _ (Ne.symm hb)
  have nrec : ∀ b o, s.heap.get? b = some o → (∀ ws, o.data ≠ .fields ws) → b ≠ T := fun b o hb nf z => by
    rw [z, hT] at hb; cases hb; exact nf ts dT
  refine wpAny_setField hT dT sz (h _ (fun b o hb => (other b fun z => by rw [z, nT] at hb; cases hb).trans (hkb b o hb)) (hl.of_keeps fun b o hb nf => ⟨o, (other b (nrec b o hb nf)).trans hb, rfl⟩) ?_ fun b o hb nf => ⟨o.slots, (other b (nrec b o hb nf)).trans hb⟩)
  exact ⟨oe, vs, T, _, _, (other e (Ne.symm hTe)).trans he, hc, hd, h1, nT, hTe, Heap.get?_update_self _ hT (Obj.isFreed_of_fields (Obj.data_mapFields dT _)), Obj.data_mapFields dT _, by simp [sz]⟩
theorem fl_note (hfr : A.frames = some (env :: outer)) (hf : env.frame = some L) (x : Fl base (env :: outer) e cls s.heap)
    (hQ : ∀ h', base.StaysIn h' → h'.FunFrames base (env :: outer) → TrD h' base e cls none (rawInt L) → s.heap.UpToSlots h' → Q () { s with heap := h' }) : wpAny M A (noteFrame (.ref e) env) Q E s := by
  obtain ⟨k1, k2, k3, tr | ⟨oe, vs, he, hc, hd, h1⟩⟩ := x
  · obtain ⟨oe, vs, T, oT, ts, he, hc, hd, h1, nT, hTe, hT, dT, h3⟩ := tr
    unfold noteFrame
    simp only [hf]
    refine wpAny_bind (wpAny_field he hd h1 ?_)
    rw [if_pos (show (Value.ref T != Value.none) = true from by simp)]
    refine wpAny_bind (wpAny_field hT dT h3 ?_)
    rw [if_neg (show ¬ ((Value.none == rawInt L) = true) from by simp [rawInt])]
    refine wpAny_bind (wpAny_setField hT dT (Array.getElem?_eq_some_iff.mp h3).1 ?_)
    have other : ∀ b, b ≠ T → (s.heap.update T (Obj.mapFields (·.setIfInBounds 3 Value.none))).get? b = s.heap.get? b := fun b hb => Heap.get?_update_other _ _ (Ne.symm hb)
    have nrec : ∀ b o, s.heap.get? b = some o → (∀ ws, o.data ≠ .fields ws) → b ≠ T := fun b o hb nf z => by
      rw [z, hT] at hb; cases hb; exact nf ts dT
    refine entryD hfr (k3.of_keeps fun b o hb nf => ⟨o, (other b (nrec b o hb nf)).trans hb, rfl⟩) hf ((other e (Ne.symm hTe)).trans he)
      (fun b o hb => (other b fun z => by rw [z, nT] at hb; cases hb).trans (k1 b o hb)) k2 hd (Array.getElem?_eq_some_iff.mp h1).1 fun h' x1 x2 x3 x4 => ?_
    rw [hc.1, hc.2] at x3
    exact hQ h' x1 x2 x3 fun b o hb nf => x4 b o ((other b (nrec b o hb nf)).trans hb) nf
  · unfold noteFrame
    simp only [hf]
    refine wpAny_bind (wpAny_field he hd h1 ?_)
    rw [if_neg (by decide)]
    refine entryD hfr k3 hf he k1 k2 hd (Array.getElem?_eq_some_iff.mp h1).1 fun h' x1 x2 x3 x4 => ?_
    rw [hc.1, hc.2] at x3
    exact hQ h' x1 x2 x3 x4
theorem fl_leave (hfr : A.frames = some (env :: outer)) (hf : env.frame = some L) (x : Fl base (env :: outer) e cls s.heap)
    (hQ : ∀ h', Fl base (env :: outer) e cls h' → Fl base outer e cls h' → s.heap.UpToSlots h' → Q () { s with heap := h' }) : wpAny M A (leaving env (.ref e)) Q E s := by
  have k2 := x.2.1
  unfold leaving
  refine wpAny_bind (fl_note hfr hf x fun h1 x1 x2 x3 x4 => ?_)
  refine flightD (s := { s with heap := h1 }) x1 x2 x3 fun h2 y1 y2 y3 y4 => ?_
  exact hQ h2 ⟨y1, k2, y2, .inl y3⟩ ⟨y1, k2, y2.2.2, .inl y3⟩ (x4.trans y4)
end

def XP (X : Cx) (pins : List (Addr × Obj)) (σ : St) (E : XK) (e : Value) (s' : Shared) : Prop := ∃ H s, Inv X pins σ H s ∧ CX1 X.prog X.w X.stack H s E e s'
section
variable {X : Cx} {pins : List (Addr × Obj)} {σ : St} {H H' : Hp} {s s' : Shared} {base : Heap} {a : Addr} {cls : Value} {E : XK} {e : Value}
theorem Inv.fly (I : Inv X pins σ H s) (ho : s'.os = s.os) (hg : AllBare s'.gens) (x : XF X.prog X.w X.stack H s.heap a cls H' base s'.heap) : Inv X pins σ H' s' := I.call' ho x.un x.hok hg fun b hb => nomatch hb
theorem XP.made {args : List Value} {h' : Heap} {ea : Addr} (I : Inv X pins σ H s) (m : Heap.MadeExcOf s.heap h' ea cls args) (q : E cls (some ea) H) : XP X pins σ E (.ref ea) { s with heap := h' } := by
  have nf : ∀ b ∈ frs X.stack, ∃ o, s.heap.get? b = some o := fun b hb => by obtain ⟨_, o, ho, _⟩ := ff_none I.stack hb; exact ⟨o, ho⟩
  obtain ⟨t, ht, _, _⟩ := m.there
  refine ⟨H, s, I, ea, cls, H, wo (frs X.stack) s.heap, rfl, rfl, I.bare, ⟨⟨fun b o q _ _ _ => m.keeps b o q, fun b o q _ _ _ => ⟨o.slots, m.keeps b o q⟩, fun _ _ _ n _ => n, fun b o q _ => ⟨o, m.keeps b o q⟩, fun _ _ z => z, fun _ _ _ z => z, fun b ps z => ⟨#[], by rw [z]; simp⟩⟩, I.hok.kept m.keeps, ⟨fun b o q => ?_, ?_, ?_, .inr ⟨_, _, ht, ⟨rfl, rfl⟩, rfl, rfl⟩⟩, fun b o hb hfr q => ?_, ?_, m.new⟩, q⟩
  · by_cases hb : b ∈ frs X.stack
    · rw [wo_in hb] at q; cases q
    · rw [wo_out hb] at q; exact m.keeps b o q
  · by_cases hb : ea ∈ frs X.stack
    · exact wo_in hb
    · rw [wo_out hb]; exact m.new
  · exact (ff_base I.stack fun b hb => wo_in hb).of_keeps fun b o q _ => ⟨o, m.keeps b o q, rfl⟩
  · rw [wo_out hfr]
    have ex : ∃ u, s.heap.get? b = some u := by
      rcases hb with hb | hb
      · cases e : H b with
        | none => exact absurd e hb
        | some u => exact (I.hok b u e).there
      · exact hb
    obtain ⟨u, hu⟩ := ex
    have := m.keeps b u hu
    have q' : h'.get? b = some o := q
    rw [q'] at this; cases this
    exact hu
  · cases e : H ea with
    | none => rfl
    | some u =>
      obtain ⟨o, ho⟩ := (I.hok ea u e).there
      rw [m.new] at ho; cases ho
theorem XP.leave {M : Model} {E' : Value → Shared → Prop} {A : Around} (hA : A.frames = some X.stack) (hs : X.stack = X.env :: X.outer) (hf : X.env.frame = some X.env.locals) (hx : X.ex = []) (x : XP X pins σ E e s') :
    wpAny M A (leaving X.env e) (fun _ s'' => CX1 X.prog X.w X.outer X.H₀ X.s₀ E e s'') E' s' := by
  obtain ⟨H, s, I, a, cls, H', base, rfl, ho, hg, xf, q⟩ := x
  have fl := xf.fl
  rw [hs] at fl hA
  refine fl_leave hA hf fl fun h' f1 f2 us => ?_
  have y := xf.on I.stack I.stkFree f1.1 us (by rw [hs]; exact f1)
  have J : Inv X pins σ H' { s' with heap := h' } := I.fly ho hg y
  have hfs : frs X.stack = X.env.locals :: frs X.outer := by rw [hs]; unfold frs; rw [List.filterMap_cons, hf]
  have nl : ∀ b o, X.s₀.heap.get? b = some o → b ≠ X.env.locals := fun b o q z => by
    have h1 := Heap.lt_size q
    rw [z] at h1
    exact absurd h1 (Nat.not_lt.mpr I.ok.above)
  refine ⟨a, cls, H', base, rfl, J.os, hg, ⟨?_, J.hok, f2, fun b o hb hfr q => ?_, y.free, ?_⟩, q⟩
  · have := J.base; rw [hx] at this; exact this
  · refine y.cov b o ?_ ?_ q
    · rcases hb with hb | ⟨u, hb⟩
      · exact .inl hb
      · exact .inr (I.base.there b u hb (by rw [hx]; simp))
    · rw [hfs]
      intro z
      rcases List.mem_cons.mp z with z | z
      · rcases hb with hb | ⟨u, hb⟩
        · rw [z] at hb; exact hb J.free
        · exact nl b u hb z
      · exact hfr z
  · cases z : X.s₀.heap.get? a with
    | none => rfl
    | some u =>
      obtain ⟨o, e⟩ := I.base.there a u z (by rw [hx]; simp)
      rw [y.new] at e; cases e
end
end L2

namespace L2
open PySem PySem.Spec PyProof.Rows PySem.Calls
abbrev VEm : List Value := [.type "ValueError", .type "Exception", .type "BaseException", .type "object"]
section
variable {P : Program} {w : World} {K : PySem.W.Frag} {mg : Str → Option Value} {base : Heap} {N : List Str} {qual : Str} {scope : Scope} {f : Addr} {cd : Value} {A : Around} {outer : List Env} {s : Shared} {H : Hp} {E : XK}
def XOk (X : Cx) (E : XK) : Prop := ∀ (pins : List (Addr × Obj)) (σ : St) (e : Value) (s' : Shared), XP X pins σ E e s' → X.xe e s'
theorem xok_cx : XOk (cxOf (CX1 P w) P w K mg base N qual scope f cd A outer s H E) E := fun pins σ e s' x => by
  have hA : (A.deeper (envOfC qual scope s.heap.objs.size f cd)).frames = some (cxOf (CX1 P w) P w K mg base N qual scope f cd A outer s H E).stack := by
    obtain ⟨H1, s1, I, _⟩ := x
    exact I.ok.frames
  exact XP.leave hA rfl rfl rfl x
theorem XOk.passes {X : Cx} {E : XK} (h : XOk X E) : Passes (CX1 X.prog X.w) X E := fun pins σ H s e s' I cx => h pins σ e s' ⟨H, s, I, cx⟩
def EF : XK := fun _ _ _ => False
theorem passF {X : Cx} : Passes (CX1 X.prog X.w) X EF := fun _ _ _ _ _ _ _ ⟨_, _, _, _, _, _, _, _, q⟩ => q.elim
theorem Fun.okX {x qual : Str} {st : Stmt} {f : Addr} {fd : FuncData} {N ps : List Str} {k : Nat} {sp : Sp} (F : Fun K x qual st f fd) (S : FnScope N ps (defScope st)) (len : ∀ vs H Q E, sp vs H Q E → vs.length = ps.length)
    (hbody : ∀ (cdv : Value) (A : Around) (outer : List Env) (s : Shared) (H : Hp) (vs : List V) (Q : VK) (E : XK), Room k (A.deeper (envOfC qual (defScope st) s.heap.objs.size f cdv)) → sp vs H Q E →
      ∃ t, PSs (cxOf (CX1 P w) P w K mg base N qual (defScope st) f cdv A outer s H E) (defBody st) t ∧ t { nx := fun _ H' => Q .non H', rt := Q } (start N vs) H) : FnOk P w K mg base (CX1 P w) (k + 1) f fd ps sp := by
  obtain ⟨oc, od, kV, doc, pm, an, cdv, ct, osl, rfl, lk, hcd⟩ := F.ex
  exact fn_of lk hcd S len fun A outer s H vs Q E hr hsp => hbody cdv A outer s H vs Q E hr hsp
end
def tRaise (C : Addr) (E : XK) (t : TA) : TS := fun D σ H => t σ H fun vs H1 => vs.length ≤ sizeLine ∧ ∀ a, E (.ref C) (some a) H1
section
variable {X : Cx} {x : Str} {np cpos pos : Pos} {C : Addr} {E : XK} {e : Expr} {es : List Expr} {t : TA}
theorem exc_obj {K : PySem.W.Frag} {h : Heap} {bmB : List Value} {newId : String} (X : K.In h) (q : PySem.W.excIn K C bmB newId = true) : ∃ bm N nm q bs hdct sn sub ab col dd k0 k1 k2 k3 k5 mN, h.get? C = some (excClassObj nm q C N bs bm hdct sn sub ab col dd k0 k1 k2 k3 k5 newId) ∧ h.Ns N mN ∧ mN "__init__" = none ∧ OwnTail h bmB bm := by
  unfold PySem.W.excIn at q
  split at q
  · rename_i dd cd sl ho
    split at q
    · rename_i C' bm k0 k1 k2 k3 n k5 hm hs
      simp only [Bool.and_eq_true, beq_iff_eq, Bool.not_eq_true'] at q
      obtain ⟨⟨⟨⟨⟨rfl, rfl⟩, hdel⟩, ht⟩, hok⟩, hni⟩ := q
      obtain ⟨nm, bs, mro, ns, qn, hd, sn, sub, ab, col, del⟩ := cd
      dsimp only at hm hdel hok hni
      subst hm hdel
      have hsl : sl = #[k0, k1, k2, k3, some (.builtin n), k5] := by
        obtain ⟨l⟩ := sl
        simp only at hs
        rw [hs]
      subst hsl
      exact ⟨bm, ns, nm, qn, bs, hd, sn, sub, ab, col, dd, k0, k1, k2, k3, k5, _, X _ _ ho, .of_isNs (PySem.W.isNs_of_in X hok), PySem.W.nsMap_none_of_in X hok hni, PySem.W.tail_of_in X ht⟩
    · cases q
  · cases q
theorem ps_raise (ok : PySem.W.excIn X.K C VEm "ValueError.__new__" = true) (hg : Gl X x) (hm : X.mg x = some (.ref C)) (hc : X.calm = true) (hx : XOk X E) (ha : PA X (e :: es) t) (hdb : (x == ("__debug__" : Str)) = false := by decide)
    (he : starEach (e :: es) X.env = (false, eval e X.env) :: starEach es X.env := by rfl) (hpl : (backTo cpos (starEach es X.env)).any (·.1) = false := by rfl) :
    PS X (.Raise (some (.Call (.Name x np) (e :: es) [] cpos)) none pos) (tRaise C E t) := by
  intro pins s σ H D I h
  obtain ⟨tl, N, nm, q, bs, hdct, sn, sub, ab, col, dd, k0, k1, k2, k3, k5, mN, hC, hN, hni, T⟩ := exc_obj (h := X.base) I.ok.mod.kin ok
  refine wpAny_Raise_call_subU (C := C) (nm := nm) (q := q) (N := N) (bs := bs) (bm := tl) (hdct := hdct) (sn := sn) (sub := sub) (ab := ab) (col := col) (dd := dd) (k0 := k0) (k1 := k1) (k2 := k2) (k3 := k3) (k5 := k5)
    PySem.F.excBase_ValueError (by decide) PySem.F.excBase_ValueError (mN := mN) (T.hasType PySem.F.excBase_ValueError.hasBase) (I.ok.hd hc) (by rw [he]; show (false || (backTo cpos (starEach es X.env)).any (·.1)) = false; rw [hpl]; rfl) hni (ld_glob I hg hm ⟨rfl, ?_⟩ hdb)
  have h1 := ha cpos pins s σ H _ I h
  rw [he] at h1 ⊢
  refine Calls.evalArgs_plain (wpAny_mono h1 (fun us s₂ ⟨vs, H1, I1, r, hl, q⟩ => ⟨rfl, by rw [← r.length]; exact hl, I1.bk _ _ hC, hN.keeps I1.bk, T.keeps I1.bk, fun h' a m => hx pins σ _ _ (XP.made I1 m (q a))⟩) fun _ _ y => y)
end
end L2

namespace L2
open PySem PySem.Spec PyProof.Rows PySem.Calls
def XS (X : Cx) (pins : List (Addr × Obj)) (E : St → XK) (e : Value) (s' : Shared) : Prop := ∃ σ', XP X pins σ' (E σ') e s'
def PX (X : Cx) (e : Expr) (T : XK → TE) : Prop :=
  ∀ (pins : List (Addr × Obj)) (s : Shared) (σ : St) (H : Hp) (Q : VK) (E : XK), Inv X pins σ H s → T E σ H Q → wpAny (model X.prog X.w) X.A (eval e X.env) (EP X pins σ Q) (XP X pins σ E) s
def PCS (X : Cx) (st : Stmt) (T : (St → XK) → TS) : Prop :=
  ∀ (pins : List (Addr × Obj)) (s : Shared) (σ : St) (H : Hp) (D : Ends) (E : St → XK), Inv X pins σ H s → T E D σ H → wpAny (model X.prog X.w) X.A (exec st X.env) (SP X pins D) (XS X pins E) s
def PCSs (X : Cx) (st : List Stmt) (T : (St → XK) → TS) : Prop :=
  ∀ (pins : List (Addr × Obj)) (s : Shared) (σ : St) (H : Hp) (D : Ends) (E : St → XK), Inv X pins σ H s → T E D σ H → wpAny (model X.prog X.w) X.A (execs st X.env) (SP X pins D) (XS X pins E) s
structure CalX (P : Program) (w : World) (K : PySem.W.Frag) (mg : Str → Option Value) (base : Heap) (x : Str) (k : Nat) (ps : List Str) (sp : Sp) : Prop where
  ex : ∃ (f : Addr) (fd : FuncData), FnOk P w K mg base (CX1 P w) k f fd ps sp ∧ mg x = some (.ref f) ∧ PySem.W.keepIn K (.ref f) = true ∧ Binds K fd ps []
def tcDrop (T : XK → TE) : (St → XK) → TS := fun E D σ H => T (E σ) σ H fun _ H1 => D.nx σ H1
section
variable {X : Cx} {k : Nat} {C : Addr} {ps : List Str} {sp : Sp} {x : Str} {p pos : Pos} {e : Expr} {es : List Expr} {t : TA} {st : Stmt} {rest : List Stmt} {T : XK → TE} {TS1 : (St → XK) → TS} {u : TS}
theorem pe_callX {E : XK} (c : CalX X.prog X.w X.K X.mg X.base x k ps sp) (hr : Room k X.A) (hg : Gl X x) (hx : Passes (CX1 X.prog X.w) X E) (ha : PA X (e :: es) t) (hdb : (x == ("__debug__" : Str)) = false := by decide)
    (he : starEach (e :: es) X.env = (false, eval e X.env) :: starEach es X.env := by rfl) (hpl : (backTo pos (starEach es X.env)).any (·.1) = false := by rfl) : PE X (.Call (.Name x p) (e :: es) [] pos) (tCall sp [] E t) := by
  obtain ⟨f, fd, F, h1, h2, h3⟩ := c.ex
  exact pe_call F hr hg h1 h2 h3 .nil hx ha hdb he hpl
theorem px_call (c : CalX X.prog X.w X.K X.mg X.base x k ps sp) (hr : Room k X.A) (hg : Gl X x) (ha : PA X.nox (e :: es) t) (hdb : (x == ("__debug__" : Str)) = false := by decide)
    (he : starEach (e :: es) X.env = (false, eval e X.env) :: starEach es X.env := by rfl) (hpl : (backTo pos (starEach es X.env)).any (·.1) = false := by rfl) : PX X (.Call (.Name x p) (e :: es) [] pos) (fun E => tCall sp [] E t) := by
  obtain ⟨f, fd, F, h1, h2, h3⟩ := c.ex
  intro pins s σ H Q E I h
  refine wpAny_Call_Name_kw (ld_glob I hg h1 ?_ hdb)
  refine PySem.W.callWith_K (h₀ := X.base) I.ok.mod.kin h2 (wpAny_mono (ha pos pins s σ H _ (I.wish _) h) (fun us s1 ⟨vs, H1, I1, r, q⟩ => ⟨I1.unwish.kIn, ?_⟩) fun _ _ z => False.elim z) he hpl
  have I1 := I1.unwish
  have r2 : Vals (vs ++ []) (us ++ []) := r.append .nil
  have hl : (us ++ []).length = ps.length := by rw [← r2.length]; exact F.len _ _ _ _ q
  refine wpAny_call (codeAny_mono (F.run X.A X.stack s1 H1 ⟨us, []⟩ (us ++ []) (vs ++ []) Q E hr I1.env0 (h3 s1 us I1.kIn hl) r2 q) fun r s' hq => ?_)
  cases r with
  | error e => exact ⟨H1, s1, I1, hq⟩
  | ok fl =>
    cases fl with
    | ret u => exact I1.after hq
    | next => exact False.elim hq
    | brk => exact False.elim hq
    | cont => exact False.elim hq
theorem pcss_one (h : PCS X st TS1) : PCSs X [st] TS1 := by
  intro pins s σ H D E I q
  refine wpAny_execs_cons (thn (h pins s σ H D E I q) fun f s1 q => ?_)
  cases f with
  | next => exact wpAny_execs_nil q
  | ret v => exact q
  | brk => exact q
  | cont => exact q
theorem pcs_expr (he : PX X e T) (hs : swapsWith e none pos.line X.env = pure false := by rfl) : PCS X (.Expr e pos) (tcDrop T) := by
  intro pins s σ H D E I h
  exact wpAny_Expr_any (wpAny_mono (he pins s σ H _ _ I h) (fun v s1 ⟨x, H1, I1, r1, q1⟩ => ⟨σ, H1, I1, q1⟩) fun _ _ z => ⟨σ, z⟩) I.quiet hs
end
end L2
namespace L2
open PySem PySem.Spec PyProof.Rows PySem.Calls LE
abbrev Cx.hand (X : Cx) (a : Addr) : Cx := { X with A := X.A.mark (some (.ref a)), calm := false, xe := fun _ _ => False }
def tTry (K : PySem.W.Frag) (CL : Addr) (i : Nat) (T : (St → XK) → TS) (th : TS) : TS := fun D σ H => T (fun σ' c oa H' => ∃ a, oa = some a ∧ PySem.W.exmOne K c (.ref CL) = some true ∧
    (H' a = none → th { nx := fun σ2 H2 => D.nx (σ2.set i none) H2, rt := D.rt, bk := fun σ2 H2 => D.bk (σ2.set i none) H2, ct := fun σ2 H2 => D.ct (σ2.set i none) H2 } (σ'.set i (some (.ref a))) (upd H' a (XO a c)))) D σ H
section
variable {X : Cx} {pins : List (Addr × Obj)} {σ : St} {H : Hp} {s : Shared} {a : Addr}
theorem Inv.hand (I : Inv X pins σ H s) (a : Addr) : Inv (X.hand a) pins σ H s :=
  ⟨⟨I.ok.mod, I.ok.kind, I.ok.glob, I.ok.blt, I.ok.above, I.ok.inj, I.ok.has, I.ok.cab, (fun h => nomatch h), I.ok.frames, I.ok.stk, I.ok.exf, I.ok.bs, I.ok.bsz, I.ok.noex, I.ok.exfs, I.ok.funs, I.ok.frf⟩, I.os, I.bare, I.base, I.loc, I.cell, I.free, I.freeC, I.pin, I.hok, I.len⟩
theorem Inv.unhand (hd : X.calm = true → X.A.handled = none) (I : Inv (X.hand a) pins σ H s) : Inv X pins σ H s :=
  ⟨⟨I.ok.mod, I.ok.kind, I.ok.glob, I.ok.blt, I.ok.above, I.ok.inj, I.ok.has, I.ok.cab, hd, I.ok.frames, I.ok.stk, I.ok.exf, I.ok.bs, I.ok.bsz, I.ok.noex, I.ok.exfs, I.ok.funs, I.ok.frf⟩, I.os, I.bare, I.base, I.loc, I.cell, I.free, I.freeC, I.pin, I.hok, I.len⟩
theorem Inv.goes {i : Nat} {n : Str} {m : Str → Option Value} {v : Option Value} {h' : Heap} {t' : Nat} (I : Inv X pins σ H s) (hi : X.N[i]? = some n) (hn : s.heap.Ns X.env.locals m)
    (hl : ∀ (i : Nat) (x : Str) (v : V), X.N[i]? = some x → σ[i]? = some (some v) → Vis X.env.scope x → ∃ u, RelV v u ∧ Look X.env s.heap m x u) (hN : X.N.Nodup) (hn' : h'.Ns X.env.locals (fun x => if x = n then v else m x)) (hs : Heap.SameBut X.env.locals s.heap h') : Inv X pins (σ.set i none) H { s with heap := h', toks := t' } := by
  obtain ⟨oL, _, _, hoL, _⟩ := id hn
  have cne := I.cne
  have hiσ : i < σ.length := by rw [I.len]; exact (List.getElem?_eq_some_iff.mp hi).1
  refine ⟨I.ok, I.os, I.bare, ⟨fun b o e n hb hx => ?_, fun b o e n hb hx => ?_, I.base.free, fun b o e hx => ?_, I.base.tups, I.base.frzs, I.base.tbls⟩, ⟨_, hn', fun j y v' e1 e2 e3 => ?_⟩, fun y c e => ?_, I.free, I.freeC, fun p hp => ?_, fun b ob e => ?_, by simpa using I.len⟩
  · exact (hs.2 b (Nat.ne_of_lt (Nat.lt_of_lt_of_le (Heap.lt_size e) I.ok.above))).trans (I.base.keep b o e n hb hx)
  · obtain ⟨sl, e1⟩ := I.base.slot b o e n hb hx
    exact ⟨sl, (hs.2 b (Nat.ne_of_lt (Nat.lt_of_lt_of_le (Heap.lt_size e) I.ok.above))).trans e1⟩
  · obtain ⟨o', e1⟩ := I.base.there b o e hx
    exact ⟨o', (hs.2 b (Nat.ne_of_lt (Nat.lt_of_lt_of_le (Heap.lt_size e) I.ok.above))).trans e1⟩
  · by_cases hj : j = i
    · subst hj
      rw [List.getElem?_set_self hiσ] at e2
      cases e2
    · rw [List.getElem?_set_ne (Ne.symm hj)] at e2
      obtain ⟨u', r', q⟩ := hl j y v' e1 e2 e3
      refine ⟨u', r', ?_⟩
      have hyn : y ≠ n := fun z => hj (by
        rw [z] at e1
        have h1 := (List.getElem?_eq_some_iff.mp e1)
        have h2 := (List.getElem?_eq_some_iff.mp hi)
        exact (List.getElem_inj hN).mp (h1.2.trans h2.2.symm))
      rcases q with ⟨k1, k2⟩ | ⟨k1, c, k2, k3⟩
      · exact .inl ⟨k1, by show (if y = n then v else m y) = some u'; rw [if_neg hyn]; exact k2⟩
      · refine .inr ⟨k1, c, k2, ?_⟩
        obtain ⟨oc, e4, e5⟩ := k3
        exact ⟨oc, (hs.2 c (cne y c k2)).trans e4, e5⟩
  · obtain ⟨v, oc, e4, e5⟩ := I.cell y c e
    exact ⟨v, oc, (hs.2 c (cne y c e)).trans e4, e5⟩
  · obtain ⟨h1, h2, h3, h4⟩ := I.pin p hp
    exact ⟨(hs.2 p.1 h3).trans h1, h2, h3, h4⟩
  · refine (I.hok b ob e).stay (fun c w' hc q => (hs.2 c ?_).trans q) (fun _ q => q) fun _ _ q => q
    rintro rfl
    rcases hc with rfl | hc
    · rw [I.free] at e; cases e
    · rw [I.free] at hc; cases hc
theorem Inv.track {o : HO} (I : Inv X pins σ H s) (hx : X.ex = []) (ha : H a = none) (h0 : X.s₀.heap.get? a = none) (hL : a ≠ X.env.locals) (hC : ∀ x c, X.env.cells.lookup x = some c → c ≠ a) (hP : ∀ p ∈ X.pn ++ pins, p.1 ≠ a) (new : ObjOk X.prog X.w (upd H a o) s.heap a o) : Inv X pins σ (upd H a o) s := by
  have nt : ∀ b u, H b = some u → b ≠ a := fun b u e z => by rw [z, ha] at e; cases e
  refine ⟨I.ok, I.os, I.bare, ⟨I.base.keep, I.base.slot, fun b u e n hb => ?_, I.base.there, fun b xs e => ?_, fun b u xs e => ?_, fun b ps e => ?_⟩, I.loc, I.cell, ?_, fun x c e => ?_, fun p hp => ?_, fun b u e => ?_, I.len⟩
  · rw [upd_ne (fun z => by rw [z, h0] at e; cases e)]; exact I.base.free b u e n hb
  · have := I.base.tups b xs e; rw [upd_ne (nt _ _ this)]; exact this
  · have := I.base.frzs b u xs e; rw [upd_ne (nt _ _ this)]; exact this
  · obtain ⟨m, this⟩ := I.base.tbls b ps e; exact ⟨m, by rw [upd_ne (nt _ _ this)]; exact this⟩
  · rw [upd_ne (Ne.symm hL)]; exact I.free
  · rw [upd_ne (hC x c e)]; exact I.freeC x c e
  · obtain ⟨h1, h2, h3⟩ := I.pin p hp
    exact ⟨h1, by rw [upd_ne (hP p hp)]; exact h2, h3⟩
  · by_cases hb : b = a
    · subst hb; rw [upd_same] at e; cases e; exact new
    · rw [upd_ne hb] at e
      exact (I.hok b u e).stay (fun _ _ _ q => q) (fun c q => by rw [upd_ne (nt _ _ q)]; exact q) fun c xs q => by rw [upd_ne (nt _ _ q)]; exact q
end
section
variable {X : Cx} {body suite : List Stmt} {b₀ : Stmt} {i : Nat} {n cn : Str} {np hpos pos : Pos} {CL : Addr} {T : (St → XK) → TS} {th : TS}
theorem ps_try (hs : X.stack = X.env :: X.outer) (hf : X.env.frame = some X.env.locals) (hx : X.ex = []) (hN : X.N.Nodup) (hi : X.N[i]? = some n) (hk : X.env.kindOf n = some .local) (hg : Gl X cn) (hm : X.mg cn = some (.ref CL))
    (hb : PCSs X body T) (hh : ∀ a, PSs (X.hand a) (b₀ :: suite) th) (hdb : (cn == ("__debug__" : Str)) = false := by decide) :
    PS X (.Try body [.ExceptHandler (some (.Name cn np)) (some n) (b₀ :: suite) hpos] [] [] pos) (tTry X.K CL i T th) := by
  intro pins s σ H D I h
  refine wpAny_Try_except (wpAny_mono (hb pins s σ H D _ I h) (fun f s1 q => ?_) fun e s1 ⟨σ', Hc, sc, Ic, a, cls, H', base, he, ho, hgn, xf, hE⟩ => ?_)
  · cases f with
    | next => exact wpAny_execs_nil q
    | ret v => exact q
    | brk => exact q
    | cont => exact q
  · subst he
    obtain ⟨a', ea, hxm, hth⟩ := hE
    cases ea
    have fl := xf.fl
    rw [hs] at fl
    have hfr : X.A.frames = some (X.env :: X.outer) := by rw [← hs]; exact Ic.ok.frames
    refine fl_note hfr hf fl fun h1 x1 x2 x3 x4 => ?_
    refine flightD (s := { s1 with heap := h1 }) x1 x2 x3 fun h2 y1 y2 y3 y4 => ?_
    have J : Inv X pins σ' H' { s1 with heap := h2 } := Ic.fly ho hgn (xf.on Ic.stack Ic.stkFree y1 (x4.trans y4) (by rw [hs]; exact ⟨y1, fl.2.1, y2, .inl y3⟩))
    have LT : PySem.W.Looks (model X.prog X.w) h2 (typeOf (.ref a)) cls := by
      obtain ⟨oe, _, _, _, _, he, ⟨hc, _⟩, _⟩ := y3
      exact hc ▸ (PySem.W.Looks.ld he).andThen .now
    refine wpAny_handleBy_cons (codeAny_handlers_test (ld_glob (X := X.hand a) (J.hand a) hg hm ?_ hdb)) (by intro q; cases q)
    refine PySem.W.exm_one J.kIn LT hxm _ _ _ _ (fun _ _ q => q) ?_
    rw [if_pos rfl]
    refine codeAny_handlers_suite_as ?_
    refine flightD (s := { s1 with heap := h2 }) y1 y2 y3 fun h3 z1 z2 z3 z4 => ?_
    have Y3 := xf.on Ic.stack Ic.stkFree z1 ((x4.trans y4).trans z4) (by rw [hs]; exact ⟨z1, fl.2.1, z2, .inl z3⟩)
    have J3 : Inv X pins σ' H' { s1 with heap := h3 } := Ic.fly ho hgn Y3
    obtain ⟨oe, vs, _, _, _, he, ⟨hc, hdn⟩, hd, _⟩ := z3
    have ncl : PySem.W.notCls oe = true := by unfold PySem.W.notCls; rw [hd]
    have was : ∀ b o, sc.heap.get? b = some o → b ≠ a := fun b o q z => by rw [z, xf.new] at q; cases q
    have J4 : Inv X pins σ' (upd H' a (XO a cls)) { s1 with heap := h3 } := by
      refine J3.track hx xf.free ?_ ?_ (fun x c e => ?_) (fun p hp => ?_) ⟨⟨oe, he, hc, ncl, hdn⟩, ⟨oe, he⟩, fun g1 g2 ⟨o, q, r⟩ k => ⟨o, k o q, r⟩⟩
      · cases z : X.s₀.heap.get? a with
        | none => rfl
        | some u =>
          obtain ⟨o, e⟩ := Ic.base.there a u z (by rw [hx]; simp)
          exact absurd rfl (was a o e)
      · obtain ⟨m, ⟨o, _, _, e, _⟩, _⟩ := Ic.loc
        exact Ne.symm (was _ o e)
      · obtain ⟨v, o, e, _⟩ := Ic.cell x c e
        exact was c o e
      · exact was _ _ (Ic.pin p hp).1
    refine store_ok (X := X.hand a) (J4.hand a) hN hi (.inl hk) (show RelV (.ref a) (.ref a) from rfl) (fun s4 I4 => ?_) (.inr hk)
    refine wpAny_mono (hh a pins s4 _ _ _ I4 (hth xf.free)) (fun f s5 q => ?_) fun _ _ z => False.elim z
    have hp : (X.env.scope.kind == .class || (X.env.scope.kind == .module && X.env.locals != X.env.globals)) = false := by rw [I.ok.kind]; rfl
    cases f with
    | next =>
      obtain ⟨σ5, H5, I5, q5⟩ := q
      have I5' := I5.unhand I.ok.hd
      obtain ⟨m, hn, hl⟩ := id I5'.loc
      exact wpAny_nameGoes_keeps hk hn hp fun h6 v n6 s6 => ⟨_, H5, I5'.goes hi hn hl hN n6 s6, q5⟩
    | brk =>
      obtain ⟨σ5, H5, I5, q5⟩ := q
      have I5' := I5.unhand I.ok.hd
      obtain ⟨m, hn, hl⟩ := id I5'.loc
      exact wpAny_nameGoes_keeps hk hn hp fun h6 v n6 s6 => ⟨_, H5, I5'.goes hi hn hl hN n6 s6, q5⟩
    | cont =>
      obtain ⟨σ5, H5, I5, q5⟩ := q
      have I5' := I5.unhand I.ok.hd
      obtain ⟨m, hn, hl⟩ := id I5'.loc
      exact wpAny_nameGoes_keeps hk hn hp fun h6 v n6 s6 => ⟨_, H5, I5'.goes hi hn hl hN n6 s6, q5⟩
    | ret u =>
      obtain ⟨v5, σ5, H5, I5, r5, q5⟩ := q
      have I5' := I5.unhand I.ok.hd
      obtain ⟨m, hn, hl⟩ := id I5'.loc
      exact wpAny_nameGoes_keeps hk hn hp fun h6 v n6 s6 => ⟨v5, _, H5, I5'.goes hi hn hl hN n6 s6, r5, q5⟩
end
end L2

namespace L2
open PySem PySem.Spec PyProof.Rows PySem.Calls LE
structure ExcN (K : PySem.W.Frag) (n : Str) : Prop where
  ex : ∃ c, PySem.W.nsIn K mainGlobals n = some (some (.ref c)) ∧ PySem.W.excIn K c VEm "ValueError.__new__" = true
  pl : ∀ c, PySem.W.nsIn K mainGlobals n = some (some (.ref c)) → PySem.W.findIn K (.ref c) "__getattribute__" = some (some (.builtin "BaseException.__getattribute__")) ∧ PySem.W.findIn K (.ref c) "__getattr__" = some none ∧ PySem.W.mroIn K c (.type "BaseException") = some true ∧ PySem.W.hasDictIn K c = true ∧ PySem.W.findIn K (.ref c) "__class__" = some (some (.builtin "object.__class__")) ∧ PySem.W.mroIn K c (.type "object") = some true
structure ExcG (K : PySem.W.Frag) : Prop where
  hn : PySem.W.specialIn K (.builtin "object.__class__") "__get__" = some (some (.builtin "getset_descriptor.__get__"))
  htk : PySem.W.takesIn K (.builtin "object.__class__") = some true
section
variable {prog : Program} {w : World} {A : Around} {E : Value → Shared → Prop} {s : Shared} {K : PySem.W.Frag} {x C D : Addr} {ox : Obj}
theorem exc_class {Q : Option Value → Shared → Prop} (X : K.In s.heap) (I : PySem.W.InstAt s.heap x ox D none) (hga : PySem.W.findIn K (.ref D) "__getattribute__" = some (some (.builtin "BaseException.__getattribute__")))
    (hgn : PySem.W.findIn K (.ref D) "__getattr__" = some none) (hmB : PySem.W.mroIn K D (.type "BaseException") = some true)
    (hf : PySem.W.findObj K D none "__class__" = some (.bind (.builtin "getset_descriptor.__get__") (.builtin "object.__class__"))) (hm : PySem.W.mroIn K D (.type "object") = some true)
    (h : Q (some (.ref D)) { s with toks := s.toks + 1 }) : wpAny (model prog w) A (getAttr? (.ref x) "__class__") Q E s := by
  obtain ⟨hh, g, d, t, os⟩ := s
  have L0 := I.type (M := model prog w)
  have L1 := PySem.W.looks_findIn (M := model prog w) X hga
  have L2 := PySem.W.looks_findIn (M := model prog w) X hgn
  have f3 := PySem.F.attrBase_ValueError.ga.bind (.ref x)
  unfold getAttr? getAttrBy? getAttrBy
  refine wpAny_bind (wpAny_mkText (wpAny_bind (wpAny_attempt (wpAny_holding (wpAny_bind (L0.at (wpAny_bind (L1.at ?_))))))))
  have hx2 : (Value.builtin "BaseException.__getattribute__" == Value.builtin "object.__getattribute__") = false := by decide +kernel
  have hx1 : (onTheHeap (Value.ref D) && Value.builtin "BaseException.__getattribute__" == Value.builtin "object.__getattribute__") = false := by rw [hx2]; rfl
  repeat (any_goals (first | assumption | (with_reducible refine L0.at ?_) | (with_reducible refine L1.at ?_) | (with_reducible refine L2.at ?_) | wp_step))
  have LB := PySem.W.looks_mroIn (M := model prog w) X hmB
  have LF := PySem.W.looks_find (M := model prog w) X I hf
  have hk : builtinKind "BaseException.__getattribute__" = some .slot := by decide +kernel
  have hsplit : splitId "BaseException.__getattribute__" = some ("BaseException", "__getattribute__") := by decide +kernel
  have hag := PySem.F.args_bexc_ga (.ref x) (Value.str "__class__" t)
  refine codeAny_call_builtin PySem.F.attrBase_ValueError.ga.plain PySem.F.entry_bexc_ga ?_
  simp only [List.cons_append, List.nil_append, checkBuiltinCall, hk, hsplit]
  refine wpAny_bind ?_
  unfold isInstance
  repeat (first | (with_reducible refine L0.at ?_) | (with_reducible refine LB.at ?_) | (with_reducible refine LF.at ?_) | wp_step)
  refine PySem.W.class_get (s := ⟨hh, g, d, t + 1, os⟩) (ox := ox) (od := none) X I hm ?_
  show wpAny (model prog w) A.in1 (ret (Value.ref D)) _ _ _
  refine wpAny_pure ?_
  exact PySem.W.handed_on rfl (wpAny_pure h)
end
section
variable {K : PySem.W.Frag} {x D : Addr} {ox : Obj}
theorem findObj_dataN {a g : Value} {name : Str} (hc : (PySem.W.clsIn K D).isSome = true) (ha : PySem.W.findIn K (.ref D) name = some (some a)) (hg : PySem.W.specialIn K a "__get__" = some (some g)) (ht : PySem.W.takesIn K a = some true) : PySem.W.findObj K D none name = some (.bind g a) := by
  obtain ⟨cd, hc⟩ := Option.isSome_iff_exists.mp hc
  unfold PySem.W.findObj
  rw [hc, Option.bind_some, ha, Option.bind_some]
  simp [hg, ht]
theorem kitx_exc (hga : PySem.W.findIn K (.ref D) "__getattribute__" = some (some (.builtin "BaseException.__getattribute__"))) (hgn : PySem.W.findIn K (.ref D) "__getattr__" = some none) (hmB : PySem.W.mroIn K D (.type "BaseException") = some true) (hdct : PySem.W.hasDictIn K D = true) (ha : PySem.W.findIn K (.ref D) "__class__" = some (some (.builtin "object.__class__")))
    (hn : PySem.W.specialIn K (.builtin "object.__class__") "__get__" = some (some (.builtin "getset_descriptor.__get__"))) (htk : PySem.W.takesIn K (.builtin "object.__class__") = some true) (hm : PySem.W.mroIn K D (.type "object") = some true) :
    PySem.W.KitX K (.ref x) (.ref D) (fun h => PySem.W.InstAt h x ox D none) where
  ty := fun _ _ _ I => I.type
  it := fun _ _ X _ => by
    obtain ⟨cdD, hcD, _⟩ := PySem.W.any_some hdct
    unfold PySem.W.clsIn at hcD
    split at hcD
    · rename_i c' d' cd' sl' ho
      intro A' Q' E' s' k q
      unfold isType loadHead
      exact wpAny_bind (wpAny_loadPart (k _ _ (X _ _ ho)) (wpAny_pure q))
    · cases hcD
  ne := fun h tp dd its n sl X htp => by
    obtain ⟨cdD, hcD, _⟩ := PySem.W.any_some hdct
    refine Bool.eq_false_iff.mpr fun q => ?_
    have e : D = tp := Value.ref.inj (beq_iff_eq.mp q)
    subst e
    unfold PySem.W.clsIn at hcD
    split at hcD
    · rename_i c' d' cd' sl' ho
      have z := (X _ _ ho).symm.trans htp
      cases z
    · cases hcD
  ca := fun {_ _ _ _ _ s} X I k => by
    have hf : PySem.W.findObj K D none "__class__" = some (.bind (.builtin "getset_descriptor.__get__") (.builtin "object.__class__")) := findObj_dataN (by obtain ⟨cd, hc, _⟩ := PySem.W.any_some hdct; rw [hc]; rfl) ha hn htk
    exact exc_class X I hga hgn hmB hf hm k
end
section
variable {X : Cx}
inductive TyX (K : PySem.W.Frag) (H : Hp) : V → Value → Prop where
  | of {x : V} {t : Value} (h : TyS K H x t) : TyX K H x t
  | exc {a c : Addr} {n : Str} (h : H a = some (XO a (.ref c))) (e : PySem.W.nsIn K mainGlobals n = some (some (.ref c))) (N : ExcN K n) (G : ExcG K) : TyX K H (.ref a) (.ref c)
theorem isinst_okX {pins : List (Addr × Obj)} {σ : St} {H : Hp} {s : Shared} {A : Around} {E : Value → Shared → Prop} {Q : Value → Shared → Prop} {c : Value} {b : Bool} {x : V} {u t : Value} (I : Inv X pins σ H s) (rx : RelV x u) (ty : TyX X.K H x t) (e : PySem.W.kitOne X.K t c = some b) (h : ∀ tk, Q (.bool b) { s with toks := tk }) :
    wpAny (model X.prog X.w) A (call (.builtin "isinstance") [u, c]) Q E s := by
  cases ty with
  | of z => exact isinst_okS I rx z e h
  | @exc a c' n z e' N G =>
    cases (show u = Value.ref a from rx)
    obtain ⟨⟨o, h1, h2, h3, h4⟩, _⟩ := (show ObjOk X.prog X.w H s.heap a (XO a (.ref c')) from I.hok a _ z)
    obtain ⟨q1, q2, q3, p2, p3, p4⟩ := N.pl c' e'
    exact PySem.W.kia_one (kitx_exc q1 q2 q3 p2 p3 G.hn G.htk p4) I.kIn ⟨h1, h2, h3, by rw [h4]; trivial⟩ e (fun z => nomatch z) h
def rIsX (K : PySem.W.Frag) : List V → Hp → VK → Prop := fun vs H Q => ∃ x c t tc b, vs = [x, c] ∧ TyX K H x t ∧ (∀ u, RelV c u → u = tc) ∧ PySem.W.kitOne K t tc = some b ∧ Q (.bl b) H
theorem call_isX : CallR X (.builtin "isinstance") (rIsX X.K) := by
  intro pins s σ H xs us Q I r h
  obtain ⟨x, c, t, tc, b, rfl, ty, hc, e, q⟩ := h
  obtain ⟨u, w', rfl, r1, r2⟩ := vals2 r
  cases hc w' r2
  exact isinst_okX I r1 ty e fun tk => ⟨.bl b, H, I.tok tk, rfl, q⟩
end
end L2

namespace LE
open PySem L2 LR
noncomputable abbrev Xv := En → Option Str
section
variable (K : PySem.W.Frag) (C : Addr)
noncomputable def spR (n : Nat) (ex : List Sl → Option Str) : Sp := fun vs H Q W => ∃ H0 as m, Same H0 H ∧ RRL K C H H0 H vs as ∧ as.all (fun s => !isOwn s) = true ∧ as.length = n ∧ ex as = some m ∧
  ∀ c a H0' H', PySem.W.nsIn K mainGlobals m = some (some (.ref c)) → Step H H0 H H0' H' → W (.ref c) (some a) H'
noncomputable def spX (n : Nat) (f : List Sl → Option Sl) (ex : List Sl → Option Str) : Sp := fun vs H Q W => spE K C n f vs H Q W ∨ spR K C n ex vs H Q W
noncomputable def SXE (W : XK) (te : TE) (ex : Xv) : Prop := ∀ (B H0 H : Hp) (σ : St) (E : En) (m : Str) (Q : VK), EnvR K C B H0 H σ E → ex E = some m →
  (∀ c a H0' H', PySem.W.nsIn K mainGlobals m = some (some (.ref c)) → Step H H0 H H0' H' → W (.ref c) (some a) H') → te σ H Q
noncomputable def SXS (W : XK) (ts : TS) (ex : Xv) : Prop := ∀ (B H0 H : Hp) (σ : St) (E : En) (m : Str) (D : Ends), EnvR K C B H0 H σ E → ex E = some m →
  (∀ c a H0' H', PySem.W.nsIn K mainGlobals m = some (some (.ref c)) → SStep B H0 H0' H' → W (.ref c) (some a) H') → ts D σ H
noncomputable def SXT (T : (St → XK) → TS) (ex : Xv) : Prop := ∀ (B H0 H : Hp) (σ : St) (E : En) (m : Str) (D : Ends) (W : St → XK), EnvR K C B H0 H σ E → ex E = some m →
  (∀ c a H0' H', PySem.W.nsIn K mainGlobals m = some (some (.ref c)) → Step H H0 H H0' H' → W σ (.ref c) (some a) H') → T W D σ H
end
theorem spX_len {K : PySem.W.Frag} {C : Addr} {n : Nat} {f : List Sl → Option Sl} {ex : List Sl → Option Str} {vs : List V} {H : Hp} {Q : VK} {W : XK} (h : spX K C n f ex vs H Q W) : vs.length = n := by
  rcases h with ⟨_, as, _, _, r, _, hl, _⟩ | ⟨_, as, _, _, r, _, hl, _⟩
  · rw [r.len, hl]
  · rw [r.len, hl]
noncomputable def exNo : Xv := fun _ => none
noncomputable def exSeq (a : Es) (ea eb : Xv) : Xv := fun E => match ea E with
  | some m => some m
  | none => match a E with
    | some (.nx E') => eb E'
    | _ => none
noncomputable def exIf (c : En → Option Bool) (a b : Xv) : Xv := fun E => (c E).bind fun k => if k = true then a E else b E
noncomputable def exU (n : Nat) (ex : List Sl → Option Str) (as : En → Option (List Sl)) : Xv := fun E => (as E).bind fun ss => (passAll ss).bind fun bs => if bs.length = n then ex bs else none
noncomputable def exRaise (m : Str) (as : En → Option (List Sl)) : Xv := fun E => (as E).bind fun ss => if ss.length ≤ 1000 then some m else none
noncomputable def exRun (N : Nat) (b : Xv) : List Sl → Option Str := fun as => b (as ++ List.replicate (N - as.length) .no)
section
variable {K : PySem.W.Frag} {C : Addr} {W : XK} {t : TA} {ev : En → Option (List Sl)} {te : TE} {ts us : TS} {et eu : Es} {xt xu : Xv} {ex : Xv}
theorem s_callX {n : Nat} {f : List Sl → Option Sl} {x : List Sl → Option Str} {W : XK} (ha : SA K C t ev) : SE K C (tCall (spX K C n f x) [] W t) (eU n f ev) := by
  intro B H0 H σ E c Q I e q
  obtain ⟨ss, e1, e⟩ := bind_some e
  obtain ⟨bs, e2, e⟩ := bind_some e
  split at e
  · next hl =>
    refine rd_call (ha B H0 H σ E ss _ I e1 fun vs H1 H1' s1 r1 => ?_)
    obtain ⟨h1, h2⟩ := r1.pass s1.i e2
    have f := frz_step (Hs := H) s1.i
    exact .inl ⟨_, bs, c, f.i, h1, h2, hl, e, fun v H2 H2' s2 r2 => q v H2 H2' ((s1.comp f fun _ z => z).comp s2 fun a z => Same.free s1.h z) (r2.weak fun a z => Same.free s1.h z)⟩
  · cases e
theorem xx_call {n : Nat} {f : List Sl → Option Sl} {x : List Sl → Option Str} (ha : SA K C t ev) : SXE K C W (tCall (spX K C n f x) [] W t) (exU n x ev) := by
  intro B H0 H σ E m Q I e q
  obtain ⟨ss, e1, e⟩ := bind_some e
  obtain ⟨bs, e2, e⟩ := bind_some e
  split at e
  · next hl =>
    refine rd_call (ha B H0 H σ E ss _ I e1 fun vs H1 H1' s1 r1 => ?_)
    obtain ⟨h1, h2⟩ := r1.pass s1.i e2
    have f := frz_step (Hs := H) s1.i
    exact .inr ⟨_, bs, m, f.i, h1, h2, hl, e, fun c a H2 H2' hc s2 => q c a H2 H2' hc ((s1.comp f fun _ z => z).comp s2 fun a z => Same.free s1.h z)⟩
  · cases e
theorem xx_no : SXS K C W ts exNo := fun _ _ _ _ _ _ _ _ e _ => by cases e
theorem xx_seq (h1 : SS K C ts et) (x1 : SXS K C W ts xt) (x2 : SXS K C W us xu) : SXS K C W (tSeq ts us) (exSeq et xt xu) := by
  intro B H0 H σ E m D I e q
  unfold exSeq at e
  split at e
  · next m' hm => cases e; exact x1 B H0 H σ E m _ I hm q
  · split at e
    · next E' hE =>
      refine h1 B H0 H σ E _ _ I hE ?_
      exact fun σ' H1 H1' s1 I1 => x2 B H1 H1' σ' E' m D I1 e fun c a H2 H2' hc s2 => q c a H2 H2' hc (s1.trans s2)
    · cases e
theorem xx_if {c : TT} {ec : En → Option Bool} (hc : ST K C c ec) (x1 : SXS K C W ts xt) (x2 : SXS K C W us xu) : SXS K C W (tIfS c ts us) (exIf ec xt xu) := by
  intro B H0 H σ E m D I e q
  obtain ⟨k, e1, e⟩ := bind_some e
  refine hc B H0 H σ E k _ I e1 fun H1 H1' s1 => ?_
  have s1' := s1.ss I.b
  cases k with
  | true => rw [if_pos rfl] at e ⊢; exact x1 B H1 H1' σ E m D (I.step s1) e fun c a H2 H2' hc s2 => q c a H2 H2' hc (s1'.trans s2)
  | false =>
    rw [if_neg (by decide)] at e ⊢
    exact x2 B H1 H1' σ E m D (I.step s1) e fun c a H2 H2' hc s2 => q c a H2 H2' hc (s1'.trans s2)
theorem xx_drop (h : SXE K C W te ex) : SXS K C W (tDrop te) ex := fun B H0 H σ E m D I e q => h B H0 H σ E m _ I e fun c a H1 H1' hc s1 => q c a H1 H1' hc (s1.ss I.b)
theorem xx_raise {m : Str} {c : Addr} (hc : PySem.W.nsIn K mainGlobals m = some (some (.ref c))) (ha : SA K C t ev) : SXS K C W (tRaise c W t) (exRaise m ev) := by
  intro B H0 H σ E m' D I e q
  obtain ⟨ss, e1, e⟩ := bind_some e
  split at e
  · next hl =>
    cases e
    refine ha B H0 H σ E ss _ I e1 fun vs H1 H1' s1 r1 => ⟨?_, fun a => q c a H1 H1' hc (s1.ss I.b)⟩
    rw [r1.len]
    exact Nat.le_trans hl (by decide)
  · cases e
theorem xt_drop {T : XK → TE} {ex : Xv} (h : ∀ W, SXE K C W (T W) ex) : SXT K C (tcDrop T) ex := fun B H0 H σ E m D W I e q => h (W σ) B H0 H σ E m _ I e q
end
section
variable {K : PySem.W.Frag} {C : Addr} {B H0 H : Hp} {σ : St} {E : En}
theorem env_start {N : List Str} {vs : List V} {as : List Sl} (i : Same H0 H) (ra : RRL K C H H0 H vs as) (ho : as.all (fun s => !isOwn s) = true) : EnvR K C H H0 H (L2.start N vs) (as ++ List.replicate (N.length - as.length) .no) := by
  have lens := ra.len
  have noOwn : ∀ (j : Nat) (s : Sl), as[j]? = some s → isOwn s = false := fun j s e => by
    have := List.all_eq_true.mp ho s (List.mem_of_getElem? e)
    simpa using this
  have get : ∀ (j : Nat) (s : Sl), (as ++ List.replicate (N.length - as.length) Sl.no)[j]? = some s → s = .no ∨ as[j]? = some s := fun j s e => by
    by_cases hj : j < as.length
    · rw [List.getElem?_append_left hj] at e; exact .inr e
    · rw [List.getElem?_append_right (by omega), List.getElem?_replicate] at e
      split at e
      · cases e; exact .inl rfl
      · cases e
  refine ⟨Same.refl _, i, by simp [L2.start, lens], fun j s e => ?_, fun j k s1 s2 v hjk e1 e2 w1 w2 => ?_⟩
  · rcases get j s e with z | z
    · exact .inl z
    · obtain ⟨v, h1, h2⟩ := ra.get z
      refine .inr ⟨v, ?_, ?_⟩
      · unfold L2.start
        rw [List.getElem?_append_left (by have := (List.getElem?_eq_some_iff.mp h1).1; simpa using this), List.getElem?_map, h1]; rfl
      · cases s with
        | no => trivial
        | sh d => exact h2
        | bo ds => exact h2
        | own ds => exact absurd (noOwn j _ z) (by simp [isOwn])
        | bd ks ds => exact h2
        | od ks ds => exact absurd (noOwn j _ z) (by simp [isOwn])
  · rcases get j _ e1 with z | z
    · subst z; cases w1
    · rw [noOwn j _ z] at w1; cases w1
theorem fn_doneX {N : List Str} {n : Nat} {b : Es} {x : Xv} {ts : TS} {vs : List V} {Q : VK} {W : XK} (hb : SS K C ts b) (hx : SXS K C W ts x) (h : spX K C n (fRun N.length b) (exRun N.length x) vs H Q W) : ts { nx := fun _ H' => Q .non H', rt := Q } (L2.start N vs) H := by
  rcases h with h | ⟨H0, as, m, i, ra, ho, hl, e, q⟩
  · exact fn_done hb h
  · exact hx H H0 H _ _ m _ (env_start i ra ho) e fun c a H1 H1' hc s1 => q c a H1 H1' hc ⟨s1.b, s1.z, s1.n, s1.i⟩
theorem EnvR.del (I : EnvR K C B H0 H σ E) (i : Nat) : EnvR K C B H0 H (σ.set i none) (E.set i .no) := by
  refine ⟨I.b, I.h, by simp [I.len], fun j s e => ?_, fun j k s1 s2 v hjk e1 e2 o1 o2 e3 e4 => ?_⟩
  · rw [List.getElem?_set] at e
    by_cases hj : i = j
    · rw [if_pos hj] at e
      split at e
      · cases e; exact .inl rfl
      · cases e
    · rw [if_neg hj] at e
      rcases I.at' j s e with z | ⟨v, h1, h2⟩
      · exact .inl z
      · exact .inr ⟨v, by rw [List.getElem?_set, if_neg hj]; exact h1, h2⟩
  · have ne : ∀ (j : Nat) (s : Sl), (E.set i Sl.no)[j]? = some s → isOwn s = true → i ≠ j ∧ E[j]? = some s := fun j s e o => by
      rw [List.getElem?_set] at e
      by_cases hj : i = j
      · rw [if_pos hj] at e
        split at e
        · cases e; cases o
        · cases e
      · rw [if_neg hj] at e; exact ⟨hj, e⟩
    obtain ⟨n1, f1⟩ := ne j s1 e1 o1
    obtain ⟨n2, f2⟩ := ne k s2 e2 o2
    rw [List.getElem?_set, if_neg n1] at e3
    rw [List.getElem?_set, if_neg n2] at e4
    exact I.sep j k s1 s2 v hjk f1 f2 o1 o2 e3 e4
end
noncomputable def outDel (i : Nat) : Out → Out
  | .nx E => .nx (E.set i .no)
  | .rt r => .rt r
  | .bk E => .bk (E.set i .no)
  | .ct E => .ct (E.set i .no)
noncomputable def xTry (R : List Str) (i : Nat) (b : Es) (x : Xv) (h : Es) : Es := fun E => match b E with
  | some o => some o
  | none => (x E).bind fun m => if m ∈ R ∧ i < E.length then (h (E.set i (.sh (.exc m)))).map (outDel i) else none
section
variable {K : PySem.W.Frag} {C : Addr}
theorem x_try {R : List Str} {CL : Addr} {i : Nat} {T : (St → XK) → TS} {th : TS} {b h : Es} {x : Xv} (hm : ∀ m ∈ R, ∀ c, PySem.W.nsIn K mainGlobals m = some (some (.ref c)) → PySem.W.exmOne K (.ref c) (.ref CL) = some true)
    (hb : ∀ W, SS K C (T W) b) (hx : SXT K C T x) (hh : SS K C th h) : SS K C (tTry K CL i T th) (xTry R i b x h) := by
  intro B H0 H σ E o D I e fin
  unfold xTry at e
  split at e
  · next o' hE => cases e; exact hb _ B H0 H σ E o D I hE fin
  · obtain ⟨m, e1, e⟩ := bind_some e
    split at e
    · next hR =>
      obtain ⟨o', e2, rfl⟩ := map_some e
      refine hx B H0 H σ E m D _ I e1 fun c a H1 H1' hc s1 => ⟨a, rfl, hm m hR.1 c hc, fun ha => ?_⟩
      have ha0 : H1 a = none := by
        cases z : H1 a with
        | none => rfl
        | some u => rw [s1.i a u z] at ha; cases ha
      have I1 := I.step s1
      have st : Step H1' H1 H1' (upd H1 a (XO a (.ref c))) (upd H1' a (XO a (.ref c))) := by
        refine ⟨fun b u z => ?_, fun b u z => ?_, fun b u z => ?_, fun b u z => ?_⟩
        · rw [upd_ne (ne_of_none z ha)]; exact z
        · rw [upd_ne (ne_of_none z ha0)]; exact z
        · by_cases hb : b = a
          · subst hb; exact .inr (.inl ha)
          · rw [upd_ne hb] at z; exact .inl z
        · by_cases hb : b = a
          · subst hb; rw [upd_same] at z ⊢; exact z
          · rw [upd_ne hb] at z ⊢; exact s1.i b u z
      have I2 : EnvR K C B (upd H1 a (XO a (.ref c))) (upd H1' a (XO a (.ref c))) (σ.set i (some (.ref a))) (E.set i (.sh (.exc m))) :=
        I1.put' st hR.2 (show RR K C H1' _ _ (.ref a) (.sh (.exc m)) from RD.exc upd_same hc) rfl
      have ss : SStep B H0 (upd H1 a (XO a (.ref c))) (upd H1' a (XO a (.ref c))) := (s1.ss I.b).trans (st.ss I1.b)
      refine hh B _ _ _ _ o' _ I2 e2 ?_
      cases o' with
      | nx E2 => exact fun σ' H2 H2' s2 I3 => fin _ H2 H2' (ss.trans s2) (I3.del i)
      | bk E2 => exact fun σ' H2 H2' s2 I3 => fin _ H2 H2' (ss.trans s2) (I3.del i)
      | ct E2 => exact fun σ' H2 H2' s2 I3 => fin _ H2 H2' (ss.trans s2) (I3.del i)
      | rt r => exact fun v H2 H2' s2 r2 => fin v H2 H2' (ss.trans s2) r2
    · cases e
end
noncomputable def exB (n m : Str) : Bool := n == m || m == "LumpError"
noncomputable def exIs (R : List Str) (m : Str) : D → Option Bool
  | .exc n => if n ∈ R then some (exB n m) else none
  | .non => some false
  | _ => none
noncomputable def eIsX (R : List Str) (m : Str) (a : Ev) : Ev := fun E => (a E).bind fun s => s.d.bind fun d => (exIs R m d).map fun b => .sh (.bl b)
noncomputable def eIsV (R : List Str) (a : Ev) : Ev := fun E => (a E).bind fun s => s.d.bind fun d => (match d with | .exc n => if n ∈ R then some true else none | .non => some false | _ => none).map fun b => .sh (.bl b)
section
variable {K : PySem.W.Frag} {C : Addr} {te : TE} {ea : Ev}
structure IsiN (K : PySem.W.Frag) (R : List Str) (m : Str) (c : Addr) : Prop where
  own : ∀ n ∈ R, ExcN K n
  g : ExcG K
  k : ∀ n ∈ R, ∀ c', PySem.W.nsIn K mainGlobals n = some (some (.ref c')) → PySem.W.kitOne K (.ref c') (.ref c) = some (exB n m)
  o : PySem.W.kitOne K (.type "NoneType") (.ref c) = some false
theorem s_isX {R : List Str} {m : Str} {c : Addr} (N : IsiN K R m c) (ha : SE K C te ea) : SE K C (tCB (rIsX K) (tCons te (tCons (tC (.ref c)) tNil))) (eIsX R m ea) := by
  intro B H0 H σ E r Q I e q
  obtain ⟨a, e1, e⟩ := bind_some e
  obtain ⟨d, e2, e⟩ := bind_some e
  obtain ⟨b, e3, rfl⟩ := map_some e
  refine ha B H0 H σ E a _ I e1 fun x H1 H1' s1 r1 => ?_
  have rd := r1.dat s1.i e2
  cases d with
  | exc n =>
    have e3 : (if n ∈ R then some (exB n m) else none) = some b := e3
    split at e3
    · next hn =>
      cases e3
      obtain ⟨a', c', rfl, hx, hc⟩ := RD.excI rd
      exact ⟨_, _, _, _, _, rfl, .exc hx hc (N.own n hn) N.g, fun u z => z, N.k n hn c' hc, q _ _ _ s1 (RD.bl _)⟩
    · cases e3
  | non => cases e3; cases RD.nonI rd; exact ⟨_, _, _, _, _, rfl, .of (.of .non), fun u z => z, N.o, q _ _ _ s1 (RD.bl _)⟩
  | _ => cases e3
end
end LE
namespace L2
open PySem PySem.Spec PyProof.Rows PySem.Calls LE
section
variable {X : Cx}
end
end L2
namespace LE
open PySem L2 LR
noncomputable def IsiL (K : PySem.W.Frag) (R : List Str) : List Str → List Addr → Prop
  | [], [] => True
  | m :: ms, c :: cs => IsiN K R m c ∧ IsiL K R ms cs
  | _, _ => False
theorem IsiL.exc {K : PySem.W.Frag} {R : List Str} {n : Str} {c' : Addr} (hn : n ∈ R) (hc : PySem.W.nsIn K mainGlobals n = some (some (.ref c'))) : ∀ {ms : List Str} {cs : List Addr}, IsiL K R ms cs → PySem.W.kitAny K (.ref c') (cs.map Value.ref) = some (ms.any (exB n))
  | [], [], _ => rfl
  | m :: ms, c :: cs, ⟨h, t⟩ => by
    show (match PySem.W.kitOne K (.ref c') (.ref c) with | some true => some true | some false => PySem.W.kitAny K (.ref c') (cs.map Value.ref) | none => none) = _
    rw [h.k n hn c' hc, t.exc hn hc, List.any_cons]
    cases exB n m <;> rfl
theorem IsiL.non {K : PySem.W.Frag} {R : List Str} : ∀ {ms : List Str} {cs : List Addr}, IsiL K R ms cs → PySem.W.kitAny K (.type "NoneType") (cs.map Value.ref) = some false
  | [], [], _ => rfl
  | m :: ms, c :: cs, ⟨h, t⟩ => by
    show (match PySem.W.kitOne K (.type "NoneType") (.ref c) with | some true => some true | some false => PySem.W.kitAny K (.type "NoneType") (cs.map Value.ref) | none => none) = _
    rw [h.o, t.non]
section
variable {K : PySem.W.Frag} {C : Addr} {te : TE} {ea : Ev}
structure IsiV (K : PySem.W.Frag) (R : List Str) : Prop where
  own : ∀ n ∈ R, ExcN K n
  g : ExcG K
  k : ∀ n ∈ R, ∀ c', PySem.W.nsIn K mainGlobals n = some (some (.ref c')) → PySem.W.kitOne K (.ref c') (.type "ValueError") = some true
theorem kitNV {K : PySem.W.Frag} : PySem.W.kitOne K (.type "NoneType") (.type "ValueError") = some false := by kernel_rfl
theorem s_isV {R : List Str} (N : IsiV K R) (ha : SE K C te ea) : SE K C (tCB (rIsX K) (tCons te (tCons (tC (.ty "ValueError")) tNil))) (eIsV R ea) := by
  intro B H0 H σ E r Q I e q
  obtain ⟨a, e1, e⟩ := bind_some e
  obtain ⟨d, e2, e⟩ := bind_some e
  obtain ⟨b, e3, rfl⟩ := map_some e
  refine ha B H0 H σ E a _ I e1 fun x H1 H1' s1 r1 => ?_
  have rd := r1.dat s1.i e2
  cases d with
  | exc n =>
    have e3 : (if n ∈ R then some true else none) = some b := e3
    split at e3
    · next hn =>
      cases e3
      obtain ⟨a', c', rfl, hx, hc⟩ := RD.excI rd
      exact ⟨_, _, _, _, _, rfl, .exc hx hc (N.own n hn) N.g, fun u z => z, N.k n hn c' hc, q _ _ _ s1 (RD.bl _)⟩
    · cases e3
  | non => cases e3; cases RD.nonI rd; exact ⟨_, _, _, _, _, rfl, .of (.of .non), fun u z => z, kitNV, q _ _ _ s1 (RD.bl _)⟩
  | _ => cases e3
end
end LE

namespace L2
open PySem PySem.Spec PyProof.Rows PySem.Calls LE
theorem bt_ValueError : bootBuiltins "ValueError" = some (.type "ValueError") := by decide +kernel
section
variable {X : Cx} {K : PySem.W.Frag}
theorem call_isXK (h : X.K = K) : CallR X (.builtin "isinstance") (rIsX K) := by subst h; exact call_isX
theorem ps_tryK {body suite : List Stmt} {b₀ : Stmt} {i : Nat} {n cn : Str} {np hpos pos : Pos} {CL : Addr} {T : (St → XK) → TS} {th : TS} (h : X.K = K) (hs : X.stack = X.env :: X.outer) (hf : X.env.frame = some X.env.locals) (hx : X.ex = []) (hN : X.N.Nodup) (hi : X.N[i]? = some n) (hk : X.env.kindOf n = some .local) (hg : Gl X cn) (hm : X.mg cn = some (.ref CL))
    (hb : PCSs X body T) (hh : ∀ a, PSs (X.hand a) (b₀ :: suite) th) (hdb : (cn == ("__debug__" : Str)) = false := by decide) :
    PS X (.Try body [.ExceptHandler (some (.Name cn np)) (some n) (b₀ :: suite) hpos] [] [] pos) (tTry K CL i T th) := by subst h; exact ps_try hs hf hx hN hi hk hg hm hb hh hdb
theorem ps_raiseK {x : Str} {np cpos pos : Pos} {C : Addr} {E : XK} {e : Expr} {es : List Expr} {t : TA} (h : X.K = K) (ok : PySem.W.excIn K C VEm "ValueError.__new__" = true) (hg : Gl X x) (hm : X.mg x = some (.ref C)) (hc : X.calm = true) (hx : XOk X E) (ha : PA X (e :: es) t) (hdb : (x == ("__debug__" : Str)) = false := by decide)
    (he : starEach (e :: es) X.env = (false, eval e X.env) :: starEach es X.env := by rfl) (hpl : (backTo cpos (starEach es X.env)).any (·.1) = false := by rfl) :
    PS X (.Raise (some (.Call (.Name x np) (e :: es) [] cpos)) none pos) (tRaise C E t) := by subst h; exact ps_raise ok hg hm hc hx ha hdb he hpl
end
end L2
namespace LE
open PySem L2 LR
section
variable {K : PySem.W.Frag} {C : Addr} {ts : TS}
theorem x_noret : SS K C ts xNever := fun _ _ _ _ _ _ _ _ e _ => by cases e
theorem xt_dropN {T : XK → TE} {ea : Ev} (h : ∀ W, SE K C (T W) ea) (W : St → XK) : SS K C (tcDrop T W) (xDrop ea) := x_drop (te := fun σ H Q => T (W σ) σ H Q) fun B H0 H σ E r Q I e q => h (W σ) B H0 H σ E r Q I e q
structure AtX (K : PySem.W.Frag) (n : Str) (c : Addr) : Prop where
  ns : PySem.W.nsIn K mainGlobals n = some (some (.ref c))
  ok : PySem.W.excIn K c VEm "ValueError.__new__" = true
  ga : PySem.W.findIn K (.ref c) "__getattribute__" = some (some (.builtin "BaseException.__getattribute__"))
  gn : PySem.W.findIn K (.ref c) "__getattr__" = some none
  mb : PySem.W.mroIn K c (.type "BaseException") = some true
  hd : PySem.W.hasDictIn K c = true
  fi : PySem.W.findIn K (.ref c) "__class__" = some (some (.builtin "object.__class__"))
  mr : PySem.W.mroIn K c (.type "object") = some true
theorem AtX.n {n : Str} {c : Addr} (h : AtX K n c) : ExcN K n := ⟨⟨c, h.ns, h.ok⟩, fun c' e => by
  have := h.ns.symm.trans e
  cases this
  exact ⟨h.ga, h.gn, h.mb, h.hd, h.fi, h.mr⟩⟩
noncomputable def OwnL (K : PySem.W.Frag) : List Str → List Addr → Prop
  | [], [] => True
  | n :: ns, c :: cs => AtX K n c ∧ OwnL K ns cs
  | _, _ => False
theorem own_nil : OwnL K [] [] := trivial
theorem own_cons {ns : List Str} {cs : List Addr} {n : Str} {c : Addr} (h : AtX K n c) (t : OwnL K ns cs) : OwnL K (n :: ns) (c :: cs) := ⟨h, t⟩
theorem OwnL.all : ∀ {ns : List Str} {cs : List Addr}, OwnL K ns cs → ∀ n ∈ ns, ExcN K n
  | [], [], _, n, h => nomatch h
  | m :: ns, c :: cs, ⟨h, t⟩, n, hn => by
    rcases List.mem_cons.mp hn with e | e
    · rw [e]; exact h.n
    · exact t.all n e
noncomputable def ExmL (K : PySem.W.Frag) (CL : Addr) : List Addr → Prop
  | [] => True
  | c :: cs => PySem.W.exmOne K (.ref c) (.ref CL) = some true ∧ ExmL K CL cs
theorem exm_nil {CL : Addr} : ExmL K CL [] := trivial
theorem exm_cons {CL c : Addr} {cs : List Addr} (h : PySem.W.exmOne K (.ref c) (.ref CL) = some true) (t : ExmL K CL cs) : ExmL K CL (c :: cs) := ⟨h, t⟩
theorem ExmL.all {CL : Addr} : ∀ {ns : List Str} {cs : List Addr}, OwnL K ns cs → ExmL K CL cs → ∀ m ∈ ns, ∀ c, PySem.W.nsIn K mainGlobals m = some (some (.ref c)) → PySem.W.exmOne K (.ref c) (.ref CL) = some true
  | [], [], _, _, n, h => nomatch h
  | m :: ns, c :: cs, ⟨h, t⟩, ⟨h', t'⟩, n, hn => fun c' e => by
    rcases List.mem_cons.mp hn with z | z
    · rw [z, h.ns] at e; cases e; exact h'
    · exact t'.all t n z c' e
noncomputable def KitL (K : PySem.W.Frag) (m : Str) (c : Addr) : List Str → List Addr → Prop
  | [], [] => True
  | n :: ns, d :: ds => PySem.W.kitOne K (.ref d) (.ref c) = some (exB n m) ∧ KitL K m c ns ds
  | _, _ => False
theorem kit_nil {m : Str} {c : Addr} : KitL K m c [] [] := trivial
theorem kit_cons {m n : Str} {c d : Addr} {ns : List Str} {ds : List Addr} {b : Bool} (h : PySem.W.kitOne K (.ref d) (.ref c) = some b) (e : exB n m = b) (t : KitL K m c ns ds) : KitL K m c (n :: ns) (d :: ds) := ⟨by rw [e]; exact h, t⟩
theorem KitL.all {m : Str} {c : Addr} : ∀ {ns : List Str} {cs : List Addr}, OwnL K ns cs → KitL K m c ns cs → ∀ n ∈ ns, ∀ c', PySem.W.nsIn K mainGlobals n = some (some (.ref c')) → PySem.W.kitOne K (.ref c') (.ref c) = some (exB n m)
  | [], [], _, _, n, h => nomatch h
  | m :: ns, c :: cs, ⟨h, t⟩, ⟨h', t'⟩, n, hn => fun c' e => by
    rcases List.mem_cons.mp hn with z | z
    · rw [z] at e ⊢; rw [h.ns] at e; cases e; exact h'
    · exact t'.all t n z c' e
theorem isiN_of {m : Str} {c : Addr} {ns : List Str} {cs : List Addr} (o : OwnL K ns cs) (g : ExcG K) (k : KitL K m c ns cs) (z : PySem.W.kitOne K (.type "NoneType") (.ref c) = some false) : IsiN K ns m c := ⟨o.all, g, k.all o, z⟩
noncomputable def KivL (K : PySem.W.Frag) : List Addr → Prop
  | [] => True
  | c :: cs => PySem.W.kitOne K (.ref c) (.type "ValueError") = some true ∧ KivL K cs
theorem kiv_nil : KivL K [] := trivial
theorem kiv_cons {c : Addr} {cs : List Addr} (h : PySem.W.kitOne K (.ref c) (.type "ValueError") = some true) (t : KivL K cs) : KivL K (c :: cs) := ⟨h, t⟩
theorem KivL.all : ∀ {ns : List Str} {cs : List Addr}, OwnL K ns cs → KivL K cs → ∀ n ∈ ns, ∀ c', PySem.W.nsIn K mainGlobals n = some (some (.ref c')) → PySem.W.kitOne K (.ref c') (.type "ValueError") = some true
  | [], [], _, _, n, h => nomatch h
  | m :: ns, c :: cs, ⟨h, t⟩, ⟨h', t'⟩, n, hn => fun c' e => by
    rcases List.mem_cons.mp hn with z | z
    · rw [z, h.ns] at e; cases e; exact h'
    · exact t'.all t n z c' e
theorem isiV_of {ns : List Str} {cs : List Addr} (o : OwnL K ns cs) (g : ExcG K) (k : KivL K cs) : IsiV K ns := ⟨o.all, g, k.all o⟩
end
section
variable (K : PySem.W.Frag) (C : Addr)
end
section
variable {K : PySem.W.Frag} {C : Addr} {W : XK} {ta te : TE} {t tr : TA} {ea : Ev} {xa xr ex : Xv} {wi : TI}
end
end LE

namespace LE
open PySem L2 LR
noncomputable def exLoop (p : Pt) (b : Es) (x : Xv) : List D → Xv
  | [] => fun _ => none
  | d :: ds => fun E => (p.bind d E).bind fun E1 => match x E1 with
    | some m => some m
    | none => match b E1 with
      | some (.nx E2) => exLoop p b x ds E2
      | some (.ct E2) => exLoop p b x ds E2
      | _ => none
noncomputable def exFor (it : En → Option (List D)) (p : Pt) (b : Es) (x : Xv) : Xv := fun E => (it E).bind fun ds => exLoop p b x ds E
section
variable {K : PySem.W.Frag} {C : Addr} {W : XK} {t : TS} {et : Es} {xt : Xv}
theorem xx_forB {wi : TI} {g : TG} {it : En → Option (List LE.D)} {p : Pt} (hi : SI K C false wi it) (hg : SG K C g p) (ht : SS K C t et) (hx : SXS K C W t xt) : SXS K C W (tFor wi g t) (exFor it p et xt) := by
  intro B H0 H σ E m D I e f
  obtain ⟨ds, e1, e⟩ := bind_some e
  refine hi B H0 H σ E ds _ I e1 fun J H1 H1' s1 ok => ?_
  rw [if_neg (by simp)] at ok
  refine ⟨fun i k σ' H' => k = ds.length - i ∧ i ≤ ds.length ∧ ∃ H0' E', EnvR K C B H0' H' σ' E' ∧ SStep B H1 H0' H' ∧ exLoop p et xt (ds.drop i) E' = some m,
    ⟨ds.length, by simp, Nat.zero_le _, H1, E, I.step s1, .refl (I.b.trans s1.h) s1.i, e⟩, ?_⟩
  rintro i k σ' H' ⟨rfl, hi', H0', E', I', st, er⟩
  have stop := ok H0' H' st
  by_cases hlt : i < ds.length
  · have hd : ds[i]? = some ds[i] := by simp [hlt]
    obtain ⟨go, yl⟩ := stop.1 i _ hd
    refine .inr ⟨go, fun σ2 H2 => ∃ H02 E2, EnvR K C B H02 H2 σ2 E2 ∧ SStep B H1 H02 H2 ∧ exLoop p et xt (ds.drop (i + 1)) E2 = some m, fun σ2 H2 h => ⟨ds.length - (i + 1), by omega, rfl, hlt, h⟩, fun x H2 y => ?_⟩
    obtain ⟨H02, st2, rx⟩ := yl x H2 y
    rw [List.drop_eq_getElem_cons hlt, exLoop] at er
    obtain ⟨E1, b1, er⟩ := bind_some er
    have ss2 : SStep B H0' H02 H2 := st2.ss I'.b
    have all : SStep B H0 H02 H2 := ((s1.ss I.b).trans st).trans ss2
    refine hg B H02 H2 σ' E' E1 x _ _ (I'.step st2) rx b1 fun σ2 I2 => ?_
    split at er
    · next m' hm => cases er; exact hx B H02 H2 σ2 E1 m _ I2 hm fun c a H3 H3' hc s3 => f c a H3 H3' hc (all.trans s3)
    · split at er
      · next E2 hb => exact ht B H02 H2 σ2 E1 _ _ I2 hb fun σ3 H3 H3' s3 I3 => ⟨H3, E2, I3, (st.trans ss2).trans s3, er⟩
      · next E2 hb => exact ht B H02 H2 σ2 E1 _ _ I2 hb fun σ3 H3 H3' s3 I3 => ⟨H3, E2, I3, (st.trans ss2).trans s3, er⟩
      · cases er
  · have e3 : i = ds.length := by omega
    subst e3
    rw [List.drop_length, exLoop] at er
    cases er
end
end LE
namespace L2
open PySem PySem.Spec PyProof.Rows PySem.Calls LE
structure RoomH (k : Nat) (A : Around) : Prop where
  dp : A.depth + 3 * k + 5 < recursionLimit
  un : A.units + 16 * k + 200 < cLine
theorem Room.h {k : Nat} {A : Around} (r : Room k A) : RoomH k A := ⟨r.dp, r.un⟩
theorem RoomH.mono {j k : Nat} {A : Around} (r : RoomH k A) (h : j ≤ k) : RoomH j A := ⟨by have := r.dp; omega, by have := r.un; omega⟩
theorem RoomH.mark {k : Nat} {A : Around} (r : RoomH k A) (v : Option Value) : RoomH k (A.mark v) := ⟨r.dp, r.un⟩
theorem RoomH.deeper {k : Nat} {A : Around} (r : RoomH (k + 1) A) (env : Env) : RoomH k (A.deeper env) :=
  ⟨by have := r.dp; show A.depth + 1 + 3 * k + 5 < _; omega, by have := r.un; show A.units + 3 + 16 * k + 200 < _; omega⟩
theorem RoomH.units {k : Nat} {A : Around} (r : RoomH k A) : A.units + 64 < cLine := by have := r.un; omega
structure FnH (P : Program) (w : World) (K : PySem.W.Frag) (mg : Str → Option Value) (base : Heap) (k : Nat) (f : Addr) (fd : FuncData) (ps : List Str) (sp : Sp) : Prop where
  len : ∀ vs H Q E, sp vs H Q E → vs.length = ps.length
  run : ∀ (A : Around) (outer : List Env) (s : Shared) (H : Hp) (args : Args) (us : List Value) (vs : List V) (Q : VK) (E : XK), RoomH k A → Env0 P w K mg base A outer s H → BindsTo s fd args (ps.zip us) → Vals vs us → sp vs H Q E →
    codeAny (model P w) A (.call (.ref f) args) (CR CX0 outer P w H s Q E) s
theorem FnH.ok {P : Program} {w : World} {K : PySem.W.Frag} {mg : Str → Option Value} {base : Heap} {k : Nat} {f : Addr} {fd : FuncData} {ps : List Str} {sp : Sp} (F : FnH P w K mg base k f fd ps sp) : FnOk P w K mg base CX0 k f fd ps sp :=
  ⟨F.len, fun A outer s H args us vs Q E hr => F.run A outer s H args us vs Q E hr.h⟩
structure CalH (P : Program) (w : World) (K : PySem.W.Frag) (mg : Str → Option Value) (base : Heap) (x : Str) (k : Nat) (ps : List Str) (sp : Sp) : Prop where
  ex : ∃ (f : Addr) (fd : FuncData), FnH P w K mg base k f fd ps sp ∧ mg x = some (.ref f) ∧ PySem.W.keepIn K (.ref f) = true ∧ Binds K fd ps []
section
variable {X : Cx} {k : Nat} {ps : List Str} {sp : Sp} {x : Str} {p pos : Pos} {e : Expr} {es : List Expr} {t : TA}
end
end L2

namespace L2
open PySem PySem.Spec PyProof.Rows PySem.Calls LE
structure CalMX (P : Program) (w : World) (K : PySem.W.Frag) (mg : Str → Option Value) (base : Heap) (x : Str) (C : Addr) (k : Nat) (ps : List Str) (sp : Sp) : Prop where
  ex : ∃ (f : Addr) (fd : FuncData), Mk K C f ∧ FnOk P w K mg base (CX1 P w) k f fd ps sp ∧ mg x = some (.ref C) ∧ Binds K fd ps []
section
variable {X : Cx} {k : Nat} {C : Addr} {ps : List Str} {sp : Sp} {x : Str} {p pos : Pos} {e : Expr} {es : List Expr} {t : TA}
end
end L2
namespace LE
open PySem L2 LR
section
variable (K : PySem.W.Frag) (C : Addr)
end
section
variable {K : PySem.W.Frag} {C : Addr} {W : XK} {t : TA} {ev : En → Option (List Sl)} {H0 H H2 : Hp}
noncomputable def as_no (ss : List Sl) : Bool := ss.all fun s => !isOwn s
theorem RRL.more {vs : List V} {ss : List Sl} (st : Same H H2) : as_no ss = true → RRL K C H H0 H vs ss → RRL K C H2 H0 H2 vs ss := fun ho r => by
  revert ho
  induction r with
  | nil => exact fun _ => .nil
  | @cons v s vs ss h _ ih =>
    intro ho
    have hs : isOwn s = false ∧ as_no ss = true := by
      unfold as_no at ho ⊢
      rw [List.all_cons, Bool.and_eq_true] at ho
      exact ⟨by simpa using ho.1, ho.2⟩
    refine .cons ?_ (ih hs.2)
    cases s with
    | no => exact h
    | sh d => exact h
    | bo ds => obtain ⟨l, xs, e, g, q⟩ := h; exact ⟨l, xs, e, st _ _ g, q⟩
    | bd ks ds => obtain ⟨l, xs, e, g, q⟩ := h; exact ⟨l, xs, e, st _ _ g, q⟩
    | own ds => exact absurd hs.1 (by simp [isOwn])
    | od ks ds => exact absurd hs.1 (by simp [isOwn])
end
end LE

namespace L2
open PySem PySem.Spec PyProof.Rows PySem.Calls
theorem eqGives_bool (a b : Bool) : MeetsSeq.EqGives (.bool a) (.bool b) (a == b) := fun prog w A E s Q h => by
  unfold eqBool
  show wpAny _ _ (if (Value.bool a == Value.bool b) = true then _ else _) Q E s
  by_cases hab : (Value.bool a == Value.bool b) = true
  · rw [if_pos hab]
    have e : a = b := by have := eq_of_beq hab; injection this
    subst e
    exact wpAny_bind (wpAny_rule (wpAny_pure (by simpa using h)))
  · rw [if_neg hab]
    exact wpAny_bind (PyProof.Rows.eq_bool (wpAny_truthy_bool h))
theorem bools_of : ∀ {bs : List Bool} {its : List Value}, Vals (bs.map V.bl) its → its = bs.map Value.bool
  | [], _, r => by cases r; rfl
  | b :: bs, _, r => by
    cases r with
    | cons h t => cases (show _ = Value.bool b from h); rw [bools_of t]; rfl
def rCountB : V → List V → Hp → VK → Prop := fun x vs H Q => ∃ (l : Addr) (bs : List Bool) (b : Bool), x = .ref l ∧ vs = [.bl b] ∧ H l = some (.lst (bs.map V.bl)) ∧ Q (.int (bs.count b : Nat)) H
def efB (b : Bool) : Value → Bool := fun v => match v with
  | .bool a => a == b
  | _ => false
theorem count_efB (b : Bool) : ∀ bs : List Bool, (bs.map Value.bool).countP (efB b) = bs.count b
  | [] => rfl
  | a :: bs => by
    rw [List.map_cons, List.countP_cons, count_efB b bs, List.count_cons]
    rfl
section
variable {X : Cx}
theorem mt_countB : MtR X "list.count" rCountB := by
  intro pins s σ H x vs v us Q I rx rv h
  obtain ⟨l, bs, b, rfl, rfl, hH, q⟩ := h
  cases rx
  obtain ⟨u, rfl, hu⟩ := rv.one
  cases (show u = Value.bool b from hu)
  obtain ⟨z, its, n, r, hl, e⟩ := I.lstM hH
  cases bools_of r
  refine call_meets F.slot_list_count ⟨_, e, rfl⟩ F.entry_list_count (F.args_list_count_2 _ _) (MeetsSeq.list_count l (bs.map Value.bool).toArray n (.bool b) (efB b) (fun y hy => ?_)) ⟨e, ?_⟩
  · have hy' : y ∈ bs.map Value.bool := by simpa using hy
    obtain ⟨a, _, rfl⟩ := List.mem_map.mp hy'
    exact eqGives_bool a b
  · refine ⟨.int (bs.count b : Nat), H, I.tok _, ⟨s.toks, ?_⟩, q⟩
    show Value.int (((bs.map Value.bool).countP (efB b) : Nat) : Int) s.toks = _
    rw [count_efB]
end
end L2
namespace LE
open PySem L2 LR
noncomputable def lst? : Sl → Option (List D)
  | .bo ds => some ds
  | .own ds => some ds
  | .sh (.lst ds) => some ds
  | _ => none
noncomputable def eMB (f : List Bool → Bool → Option Int) (o a : Ev) : Ev := fun E => (o E).bind fun s => (lst? s).bind fun ds => (bls? ds).bind fun bs => (a E).bind fun y => (bool? y).bind fun b => (f bs b).map fun i => .sh (.int i)
noncomputable def fCnt (bs : List Bool) (b : Bool) : Option Int := some (bs.count b : Nat)
section
variable {K : PySem.W.Frag} {C : Addr} {to te : TE} {eo ea : Ev} {Hs H0 H : Hp} {v : V}
theorem RR.lst {s : Sl} {ds : List D} (i : Same H0 H) (r : RR K C Hs H0 H v s) (e : lst? s = some ds) : ∃ l xs, v = .ref l ∧ H l = some (.lst xs) ∧ RDL K C H0 xs ds := by
  cases s with
  | bo es => cases e; exact r
  | own es => cases e; obtain ⟨l, xs, e, h, _, _, q⟩ := r; exact ⟨l, xs, e, h, q⟩
  | sh d =>
    cases d with
    | lst es => cases e; obtain ⟨l, xs, e, h, q⟩ := RD.lstI r; exact ⟨l, xs, e, i _ _ h, q⟩
    | _ => cases e
  | _ => cases e
theorem s_mb {rm : V → List V → Hp → VK → Prop} {f : List Bool → Bool → Option Int} (hm : ∀ (l : Addr) (bs : List Bool) (b : Bool) (i : Int) (H : Hp) (Q : VK), H l = some (.lst (bs.map V.bl)) → f bs b = some i → Q (.int i) H → rm (.ref l) [.bl b] H Q)
    (ho : SE K C to eo) (ha : SE K C te ea) : SE K C (tBM K "list" rm to (tCons te tNil)) (eMB f eo ea) := by
  intro B H0 H σ E r Q I e q
  obtain ⟨s, e1, e⟩ := bind_some e
  obtain ⟨ds, e2, e⟩ := bind_some e
  obtain ⟨bs, e3, e⟩ := bind_some e
  obtain ⟨y, e4, e⟩ := bind_some e
  obtain ⟨b, e5, e⟩ := bind_some e
  obtain ⟨i, e6, rfl⟩ := map_some e
  refine ho B H0 H σ E s _ I e1 fun x H1 H1' s1 r1 => ?_
  obtain ⟨l, xs, rfl, hl, rl⟩ := r1.lst s1.i e2
  refine ⟨.inl ⟨rfl, _, .of hl⟩, ?_⟩
  refine ha B H1 H1' σ E y _ (I.step s1) e4 fun u H2 H2' s2 r2 => ?_
  rw [bool_some e5] at r2
  cases RD.blI r2
  rw [bls_some e3] at rl
  have hx := RDL.bls rl
  subst hx
  exact hm l bs b i H2' Q (s2.h _ _ hl) e6 (q _ _ _ (s1.trans s2) (RD.int i))
theorem s_count (ho : SE K C to eo) (ha : SE K C te ea) : SE K C (tBM K "list" rCountB to (tCons te tNil)) (eMB fCnt eo ea) :=
  s_mb (fun l bs b i H Q h e q => by cases e; exact ⟨l, bs, b, rfl, rfl, h, q⟩) ho ha
end
end LE

namespace LE
open PySem L2 LR
noncomputable def xRevL (i : Nat) : Es := fun E => match E[i]? with
  | some (.own ds) => some (.nx (E.set i (.own ds.reverse)))
  | _ => none
section
variable {K : PySem.W.Frag} {C : Addr}
theorem RDL.rev {H : Hp} {xs : List V} {ds : List D} (r : RDL K C H xs ds) : RDL K C H xs.reverse ds.reverse := by
  have key : ∀ {xs : List V} {ds : List D}, RDL K C H xs ds → RDL K C H xs.reverse ds.reverse := by
    intro xs
    induction xs with
    | nil =>
      intro ds r
      cases ds with
      | nil => exact .nil
      | cons d ds => have := r.1; simp at this
    | cons x xs ih =>
      intro ds r
      cases ds with
      | nil => have := r.1; simp at this
      | cons d ds =>
        rw [List.reverse_cons, List.reverse_cons]
        exact (ih r.tail).snoc r.head
  exact key r
theorem x_revL {i : Nat} : SS K C (tDrop (tBM0 K "list" rReverse (tVar i))) (xRevL i) := by
  intro B H0 H σ E o D I e f
  unfold xRevL at e
  split at e
  · next ds h =>
    cases e
    obtain ⟨l, xs, g1, g2, g3, g4, g5⟩ := I.slot h
    have m := I.mut (xs := xs) h g1 (RDL.rev g5)
    exact ⟨_, g1, .inl ⟨rfl, _, .of g2⟩, l, xs, rfl, rfl, g2, f _ _ _ ⟨m.b, Same.refl _, fun _ _ e => .inl e, m.h⟩ m⟩
  · cases e
end
end LE

namespace PySem
abbrev ZipOut (h : Heap) (z TI TO a : Addr) (f : Bool) : Prop :=
  h.get? z = some { cls := .type "zip", dict := none, data := .fields #[rawInt a, .bool f, .bool false, .ref TI, .ref TO], slots := #[] }
section
variable {prog : Program} {w : World} {A : Around} {E : Value → Shared → Prop} {s : Shared} {z TI TO i1 i2 a : Addr} {f : Bool} {oa : Obj} {p1 p2 : List Addr} {n1 n2 k : Nat} {P1 P2 : Nat → Value → Prop} {S1 S2 : Nat → Heap → Prop}
theorem zip_free {Q : Bool → Shared → Prop} (gz : ZipOut s.heap z TI TO a f) (ha : s.heap.get? a = some oa) (h : ∀ h', ZipOut h' z TI TO a true → Heap.SameBut z s.heap h' → Q false { s with heap := h' }) : wpAny (model prog w) A (Builtin.SmallTypes.ownedTupleIsFree (.ref z)) Q E s := by
  unfold Builtin.SmallTypes.ownedTupleIsFree
  refine wpAny_bind (wpAny_field gz rfl (x := rawInt a) rfl ?_)
  show wpAny _ _ (loadIfAlive (Int.toNat (a : Int)) >>= _) _ _ _
  rw [Int.toNat_natCast]
  refine wpAny_bind (PySem.W.kdx_alive ha ?_)
  show wpAny _ _ (field (.ref z) 1 >>= _) _ _ _
  refine wpAny_bind (wpAny_field gz rfl (x := .bool f) rfl ?_)
  cases f with
  | true => exact wpAny_pure (h _ gz (Heap.SameBut.refl _ _))
  | false => exact wpAny_bind (wpAny_setField_rec gz (by simp) fun h' y e => wpAny_pure (h h' y e))
theorem zip_itemO {Q : Value → Shared → Prop} (D : ZA z TI TO i1 i2 p1 p2) (D1 : Draws prog w A i1 p1 n1 P1 S1) (D2 : Draws prog w A i2 p2 n2 P2 S2) (gz : ZipOut s.heap z TI TO a f) (ha : s.heap.get? a = some oa) (gI : IsPair s.heap TI (.ref i1) (.ref i2))
    (st1 : S1 k s.heap) (st2 : S2 k s.heap) (l1 : k < n1) (l2 : k < n2)
    (hQ : ∀ x y h' tk, P1 k x → P2 k y → ZipOut h' z TI TO a true → S1 (k + 1) h' → S2 (k + 1) h' → IsPair h' s.heap.objs.size x y → h'.objs.size = s.heap.objs.size + 1 →
      (∀ c o, c ≠ z → c ≠ i1 → c ≠ i2 → s.heap.get? c = some o → h'.get? c = some o) → Q (.ref s.heap.objs.size) { s with heap := h', toks := tk }) :
    wpAny (model prog w) A (Builtin.«zip.__next__» ⟨[.ref z], []⟩) (fun fin s' => ∃ v, fin = .done (.ret v) ∧ Q v s') E s := by
  obtain ⟨hp, g, d, t0, os⟩ := s
  have zi1 : i1 ≠ z := fun q => D.z1 (q ▸ D.m1)
  have zi2 : i2 ≠ z := fun q => D.z2 (q ▸ D.m2)
  show wpAny _ _ (field (.ref z) 2 >>= _) _ _ _
  refine wpAny_bind (wpAny_field gz rfl (x := .bool false) rfl (show wpAny _ _ (field (.ref z) 3 >>= _) _ _ _ from wpAny_bind (wpAny_field gz rfl (x := .ref TI) rfl (wpAny_bind (wpAny_seqItems gI rfl ?_)))))
  show wpAny _ _ (Builtin.SmallTypes.ownedTupleIsFree (.ref z) >>= _) _ _ _
  refine wpAny_bind (zip_free gz ha fun k1 y1 e1 => ?_)
  replace e1 : Heap.SameBut z hp k1 := e1
  simp only [Bool.false_eq_true, if_false]
  refine wpAny_bind ?_
  simp only [← Array.forIn_toList, List.forIn_cons, List.forIn_nil]
  refine wpAny_bind (wpAny_bind (wpAny_holding (show wpAny _ _ (Builtin.SmallTypes.nextOf (.ref i1) >>= _) _ _ _ from wpAny_bind (D1.item k _ _ _ l1 (D1.frame _ _ _ st1 fun b hb o q => e1.extBut b o (fun r => D.z1 (r ▸ hb)) q) fun x k2 t2 px s2 e2 => wpAny_pure ?_))))
  replace e2 : Heap.SameBut i1 k1 k2 := e2
  refine wpAny_pure ?_
  have st2' : S2 k k2 := D2.frame _ _ _ st2 fun b hb o q => e2.extBut b o (fun r => D.x1 (r ▸ hb)) (e1.extBut b o (fun r => D.z2 (r ▸ hb)) q)
  refine wpAny_bind (wpAny_bind (wpAny_holding (show wpAny _ _ (Builtin.SmallTypes.nextOf (.ref i2) >>= _) _ _ _ from wpAny_bind (D2.item k _ _ _ l2 st2' fun y k4 t4 py s4 e4 => wpAny_pure ?_))))
  replace e4 : Heap.SameBut i2 k2 k4 := e4
  refine wpAny_pure (wpAny_pure (wpAny_bind (wpAny_newTuple (hsz := show 2 ≤ sizeLine by decide) (wpAny_pure ⟨_, rfl, ?_⟩))))
  have hsz : k4.objs.size = hp.objs.size := by rw [e4.1, e2.1, e1.1]
  have Z4 : ZipOut k4 z TI TO a true := e4.extBut _ _ (Ne.symm zi2) (e2.extBut _ _ (Ne.symm zi1) y1)
  show Q (.ref k4.objs.size) _
  rw [hsz]
  refine hQ x y _ t4 px py (Heap.get?_push_of_some _ Z4) ?_ ?_ ?_ (by rw [Heap.size_push, hsz]) fun c o c1 c2 c3 q => Heap.get?_push_of_some _ (e4.extBut _ _ c3 (e2.extBut _ _ c2 (e1.extBut _ _ c1 q)))
  · exact D1.frame _ _ _ s2 fun b hb o q => Heap.get?_push_of_some _ (e4.extBut b o (fun r => D.x2 (r ▸ hb)) q)
  · exact D2.frame _ _ _ s4 fun b hb o q => Heap.get?_push_of_some _ q
  · show (k4.push _).get? hp.objs.size = _
    rw [← hsz]
    exact Heap.get?_push_size _ rfl
theorem zip_endO {Q : Fin → Shared → Prop} (D : ZA z TI TO i1 i2 p1 p2) (D1 : Draws prog w A i1 p1 n1 P1 S1) (D2 : Draws prog w A i2 p2 n2 P2 S2) (gz : ZipOut s.heap z TI TO a f) (ha : s.heap.get? a = some oa) (gI : IsPair s.heap TI (.ref i1) (.ref i2))
    (st1 : S1 k s.heap) (st2 : S2 k s.heap) (hend : k = n1 ∨ (k < n1 ∧ k = n2))
    (hE : ∀ h' e tk, (∀ c o, c ≠ z → c ≠ i1 → c ≠ i2 → s.heap.get? c = some o → h'.get? c = some o) → (∃ o, h'.get? e = some o ∧ o.cls = .type "StopIteration") → E (.ref e) { s with heap := h', toks := tk }) :
    wpAny (model prog w) A (Builtin.«zip.__next__» ⟨[.ref z], []⟩) Q E s := by
  obtain ⟨hp, g, d, t0, os⟩ := s
  show wpAny _ _ (field (.ref z) 2 >>= _) _ _ _
  refine wpAny_bind (wpAny_field gz rfl (x := .bool false) rfl (show wpAny _ _ (field (.ref z) 3 >>= _) _ _ _ from wpAny_bind (wpAny_field gz rfl (x := .ref TI) rfl (wpAny_bind (wpAny_seqItems gI rfl ?_)))))
  show wpAny _ _ (Builtin.SmallTypes.ownedTupleIsFree (.ref z) >>= _) _ _ _
  refine wpAny_bind (zip_free gz ha fun k1 y1 e1 => ?_)
  replace e1 : Heap.SameBut z hp k1 := e1
  simp only [Bool.false_eq_true, if_false]
  refine wpAny_bind ?_
  simp only [← Array.forIn_toList, List.forIn_cons, List.forIn_nil]
  have q1 : S1 k k1 := D1.frame _ _ _ st1 fun b hb o q => e1.extBut b o (fun r => D.z1 (r ▸ hb)) q
  rcases hend with rfl | ⟨l1, rfl⟩
  · refine wpAny_bind (wpAny_bind (wpAny_holding (show wpAny _ _ (Builtin.SmallTypes.nextOf (.ref i1) >>= _) _ _ _ from wpAny_bind (D1.done _ _ _ q1 fun k2 e e2 he => ?_))))
    replace e2 : Heap.ExtBut i1 k1 k2 := e2
    exact hE k2 e t0 (fun c o c1 c2 _ q => e2 _ _ c2 (e1.extBut _ _ c1 q)) he
  · refine wpAny_bind (wpAny_bind (wpAny_holding (show wpAny _ _ (Builtin.SmallTypes.nextOf (.ref i1) >>= _) _ _ _ from wpAny_bind (D1.item k _ _ _ l1 q1 fun x k2 t2 px s2 e2 => wpAny_pure ?_))))
    replace e2 : Heap.SameBut i1 k1 k2 := e2
    refine wpAny_pure ?_
    have st2' : S2 k k2 := D2.frame _ _ _ st2 fun b hb o q => e2.extBut b o (fun r => D.x1 (r ▸ hb)) (e1.extBut b o (fun r => D.z2 (r ▸ hb)) q)
    refine wpAny_bind (wpAny_bind (wpAny_holding (show wpAny _ _ (Builtin.SmallTypes.nextOf (.ref i2) >>= _) _ _ _ from wpAny_bind (D2.done _ _ _ st2' fun k4 e e4 he => ?_))))
    replace e4 : Heap.ExtBut i2 k2 k4 := e4
    exact hE k4 e t2 (fun c o c1 c2 c3 q => e4 _ _ c3 (e2.extBut _ _ c2 (e1.extBut _ _ c1 q))) he
end
end PySem

namespace PySem
section
variable {prog : Program} {w : World} {A : Around} {E : Value → Shared → Prop} {s : Shared} {b1 b2 : Bool} {a1 a2 z TI TO i1 i2 S : Addr} {xs ys : Array Value} {i : Nat}
def LzSt (b1 b2 : Bool) (a1 a2 z TI TO i1 i2 S : Addr) (xs ys : Array Value) (i : Nat) (h : Heap) : Prop :=
  IsPair h TI (.ref i1) (.ref i2) ∧ (IsItr b1 h i1 a1 i ∧ IsSq b1 h a1 xs) ∧ (IsItr b2 h i2 a2 i ∧ IsSq b2 h a2 ys) ∧
  ((IsZip h z TI TO .none ∧ ∃ u v, IsPair h TO u v) ∨ ∃ a f oa, ZipOut h z TI TO a f ∧ h.get? a = some oa ∧ a ≠ S ∧ a ≠ z ∧ a ≠ i1 ∧ a ≠ i2)
theorem IsSq.keep {b : Bool} {h h' : Heap} {a : Addr} {xs : Array Value} (q : IsSq b h a xs) (k : ∀ o, h.get? a = some o → h'.get? a = some o) : IsSq b h' a xs := by
  cases b with
  | true => obtain ⟨o, e, r⟩ := q; exact ⟨o, k o e, r⟩
  | false => obtain ⟨o, e, r⟩ := q; exact ⟨o, k o e, r⟩
theorem IsItr.keep' {b : Bool} {h h' : Heap} {j a : Addr} {i : Nat} (q : IsItr b h j a i) (k : ∀ o, h.get? j = some o → h'.get? j = some o) : IsItr b h' j a i := by
  cases b with
  | true => obtain ⟨o, e, r⟩ := q; exact ⟨o, k o e, r⟩
  | false => obtain ⟨o, e, r⟩ := q; exact ⟨o, k o e, r⟩
theorem LzSt.keep {h h' : Heap} (x : LzSt b1 b2 a1 a2 z TI TO i1 i2 S xs ys i h) (k : ∀ b o, b ≠ S → h.get? b = some o → h'.get? b = some o) (n : S ∉ [z, TI, TO, i1, i2, a1, a2]) : LzSt b1 b2 a1 a2 z TI TO i1 i2 S xs ys i h' := by
  simp only [List.mem_cons, List.mem_nil_iff, or_false, not_or] at n
  obtain ⟨n1, n2, n3, n4, n5, n6, n7⟩ := n
  obtain ⟨x1, x2, x3, x4⟩ := x
  refine ⟨k _ _ (Ne.symm n2) x1, ⟨IsItr.keep' x2.1 fun o e => k _ o (Ne.symm n4) e, IsSq.keep x2.2 fun o e => k _ o (Ne.symm n6) e⟩, ⟨IsItr.keep' x3.1 fun o e => k _ o (Ne.symm n5) e, IsSq.keep x3.2 fun o e => k _ o (Ne.symm n7) e⟩, ?_⟩
  rcases x4 with ⟨y1, u, v, y2⟩ | ⟨a, f, oa, y1, y2, y3⟩
  · exact .inl ⟨k _ _ (Ne.symm n1) y1, u, v, k _ _ (Ne.symm n3) y2⟩
  · exact .inr ⟨a, f, oa, k _ _ (Ne.symm n1) y1, k _ _ y3.1 y2, y3⟩
theorem lz_item {Q : Option Value → Shared → Prop} (hh : A.handled = none) (Z : ZA z TI TO i1 i2 [i1, a1] [i2, a2]) (st : LzSt b1 b2 a1 a2 z TI TO i1 i2 S xs ys i s.heap) (hS : S < s.heap.objs.size) (l1 : i < xs.size) (l2 : i < ys.size)
    (hQ : ∀ u v h' tk, xs[i]? = some u → ys[i]? = some v → LzSt b1 b2 a1 a2 z TI TO i1 i2 S xs ys (i + 1) h' → IsPair h' s.heap.objs.size u v → h'.objs.size = s.heap.objs.size + 1 →
      (∀ c o, c ≠ z → c ≠ TO → c ≠ i1 → c ≠ i2 → s.heap.get? c = some o → h'.get? c = some o) → Q (some (.ref s.heap.objs.size)) { s with heap := h', toks := tk }) :
    wpAny (model prog w) A (pyNext (.ref z)) Q E s := by
  obtain ⟨x1, x2, x3, x4⟩ := st
  have ne1 : a1 ≠ i1 := fun q => by
    have := Z.x1
    subst q
    rcases x2 with ⟨e1, e2⟩
    cases b1 with
    | true => obtain ⟨o, h1, h2, _⟩ := e1; obtain ⟨o', h3, h4, _⟩ := e2; rw [h1] at h3; cases h3; rw [h2] at h4; exact absurd h4 (by decide)
    | false => obtain ⟨o, h1, h2, _⟩ := e1; obtain ⟨o', h3, h4, _⟩ := e2; rw [h1] at h3; cases h3; rw [h2] at h4; exact absurd h4 (by decide)
  have ne2 : a2 ≠ i2 := fun q => by
    subst q
    rcases x3 with ⟨e1, e2⟩
    cases b2 with
    | true => obtain ⟨o, h1, h2, _⟩ := e1; obtain ⟨o', h3, h4, _⟩ := e2; rw [h1] at h3; cases h3; rw [h2] at h4; exact absurd h4 (by decide)
    | false => obtain ⟨o, h1, h2, _⟩ := e1; obtain ⟨o', h3, h4, _⟩ := e2; rw [h1] at h3; cases h3; rw [h2] at h4; exact absurd h4 (by decide)
  have hh1 : A.in1.handled = none := hh
  have D1 := Draws.sq (prog := prog) (w := w) (b := b1) (xs := xs) hh1 i1 ne1
  have D2 := Draws.sq (prog := prog) (w := w) (b := b2) (xs := ys) hh1 i2 ne2
  have Tt : ∀ o, s.heap.get? z = some o → o.cls = .type "zip" → s.TypeIs (.ref z) "zip" := fun o e c => ⟨o, e, c⟩
  have i1lt : i1 < s.heap.objs.size := by
    cases b1 with
    | true => obtain ⟨o, h1, _⟩ := x2.1; exact Heap.lt_size h1
    | false => obtain ⟨o, h1, _⟩ := x2.1; exact Heap.lt_size h1
  have i2lt : i2 < s.heap.objs.size := by
    cases b2 with
    | true => obtain ⟨o, h1, _⟩ := x3.1; exact Heap.lt_size h1
    | false => obtain ⟨o, h1, _⟩ := x3.1; exact Heap.lt_size h1
  rcases x4 with ⟨y1, u0, v0, y2⟩ | ⟨a, f, oa, y1, y2, y3, y4, y5, y6⟩
  · have hT := Tt _ y1 rfl
    unfold pyNext
    refine wpAny_bind (wpAny_attempt (wpAny_callSpecial?_slot (name := Str.ofString "__next__") hT F.slot_zip_next (wpAny_call_entry F.slot_zip_next hT F.entry_zip_next (zip_itemD Z D1 D2 y1 x1 y2 x2 x3 l1 l2 fun u v k tk pu pv t1 t2 t3 t4 t5 t6 t7 t8 => wpAny_pure ?_) (F.args_zip_next_1 _))))
    exact hQ u v k tk pu pv ⟨t2, t4, t5, .inr ⟨_, false, _, t1, t6, Nat.ne_of_gt hS, Nat.ne_of_gt (Heap.lt_size y1), Nat.ne_of_gt i1lt, Nat.ne_of_gt i2lt⟩⟩ t6 t7 t8
  · have hT := Tt _ y1 rfl
    unfold pyNext
    refine wpAny_bind (wpAny_attempt (wpAny_callSpecial?_slot (name := Str.ofString "__next__") hT F.slot_zip_next (wpAny_call_entry F.slot_zip_next hT F.entry_zip_next (zip_itemO Z D1 D2 y1 y2 x1 x2 x3 l1 l2 fun u v k tk pu pv t1 t4 t5 t6 t7 t8 => wpAny_pure ?_) (F.args_zip_next_1 _))))
    have ti1 : TI ≠ i1 := fun q => Z.t1 (by rw [q]; simp)
    have ti2 : TI ≠ i2 := fun q => Z.t2 (by rw [q]; simp)
    exact hQ u v k tk pu pv ⟨t8 _ _ Z.a1 ti1 ti2 x1, t4, t5, .inr ⟨a, true, oa, t1, t8 _ _ y4 y5 y6 y2, y3, y4, y5, y6⟩⟩ t6 t7 fun c o c1 _ c3 c4 q => t8 c o c1 c3 c4 q
theorem lz_done {Q : Option Value → Shared → Prop} (hh : A.handled = none) (Z : ZA z TI TO i1 i2 [i1, a1] [i2, a2]) (st : LzSt b1 b2 a1 a2 z TI TO i1 i2 S xs ys i s.heap) (hend : i = xs.size ∨ (i < xs.size ∧ i = ys.size))
    (hQ : ∀ h' tk, (∀ c o, c ≠ z → c ≠ TO → c ≠ i1 → c ≠ i2 → s.heap.get? c = some o → h'.get? c = some o) → Q none { s with heap := h', toks := tk }) :
    wpAny (model prog w) A (pyNext (.ref z)) Q E s := by
  obtain ⟨x1, x2, x3, x4⟩ := st
  have ne1 : a1 ≠ i1 := fun q => by
    subst q
    rcases x2 with ⟨e1, e2⟩
    cases b1 with
    | true => obtain ⟨o, h1, h2, _⟩ := e1; obtain ⟨o', h3, h4, _⟩ := e2; rw [h1] at h3; cases h3; rw [h2] at h4; exact absurd h4 (by decide)
    | false => obtain ⟨o, h1, h2, _⟩ := e1; obtain ⟨o', h3, h4, _⟩ := e2; rw [h1] at h3; cases h3; rw [h2] at h4; exact absurd h4 (by decide)
  have ne2 : a2 ≠ i2 := fun q => by
    subst q
    rcases x3 with ⟨e1, e2⟩
    cases b2 with
    | true => obtain ⟨o, h1, h2, _⟩ := e1; obtain ⟨o', h3, h4, _⟩ := e2; rw [h1] at h3; cases h3; rw [h2] at h4; exact absurd h4 (by decide)
    | false => obtain ⟨o, h1, h2, _⟩ := e1; obtain ⟨o', h3, h4, _⟩ := e2; rw [h1] at h3; cases h3; rw [h2] at h4; exact absurd h4 (by decide)
  have hh1 : A.in1.handled = none := hh
  have D1 := Draws.sq (prog := prog) (w := w) (b := b1) (xs := xs) hh1 i1 ne1
  have D2 := Draws.sq (prog := prog) (w := w) (b := b2) (xs := ys) hh1 i2 ne2
  rcases x4 with ⟨y1, u0, v0, y2⟩ | ⟨a, f, oa, y1, y2, y3, y4, y5, y6⟩
  · have hT : s.TypeIs (.ref z) "zip" := ⟨_, y1, rfl⟩
    unfold pyNext
    refine wpAny_bind (wpAny_attempt (wpAny_callSpecial?_slot (name := Str.ofString "__next__") hT F.slot_zip_next (wpAny_call_entry F.slot_zip_next hT F.entry_zip_next (zip_endD Z D1 D2 y1 x1 y2 x2 x3 hend fun k e tk kk he => ?_) (F.args_zip_next_1 _))))
    obtain ⟨o, ho, hoc⟩ := he
    exact wpAny_bind (wpAny_isInstance (T := "StopIteration") (b := true) ⟨o, ho, hoc⟩ isSubtype_stop (wpAny_pure (hQ k tk kk)))
  · have hT : s.TypeIs (.ref z) "zip" := ⟨_, y1, rfl⟩
    unfold pyNext
    refine wpAny_bind (wpAny_attempt (wpAny_callSpecial?_slot (name := Str.ofString "__next__") hT F.slot_zip_next (wpAny_call_entry F.slot_zip_next hT F.entry_zip_next (zip_endO Z D1 D2 y1 y2 x1 x2 x3 hend fun k e tk kk he => ?_) (F.args_zip_next_1 _))))
    obtain ⟨o, ho, hoc⟩ := he
    exact wpAny_bind (wpAny_isInstance (T := "StopIteration") (b := true) ⟨o, ho, hoc⟩ isSubtype_stop (wpAny_pure (hQ k tk fun c o c1 _ c3 c4 q => kk c o c1 c3 c4 q)))
end
structure LzG (xs ys : Array Value) (lo : Addr) (h : Heap) (as : List Addr) : Prop where
  rise : as.Pairwise (· < ·)
  above : ∀ a ∈ as, lo < a
  pairs : ∀ (j : Nat) (a : Addr), as[j]? = some a → ∃ u v, xs[j]? = some u ∧ ys[j]? = some v ∧ IsPair h a u v
theorem LzG.there {xs ys : Array Value} {lo : Addr} {h : Heap} {as : List Addr} (g : LzG xs ys lo h as) {a : Addr} (ha : a ∈ as) : a < h.objs.size := by
  obtain ⟨j, hj⟩ := List.mem_iff_getElem?.mp ha
  obtain ⟨_, _, _, _, e⟩ := g.pairs j a hj
  exact Heap.lt_size e
section
variable {prog : Program} {w : World} {A : Around} {s : Shared} {R : Result → Shared → Prop} {b1 b2 : Bool} {a1 a2 z TI TO i1 i2 S : Addr} {xs ys : Array Value}
theorem lz_loop (hh : A.handled = none) (Z : ZA z TI TO i1 i2 [i1, a1] [i2, a2]) (nS : S ∉ [z, TI, TO, i1, i2, a1, a2]) (hlo : ∀ b ∈ [z, TI, TO, i1, i2], b < S) (n : Nat) (hn : n = min xs.size ys.size) (hz : n ≤ sizeLine) (res : Value) {h₁ : Heap}
    (hR : ∀ h' tk acc c as, (∀ b o, b ≠ S → b ≠ z → b ≠ TO → b ≠ i1 → b ≠ i2 → h₁.get? b = some o → h'.get? b = some o) → h'.get? S = some { cls := .type "list", dict := none, data := .seq acc c, slots := #[] } → as.length = n → LzG xs ys S h' as →
      acc.toList = as.map Value.ref → R (.ok (.ret res)) { s with heap := h', toks := tk }) :
    ∀ (k i : Nat) (h : Heap) (tk c : Nat) (acc : Array Value) (as : List Addr), n - i = k → i ≤ n → LzSt b1 b2 a1 a2 z TI TO i1 i2 S xs ys i h → (∀ b o, b ≠ S → b ≠ z → b ≠ TO → b ≠ i1 → b ≠ i2 → h₁.get? b = some o → h.get? b = some o) →
      h.get? S = some { cls := .type "list", dict := none, data := .seq acc c, slots := #[] } → acc.toList = as.map Value.ref → as.length = i → LzG xs ys S h as →
      codeAny (model prog w) A (.builtin "list.extend.loop" ⟨[.ref S, .ref z, res], []⟩) R { s with heap := h, toks := tk } := by
  have Sz : S ≠ z := Nat.ne_of_gt (hlo z (by simp))
  have ST : S ≠ TO := Nat.ne_of_gt (hlo TO (by simp))
  have S1 : S ≠ i1 := Nat.ne_of_gt (hlo i1 (by simp))
  have S2 : S ≠ i2 := Nat.ne_of_gt (hlo i2 (by simp))
  have off : ∀ {b : Addr}, S < b → b ≠ z ∧ b ≠ TO ∧ b ≠ i1 ∧ b ≠ i2 := fun {b} h =>
    ⟨Nat.ne_of_gt (Nat.lt_trans (hlo z (by simp)) h), Nat.ne_of_gt (Nat.lt_trans (hlo TO (by simp)) h), Nat.ne_of_gt (Nat.lt_trans (hlo i1 (by simp)) h), Nat.ne_of_gt (Nat.lt_trans (hlo i2 (by simp)) h)⟩
  intro k
  induction k with
  | zero =>
    intro i h tk c acc as hk hi hst hkeep hS hacc hal hG
    have hin : i = n := by omega
    refine codeAny_builtin PySem.F.entry_extend_loop ?_
    rw [Around.under_plainId PySem.F.plain_extend_loop _]
    show wpAny _ A.in1 (pyNext (.ref z) >>= _) _ _ _
    refine wpAny_bind (lz_done (s := { s with heap := h, toks := tk }) (A := A.in1) hh Z hst (by omega) fun h' tk' he => ?_)
    refine wpAny_pure (hR h' tk' acc c as (fun b o h1 h2 h3 h4 h5 e => he b o h2 h3 h4 h5 (hkeep b o h1 h2 h3 h4 h5 e)) (he S _ Sz ST S1 S2 hS) (by omega) ⟨hG.rise, hG.above, fun j a hj => ?_⟩ hacc)
    obtain ⟨u, v, e1, e2, e3⟩ := hG.pairs j a hj
    obtain ⟨o1, o2, o3, o4⟩ := off (hG.above a (List.mem_of_getElem? hj))
    exact ⟨u, v, e1, e2, he a _ o1 o2 o3 o4 e3⟩
  | succ k ih =>
    intro i h tk c acc as hk hi hst hkeep hS hacc hal hG
    have hlt : i < n := by omega
    have hsz : acc.size = i := by rw [← Array.length_toList, hacc, List.length_map, hal]
    have hSl : S < h.objs.size := Heap.lt_size hS
    refine codeAny_builtin PySem.F.entry_extend_loop ?_
    rw [Around.under_plainId PySem.F.plain_extend_loop _]
    show wpAny _ A.in1 (pyNext (.ref z) >>= _) _ _ _
    refine wpAny_bind (lz_item (s := { s with heap := h, toks := tk }) (A := A.in1) hh Z hst hSl (by omega) (by omega) fun u v h' tk' pu pv hst' ht hz' hkp => ?_)
    dsimp only at ht hz' hkp ⊢
    have hS' := hkp S _ Sz ST S1 S2 hS
    have up : ∀ b o, b ≠ S → h'.get? b = some o → (h'.update S (Obj.mapSeq (·.push (Value.ref h.objs.size)))).get? b = some o := fun b o hb e => (Heap.get?_update_other _ _ (Ne.symm hb)).trans e
    show wpAny _ A.in1 (updateSeq S (·.push (Value.ref h.objs.size)) >>= _) _ _ _
    refine wpAny_bind ?_
    refine wpAny_updateSeq hS' rfl (wpAny_pure ⟨plainId_quiet PySem.F.plain_extend_loop _, ih (i + 1) _ tk' _ (acc.push (Value.ref h.objs.size)) (as ++ [h.objs.size]) (by omega) hlt (hst'.keep up nS)
      (fun b o h1 h2 h3 h4 h5 e => up b o h1 (hkp b o h2 h3 h4 h5 (hkeep b o h1 h2 h3 h4 h5 e))) (Heap.get?_update_self _ hS' rfl) (by rw [Array.toList_push, hacc, List.map_append]; rfl) (by rw [List.length_append, hal]; rfl) ⟨?_, ?_, ?_⟩⟩) (by rw [hsz]; omega) (by show (acc.push (Value.ref h.objs.size)).size ≤ sizeLine + 1; rw [Array.size_push, hsz]; omega)
    · refine List.pairwise_append.mpr ⟨hG.rise, List.pairwise_singleton _ _, fun a ha b hb => ?_⟩
      rw [List.mem_singleton.mp hb]
      exact hG.there ha
    · intro a ha
      rcases List.mem_append.mp ha with ha | ha
      · exact hG.above a ha
      · rw [List.mem_singleton.mp ha]; exact hSl
    · intro j b hj
      rcases Nat.lt_trichotomy j as.length with h1 | h1 | h1
      · rw [List.getElem?_append_left h1] at hj
        obtain ⟨u', v', e1, e2, e3⟩ := hG.pairs j b hj
        have hb := hG.above b (List.mem_of_getElem? hj)
        obtain ⟨o1, o2, o3, o4⟩ := off hb
        exact ⟨u', v', e1, e2, up b _ (Nat.ne_of_gt hb) (hkp b _ o1 o2 o3 o4 e3)⟩
      · subst h1
        have hb : h.objs.size = b := by simpa using hj
        subst hb
        exact ⟨u, v, by rw [hal]; exact pu, by rw [hal]; exact pv, up _ _ (Nat.ne_of_gt hSl) ht⟩
      · have hnone : (as ++ [h.objs.size])[j]? = none := List.getElem?_eq_none (by rw [List.length_append, List.length_singleton]; omega)
        rw [hnone] at hj; cases hj
end
end PySem

namespace PySem
open PySem.Calls PyProof.Rows PyProof.V PySem.Spec
theorem lz_len : typeLookup (.type "zip") "__len__" = pure none := by rw [typeLookup_type, builtinLookup_eq_fast]; kernel_rfl
theorem lz_len2 : typeLookup (.type "zip") "__length_hint__" = pure none := by rw [typeLookup_type, builtinLookup_eq_fast]; kernel_rfl
section
variable {prog : Program} {w : World} {A : Around} {E : Value → Shared → Prop} {s : Shared} {b1 b2 : Bool} {a1 a2 z TI TO i1 i2 : Addr} {xs ys : Array Value}
theorem lz_hint (hT : s.TypeIs (.ref z) "zip") {Q : Bool → Shared → Prop} (h : Q true s) : wpAny (model prog w) A (Builtin.List.listLengthHint (.ref z)) Q E s := by
  unfold Builtin.List.listLengthHint
  refine wpAny_bind (wpAny_specialOf hT lz_len ?_)
  refine wpAny_ite_split (fun hab => absurd hab (by decide)) (fun _ => ?_)
  refine wpAny_ite_split (fun hab => absurd hab (by decide)) (fun _ => ?_)
  refine wpAny_bind (wpAny_specialOf hT lz_len2 ?_)
  exact wpAny_pure h
theorem lz_extend {R : Result → Shared → Prop} (hh : A.handled = none) (S : Addr) (Z : ZA z TI TO i1 i2 [i1, a1] [i2, a2]) (nS : S ∉ [z, TI, TO, i1, i2, a1, a2]) (hlo : ∀ b ∈ [z, TI, TO, i1, i2], b < S) (n : Nat) (hn : n = min xs.size ys.size) (hz : n ≤ sizeLine)
    (hzip : IsZip s.heap z TI TO .none) (st : LzSt b1 b2 a1 a2 z TI TO i1 i2 S xs ys 0 s.heap) (res : Value) (c₀ : Nat) (hS : s.heap.get? S = some { cls := .type "list", data := .seq #[] c₀ })
    (hR : ∀ h' tk acc c as, (∀ b o, b ≠ S → b ≠ z → b ≠ TO → b ≠ i1 → b ≠ i2 → s.heap.get? b = some o → h'.get? b = some o) → h'.get? S = some { cls := .type "list", dict := none, data := .seq acc c, slots := #[] } → as.length = n → LzG xs ys S h' as →
      acc.toList = as.map Value.ref → R (.ok (.ret res)) { s with heap := h', toks := tk }) :
    wpAny (model prog w) A.in1 (Builtin.List.listExtendWith (.ref S) (.ref z) res)
      (fun fin s' => match fin with | .done f => R (.ok f) s' | .again c' => c'.quiet = true ∧ codeAny (model prog w) A c' R s') (fun e s' => R (.error e) s') s := by
  have key : ∀ (h : Heap) (c₁ tk : Nat), (∀ b o, b ≠ S → s.heap.get? b = some o → h.get? b = some o) →
      h.get? S = some { cls := .type "list", data := .seq #[] c₁ } → codeAny (model prog w) A (.builtin "list.extend.loop" ⟨[.ref S, .ref z, res], []⟩) R { s with heap := h, toks := tk } := by
    intro h c₁ tk hk hS₁
    exact lz_loop (s := s) (h₁ := s.heap) hh Z nS hlo n hn hz res hR n 0 h tk c₁ #[] [] (Nat.sub_zero _) (Nat.zero_le _) (st.keep hk nS) (fun b o hb _ _ _ _ e => hk b o hb e) hS₁ rfl rfl
      ⟨List.Pairwise.nil, (fun _ ha => nomatch ha), (fun j a hj => by simp at hj)⟩
  have hT : s.TypeIs (.ref z) "zip" := ⟨_, hzip, rfl⟩
  have hSz : S ≠ z := Nat.ne_of_gt (hlo z (by simp))
  unfold Builtin.List.listExtendWith
  refine wpAny_bind (wpAny_typeOf (T := "zip") hT ?_)
  have h1 : Builtin.List.listSameRef (.ref S) (.ref z) = false := by simp [Builtin.List.listSameRef, hSz]
  have h2 : (Value.type "zip" == Value.type "list") = false := by decide
  have h3 : (Value.type "zip" == Value.type "tuple") = false := by decide
  simp only [h1, h2, h3, Bool.or_false, Bool.false_eq_true, if_false]
  refine wpAny_bind (wpAny_pyIter_zip hzip ?_)
  refine wpAny_bind (wpAny_holding (lz_hint hT ?_))
  refine wpAny_ite_split (fun _ => ?_) (fun _ => wpAny_pure ⟨plainId_quiet PySem.F.plain_extend_loop _, key _ c₀ _ (fun b o _ e => e) hS⟩)
  refine wpAny_bind (wpAny_rule ?_)
  refine wpAny_bind ?_
  show wpAny _ _ (updateSeq S (·.push .none) >>= fun _ => updateSeq S (·.pop)) _ _ _
  refine wpAny_bind (wpAny_updateSeq hS rfl ?_)
  have hS₂ := Heap.get?_update_self (Obj.mapSeq (·.push Value.none)) hS rfl
  refine wpAny_updateSeq (hz := by seq_fits) hS₂ rfl ?_
  have hS₃ := Heap.get?_update_self (Obj.mapSeq (·.pop)) hS₂ rfl
  refine wpAny_pure ⟨plainId_quiet PySem.F.plain_extend_loop _, key _ _ _ (fun b o hb e => ?_) hS₃⟩
  exact (Heap.get?_update_other _ _ (Ne.symm hb)).trans ((Heap.get?_update_other _ _ (Ne.symm hb)).trans e)
theorem lz_init {R : Result → Shared → Prop} (hh : A.handled = none) (S : Addr) (Z : ZA z TI TO i1 i2 [i1, a1] [i2, a2]) (nS : S ∉ [z, TI, TO, i1, i2, a1, a2]) (hlo : ∀ b ∈ [z, TI, TO, i1, i2], b < S) (n : Nat) (hn : n = min xs.size ys.size) (hz : n ≤ sizeLine)
    (hzip : IsZip s.heap z TI TO .none) (st : LzSt b1 b2 a1 a2 z TI TO i1 i2 S xs ys 0 s.heap) (hS : s.heap.get? S = some { cls := .type "list", data := .seq #[] })
    (hR : ∀ h' tk acc c as, (∀ b o, b ≠ S → b ≠ z → b ≠ TO → b ≠ i1 → b ≠ i2 → s.heap.get? b = some o → h'.get? b = some o) → h'.get? S = some { cls := .type "list", dict := none, data := .seq acc c, slots := #[] } → as.length = n → LzG xs ys S h' as →
      acc.toList = as.map Value.ref → R (.ok (.ret .none)) { s with heap := h', toks := tk }) :
    wpAny (model prog w) A.in1 (Builtin.«list.__init__» ⟨[.ref S, .ref z], []⟩)
      (fun fin s' => match fin with | .done f => R (.ok f) s' | .again c' => c'.quiet = true ∧ codeAny (model prog w) A c' R s') (fun e s' => R (.error e) s') s := by
  have hSz : S ≠ z := Nat.ne_of_gt (hlo z (by simp))
  show wpAny _ _ (do let old ← Builtin.List.listItems (.ref S); Builtin.List.listUpdate (.ref S) (fun _ => #[]); letGo old.toList.reverse; Builtin.List.listExtendWith (.ref S) (.ref z) .none) _ _ s
  refine wpAny_bind ?_
  unfold Builtin.List.listItems
  refine wpAny_bind (wpAny_seqItems hS rfl (wpAny_pure ?_))
  show wpAny _ _ (updateSeq S (fun _ => #[]) >>= fun _ => letGo (#[] : Array Value).toList.reverse >>= fun _ => Builtin.List.listExtendWith (.ref S) (.ref z) .none) _ _ s
  refine wpAny_bind (wpAny_updateSeq hS rfl ?_)
  have hS₂ := Heap.get?_update_self (Obj.mapSeq (fun _ => (#[] : Array Value))) hS rfl
  have oth : ∀ b o, b ≠ S → s.heap.get? b = some o → (s.heap.update S (Obj.mapSeq (fun _ => (#[] : Array Value)))).get? b = some o :=
    fun b o hb e => (Heap.get?_update_other _ _ (Ne.symm hb)).trans e
  refine wpAny_bind (wpAny_letGo ?_)
  exact lz_extend hh S Z nS hlo n hn hz (oth _ _ hSz.symm hzip) (st.keep oth nS) .none _ hS₂ (fun h' tk acc c as hk hS' hl hG hacc => hR h' tk acc c as (fun b o hb h1 h2 h3 h4 e => hk b o hb h1 h2 h3 h4 (oth b o hb e)) hS' hl hG hacc)
theorem lz_call {Q : Value → Shared → Prop} (hh : A.handled = none) (Z : ZA z TI TO i1 i2 [i1, a1] [i2, a2]) (n : Nat) (hn : n = min xs.size ys.size) (hz : n ≤ sizeLine)
    (hzip : IsZip s.heap z TI TO .none) (gI : IsPair s.heap TI (.ref i1) (.ref i2)) (gO : IsPair s.heap TO .none .none) (t1 : IsItr b1 s.heap i1 a1 0) (t2 : IsItr b2 s.heap i2 a2 0) (q1 : IsSq b1 s.heap a1 xs) (q2 : IsSq b2 s.heap a2 ys)
    (hQ : ∀ h' tk acc c as, (∀ b o, b ≠ z → b ≠ TO → b ≠ i1 → b ≠ i2 → s.heap.get? b = some o → h'.get? b = some o) → h'.get? s.heap.objs.size = some { cls := .type "list", dict := none, data := .seq acc c, slots := #[] } → as.length = n → LzG xs ys s.heap.objs.size h' as →
      acc.toList = as.map Value.ref → Q (.ref s.heap.objs.size) { s with heap := h', toks := tk }) :
    wpAny (model prog w) A (call (.type "list") [.ref z]) Q E s := by
  refine callType_codes (Q₁ := fun obj s₁ => obj = .ref s.heap.objs.size ∧ s₁ = { s with heap := s.heap.push { cls := .type "list", data := .seq #[] } }) PySem.F.called_list (PySem.F.typeCall_list_1 _) PySem.F.entry_list_init
    (code_list_new _ ⟨rfl, rfl⟩) fun obj s₁ h₁ => ?_
  obtain ⟨rfl, rfl⟩ := h₁
  have hS : (s.heap.push { cls := .type "list", data := .seq #[] }).get? s.heap.objs.size = some { cls := .type "list", data := .seq #[] } := Heap.get?_push_size _ rfl
  have up : ∀ b o, s.heap.get? b = some o → (s.heap.push { cls := .type "list", data := .seq #[] }).get? b = some o := fun b o e => Heap.get?_push_of_some _ e
  have i1lt : i1 < s.heap.objs.size := by
    cases b1 with
    | true => obtain ⟨o, h1, _⟩ := t1; exact Heap.lt_size h1
    | false => obtain ⟨o, h1, _⟩ := t1; exact Heap.lt_size h1
  have i2lt : i2 < s.heap.objs.size := by
    cases b2 with
    | true => obtain ⟨o, h1, _⟩ := t2; exact Heap.lt_size h1
    | false => obtain ⟨o, h1, _⟩ := t2; exact Heap.lt_size h1
  have lo : ∀ b ∈ [z, TI, TO, i1, i2], b < s.heap.objs.size := fun b hb => by
    simp only [List.mem_cons, List.mem_nil_iff, or_false] at hb
    rcases hb with rfl | rfl | rfl | rfl | rfl
    · exact Heap.lt_size hzip
    · exact Heap.lt_size gI
    · exact Heap.lt_size gO
    · exact i1lt
    · exact i2lt
  have nS : s.heap.objs.size ∉ [z, TI, TO, i1, i2, a1, a2] := fun hm => by
    simp only [List.mem_cons, List.mem_nil_iff, or_false] at hm
    rcases hm with e | e | e | e | e | e | e
    · exact absurd (Heap.lt_size hzip) (by rw [e]; exact Nat.lt_irrefl _)
    · exact absurd (Heap.lt_size gI) (by rw [e]; exact Nat.lt_irrefl _)
    · exact absurd (Heap.lt_size gO) (by rw [e]; exact Nat.lt_irrefl _)
    · exact absurd i1lt (by rw [e]; exact Nat.lt_irrefl _)
    · exact absurd i2lt (by rw [e]; exact Nat.lt_irrefl _)
    · exact absurd q1.lt (by rw [e]; exact Nat.lt_irrefl _)
    · exact absurd q2.lt (by rw [e]; exact Nat.lt_irrefl _)
  refine ⟨⟨_, hS, rfl⟩, PySem.F.args_list_init_2 _ _, lz_init (A := A.in1) (b1 := b1) (b2 := b2) hh _ Z nS lo n hn hz (up _ _ hzip) ⟨up _ _ gI, ⟨IsItr.keep' t1 fun o e => up _ o e, q1.push _⟩, ⟨IsItr.keep' t2 fun o e => up _ o e, q2.push _⟩, .inl ⟨up _ _ hzip, _, _, up _ _ gO⟩⟩ hS (fun h' tk acc c as hk hS' hl hG hacc => ?_)⟩
  exact ⟨rfl, hQ h' tk acc c as (fun b o h1 h2 h3 h4 e => hk b o (Nat.ne_of_lt (Heap.lt_size e)) h1 h2 h3 h4 (up b o e)) hS' hl hG hacc⟩
end
end PySem

namespace L2
open PySem PySem.Spec PyProof.Rows
def layZ (H : Hp) : List Addr → List (V × V) → Hp
  | a :: as, kv :: kvs => upd (layZ H as kvs) a (.tup [kv.1, kv.2])
  | _, _ => H
theorem layZ_out {H : Hp} {b : Addr} : ∀ {as : List Addr} {kvs : List (V × V)}, b ∉ as → layZ H as kvs b = H b
  | [], _, _ => rfl
  | _ :: _, [], _ => rfl
  | a :: as, kv :: kvs, h => by
    rw [layZ, upd_ne fun z => h (by rw [z]; exact List.mem_cons_self)]
    exact layZ_out fun m => h (List.mem_cons_of_mem _ m)
theorem layZ_at {H : Hp} : ∀ {as : List Addr} {kvs : List (V × V)} {j : Nat} {a : Addr} {kv : V × V}, as.Nodup → as[j]? = some a → kvs[j]? = some kv → layZ H as kvs a = some (.tup [kv.1, kv.2])
  | [], _, _, _, _, _, e, _ => by simp at e
  | _ :: _, [], _, _, _, _, _, e => by simp at e
  | b :: as, kv' :: kvs, 0, a, kv, _, e1, e2 => by
    simp at e1 e2
    subst e1 e2
    rw [layZ, upd_same]
  | b :: as, kv' :: kvs, j + 1, a, kv, hn, e1, e2 => by
    rw [List.nodup_cons] at hn
    simp at e1 e2
    have hne : a ≠ b := fun z => hn.1 (by rw [← z]; exact List.mem_of_getElem? e1)
    rw [layZ, upd_ne hne]
    exact layZ_at hn.2 e1 e2
theorem nm2 {x y z : Nat} (h1 : x ≠ y) (h2 : x ≠ z) : x ∉ [y, z] := by simp [h1, h2]
theorem off5 {n b : Nat} (h : b < n) : b ≠ n + 4 ∧ b ≠ n + 3 ∧ b ≠ n ∧ b ≠ n + 1 ∧ b ≠ n + 2 := by omega
theorem za5 {n a1 a2 : Nat} (h1 : a1 < n) (h2 : a2 < n) : ZA (n + 4) (n + 2) (n + 3) n (n + 1) [n, a1] [n + 1, a2] :=
  ⟨show (n + 2 : Nat) ≠ n + 4 by omega, show (n + 3 : Nat) ≠ n + 4 by omega, show (n + 2 : Nat) ≠ n + 3 by omega, by simp, by simp,
    nm2 (by omega) (by omega), nm2 (by omega) (by omega), nm2 (by omega) (by omega), nm2 (by omega) (by omega), nm2 (by omega) (by omega), nm2 (by omega) (by omega), nm2 (by omega) (by omega), nm2 (by omega) (by omega)⟩
def tListZip (K : PySem.W.Frag) (ta : TA) : TE := fun σ H Q => ta σ H fun vs H1 => ∃ (b1 b2 : Bool) (a1 a2 : Addr) (xs ys : List V), vs = [.ref a1, .ref a2] ∧ Sq b1 K H1 a1 xs ∧ Sq b2 K H1 a2 ys ∧ (xs.zip ys).length ≤ sizeLine ∧
  ∀ (L : Addr) (as : List Addr), H1 L = none → as.length = (xs.zip ys).length → as.Nodup → L ∉ as → (∀ b ∈ as, H1 b = none) → Q (.ref L) (upd (layZ H1 as (xs.zip ys)) L (.lst (as.map V.ref)))
theorem pe_listZipK {X : Cx} {K : PySem.W.Frag} {a b : Expr} {ta : TA} {p pos p2 pos2 : Pos} (hK : X.K = K) (hc : X.calm = true) (hgl : Gl X "list") (hml : X.mg "list" = none) (hg : Gl X "zip") (hm : X.mg "zip" = none) (ha : PA X [a, b] ta) (hs : starEach [a, b] X.env = [(false, eval a X.env), (false, eval b X.env)] := by rfl)
    (hs2 : starEach [b] X.env = [(false, eval b X.env)] := by rfl) : PE X (.Call (.Name "list" p) [.Call (.Name "zip" p2) [a, b] [] pos2] [] pos) (tListZip K ta) := by
  subst hK
  intro pins s σ H Q I h
  refine Call_ (ld_blt I hgl hml bt_list (PyProof.Rows.callWith_type1 ?_ rfl rfl))
  show wpAny _ _ (spliced ((false, eval (.Call (.Name "zip" p2) [a, b] [] pos2) X.env) :: backTo pos (starEach [] X.env))) _ _ s
  refine Calls.spliced_cons ?_
  refine Call_ (ld_blt I hg hm bt_zip (PyProof.Rows.callWith_type1 (thn (ha pos2 pins s σ H _ I h) fun us s1 ⟨vs, H1, I1, r1, q1⟩ => ?_) (by rw [hs, hs2]) (by rw [hs2]; rfl)))
  obtain ⟨b1, b2, a1, a2, xs, ys, e, c1, c2, hz, q⟩ := q1
  subst e
  cases r1 with
  | cons r rr =>
  cases rr with
  | cons r' rr =>
  cases rr
  cases r
  cases r'
  obtain ⟨its, w1, p1⟩ := c1.heap I1
  obtain ⟨jts, w2, p2'⟩ := c2.heap I1
  have hh : X.A.handled = none := I1.ok.hd hc
  have n1 : its.toArray.size = xs.length := by rw [List.size_toArray, w1.length]
  have n2 : jts.toArray.size = ys.length := by rw [List.size_toArray, w2.length]
  have hzl : (xs.zip ys).length = min its.toArray.size jts.toArray.size := by rw [List.length_zip, n1, n2]
  refine call_zipD p1 p2' fun h' t1 t2 t3 t4 t5 kp => Calls.spliced_nil ?_
  have Z : ZA (s1.heap.objs.size + 4) (s1.heap.objs.size + 2) (s1.heap.objs.size + 3) s1.heap.objs.size (s1.heap.objs.size + 1) [s1.heap.objs.size, a1] [s1.heap.objs.size + 1, a2] := za5 p1.lt p2'.lt
  refine lz_call (s := { s1 with heap := h' }) hh Z (xs.zip ys).length hzl hz t1 t2 t3 t4 t5 (p1.keep fun o e => kp _ o e) (p2'.keep fun o e => kp _ o e) fun h2 tk acc c as hk hS hal hG hacc => ?_
  have hle : s1.heap.objs.size < h'.objs.size := Nat.lt_of_le_of_lt (Nat.le_add_right _ 4) (Heap.lt_size t1)
  have hnd : as.Nodup := hG.rise.imp fun {x y} h => Nat.ne_of_lt h
  have hLa : h'.objs.size ∉ as := fun m => absurd (hG.above _ m) (Nat.lt_irrefl _)
  have fr : ∀ b ∈ as, H1 b = none := fun b hb => I1.hok.fresh (Nat.le_of_lt (Nat.lt_trans hle (hG.above b hb)))
  have hne : H1 h'.objs.size = none := I1.hok.fresh (Nat.le_of_lt hle)
  refine ⟨.ref h'.objs.size, _, I1.more (t' := tk) (fun b u e => ?_) (fun b hb => ?_) (fun b o hb e => ?_), rfl, q h'.objs.size as hne hal hnd hLa fr⟩
  · obtain ⟨o1, o2, o3, o4, _⟩ := off5 (Heap.lt_size e)
    exact hk b u o1 o2 o3 o4 (kp b u e)
  · rw [upd_ne (Nat.ne_of_lt (Nat.lt_trans hb hle))]
    exact layZ_out fun m => absurd (hG.above b m) (Nat.not_lt.mpr (Nat.le_of_lt (Nat.lt_trans hb hle)))
  · by_cases hL : b = h'.objs.size
    · subst hL
      rw [upd_same] at e
      cases e
      refine ⟨by rw [List.length_map, hal]; exact hz, acc.toList, c, ?_, ?_⟩
      · rw [hacc]
        have : ∀ l : List Addr, Vals (l.map V.ref) (l.map Value.ref) := fun l => by
          induction l with
          | nil => exact .nil
          | cons x l ih => exact .cons rfl ih
        exact this as
      · rw [hS]
    · rw [upd_ne hL] at e
      by_cases hm : b ∈ as
      · obtain ⟨j, hj⟩ := List.mem_iff_getElem?.mp hm
        obtain ⟨u, v, e1, e2, e3⟩ := hG.pairs j b hj
        have hjl : j < (xs.zip ys).length := by have := (List.getElem?_eq_some_iff.mp hj).1; omega
        have hkv : (xs.zip ys)[j]? = some (xs.zip ys)[j] := List.getElem?_eq_getElem hjl
        have hx : xs[j]? = some (xs.zip ys)[j].1 := by
          rw [List.getElem_zip]
          exact List.getElem?_eq_getElem _
        have hy : ys[j]? = some (xs.zip ys)[j].2 := by
          rw [List.getElem_zip]
          exact List.getElem?_eq_getElem _
        obtain ⟨ux, hux, rux⟩ := w1.get hx
        obtain ⟨uy, huy, ruy⟩ := w2.get hy
        have eu : u = ux := by
          have e1' : its[j]? = some u := by simpa using e1
          rw [hux] at e1'; exact (Option.some.inj e1').symm
        have ev : v = uy := by
          have e2' : jts[j]? = some v := by simpa using e2
          rw [huy] at e2'; exact (Option.some.inj e2').symm
        subst eu ev
        rw [layZ_at hnd hj hkv] at e
        cases e
        exact ⟨by show 2 ≤ sizeLine; decide, [u, v], .cons rux (.cons ruy .nil), ⟨_, e3, rfl, _, rfl⟩⟩
      · rw [layZ_out hm, I1.hok.fresh hb] at e
        cases e
end L2

namespace LE
open PySem L2 LR
noncomputable def eZipL (as : En → Option (List Sl)) : Ev := fun E => (as E).bind fun ss => match ss with
  | [s, t] => (s.it true).bind fun ds => (t.it true).bind fun es => if ds.length ≤ sizeLine then some (.own (zipT ds es)) else none
  | _ => none
section
variable {K : PySem.W.Frag} {C : Addr}
theorem layZ_same {H : Hp} {kvs : List (V × V)} {as : List Addr} (h : ∀ b ∈ as, H b = none) : Same H (layZ H as kvs) := fun b o e => by
  rw [layZ_out fun m => by rw [h b m] at e; cases e]; exact e
theorem layZ_in {H : Hp} : ∀ {as : List Addr} {kvs : List (V × V)} {b : Addr} {o : HO}, layZ H as kvs b = some o → H b = some o ∨ b ∈ as
  | [], _, _, _, e => .inl e
  | _ :: _, [], _, _, e => .inl e
  | a :: as, kv :: kvs, b, o, e => by
    by_cases c : b = a
    · exact .inr (by rw [c]; exact List.mem_cons_self)
    · rw [layZ, upd_ne c] at e
      exact (layZ_in e).imp id fun m => List.mem_cons_of_mem _ m
theorem RDL.zips : ∀ {xs ys : List V} {ds es : List D} {as : List Addr} {H : Hp}, as.length = (xs.zip ys).length → (∀ (j : Nat) (a : Addr) (x y : V), as[j]? = some a → xs[j]? = some x → ys[j]? = some y → H a = some (.tup [x, y])) → RDL K C H xs ds → RDL K C H ys es → RDL K C H (as.map V.ref) (zipT ds es)
  | [], ys, ds, es, as, H, h1, _, r, r' => by
    have : ds = [] := by
      cases ds with
      | nil => rfl
      | cons d ds => have := r.1; simp at this
    subst this
    have : as = [] := List.eq_nil_of_length_eq_zero (by simpa using h1)
    subst this
    exact .nil
  | x :: xs, [], ds, es, as, H, h1, _, r, r' => by
    have : es = [] := by
      cases es with
      | nil => rfl
      | cons d ds => have := r'.1; simp at this
    subst this
    have : as = [] := List.eq_nil_of_length_eq_zero (by simpa using h1)
    subst this
    cases ds <;> exact .nil
  | x :: xs, y :: ys, [], es, as, H, h1, _, r, r' => by have := r.1; simp at this
  | x :: xs, y :: ys, d :: ds, [], as, H, h1, _, r, r' => by have := r'.1; simp at this
  | x :: xs, y :: ys, d :: ds, e :: es, [], H, h1, _, r, r' => by simp at h1
  | x :: xs, y :: ys, d :: ds, e :: es, a :: as, H, h1, h3, r, r' => by
    show RDL K C H (V.ref a :: as.map V.ref) (.tup [d, e] :: zipT ds es)
    exact .cons (.mkT (.of (h3 0 a x y rfl rfl rfl)) (.cons r.head (.cons r'.head .nil))) (RDL.zips (by simpa using h1) (fun j a x y e1 e2 e3 => h3 (j + 1) a x y (by simpa using e1) (by simpa using e2) (by simpa using e3)) r.tail r'.tail)
theorem s_zipL {t : TA} {ev : En → Option (List Sl)} (ha : SA K C t ev) : SE K C (tListZip K t) (eZipL ev) := by
  intro B H0 H σ E r Q I e q
  obtain ⟨ss, e1, e⟩ := bind_some e
  split at e
  · next s u =>
    obtain ⟨ds1, e2, e⟩ := bind_some e
    obtain ⟨ds2, e3, e⟩ := bind_some e
    split at e
    · next hz =>
      cases e
      refine ha B H0 H σ E _ _ I e1 fun vs H1 H1' s1 r1 => ?_
      obtain ⟨v, w, rfl, ra, rb⟩ := r1.two
      have f := frz_step (Hs := H) s1.i
      obtain ⟨b1, a1, xs, rfl, k1, w1⟩ := held (m := true) ra s1.i e2
      obtain ⟨b2, a2, ys, rfl, k2, w2⟩ := held (m := true) rb s1.i e3
      have st0 : SStep H1' (frzH H H1 H1') (frzH H H1 H1') H1' := ⟨Same.refl _, Same.refl _, fun _ _ e => .inl e, f.i⟩
      have s2 := s1.comp f fun _ z => z
      refine ⟨b1, b2, a1, a2, xs, ys, rfl, k1 _ (fun _ => rfl) _ _ st0, k2 _ (fun _ => rfl) _ _ st0, ?_, fun L as hL hal hnd hLa hfr => ?_⟩
      · rw [List.length_zip, w1.1]
        exact Nat.le_trans (Nat.min_le_left _ _) hz
      have fr0 : ∀ b ∈ as, frzH H H1 H1' b = none := fun b hb => Same.free s2.i (hfr b hb)
      have frH : ∀ b ∈ as, H b = none := fun b hb => Same.free s2.h (hfr b hb)
      have hL0 : frzH H H1 H1' L = none := Same.free s2.i hL
      have z0 : Same (frzH H H1 H1') (layZ (frzH H H1 H1') as (xs.zip ys)) := layZ_same fr0
      have zz : Same H1' (layZ H1' as (xs.zip ys)) := layZ_same hfr
      have hLl : layZ H1' as (xs.zip ys) L = none := by rw [layZ_out hLa]; exact hL
      have ii : Same (layZ (frzH H H1 H1') as (xs.zip ys)) (layZ H1' as (xs.zip ys)) := fun b o e => by
        by_cases hb : b ∈ as
        · obtain ⟨j, hj⟩ := List.mem_iff_getElem?.mp hb
          have hjl : j < (xs.zip ys).length := by
            have := (List.getElem?_eq_some_iff.mp hj).1
            omega
          have hkv := List.getElem?_eq_getElem hjl
          rw [layZ_at hnd hj hkv] at e ⊢
          exact e
        · rw [layZ_out hb] at e ⊢
          exact s2.i b o e
      refine q _ (layZ (frzH H H1 H1') as (xs.zip ys)) _ ⟨(s2.h.trans zz).trans (.new hLl), s2.z.trans z0, fun b o e => ?_, ii.trans (.new hLl)⟩ ⟨L, as.map V.ref, rfl, upd_same, by rw [layZ_out hLa]; exact hL0, Same.free s2.h hL, ?_⟩
      · rcases layZ_in e with z | z
        · exact s2.n b o z
        · exact .inr (.inl (frH b z))
      · refine RDL.zips hal (fun j a x y j1 j2 j3 => ?_) (w1.mono z0) (w2.mono z0)
        exact layZ_at (kv := (x, y)) hnd j1 (by rw [List.getElem?_zip_eq_some]; exact ⟨j2, j3⟩)
    · cases e
  · cases e
end
end LE

namespace L2
open PySem PySem.Spec PyProof.Rows
section
variable {X : Cx} {pins : List (Addr × Obj)} {σ : St} {H : Hp} {s : Shared} {a : Addr} {kvs : List (Key × V)} {k : Key} {z : V} {u r : Value} {A : Around} {E : Value → Shared → Prop}
end
section
variable {X : Cx} {o e f : Expr} {apos cpos : Pos} {td ty tx : TE}
end
end L2
namespace LE
open PySem L2 LR
section
variable (K : PySem.W.Frag) (C : Addr) (j : Nat)
noncomputable def Left (σ : St) (E : En) (σ' : St) (E' : En) : Prop := σ'[j]? = σ[j]? ∧ ∀ (i : Nat) (s : Sl), E'[i]? = some s → isOwn s = true → E[i]? = some s ∧ σ'[i]? = σ[i]?
end
section
variable {K : PySem.W.Frag} {C : Addr} {j : Nat}
theorem Left.refl (σ : St) (E : En) : Left j σ E σ E := ⟨rfl, fun _ _ e _ => ⟨e, rfl⟩⟩
theorem Left.trans {σ σ1 σ2 : St} {E E1 E2 : En} (a : Left j σ E σ1 E1) (b : Left j σ1 E1 σ2 E2) : Left j σ E σ2 E2 :=
  ⟨b.1.trans a.1, fun i s e o => by
    obtain ⟨h1, h2⟩ := b.2 i s e o
    obtain ⟨h3, h4⟩ := a.2 i s h1 o
    exact ⟨h3, h2.trans h4⟩⟩
end
end LE

namespace LE
open PySem L2 LR
section
variable (K : PySem.W.Frag) (C : Addr)
structure Grp (B H0 H : Hp) (σ : St) (E : En) (j c : Nat) (ks : List Int) (dss : List (List D)) (l : Addr) (ls : List Addr) : Prop where
  at' : σ[j]? = some (some (.ref l))
  dict : H l = some (dkO ks (ls.map V.ref))
  l0 : H0 l = none
  lb : B l = none
  len : ks.length = ls.length
  len2 : dss.length = ls.length
  cnt : ks.length ≤ c
  lists : ∀ (m : Nat) (a : Addr) (ds : List D), ls[m]? = some a → dss[m]? = some ds → ds.length ≤ c ∧ ∃ xs, H a = some (.lst xs) ∧ H0 a = none ∧ B a = none ∧ RDL K C H0 xs ds
  nd : (l :: ls).Nodup
  own : ∀ (i : Nat) (s : Sl) (a : Addr), E[i]? = some s → isOwn s = true → σ[i]? = some (some (.ref a)) → a ∉ l :: ls
end
section
variable {K : PySem.W.Frag} {C : Addr} {B H0 H H0' H' : Hp} {σ σ' : St} {E E' : En} {j c : Nat} {ks : List Int} {dss : List (List D)} {l : Addr} {ls : List Addr}
theorem Grp.there (g : Grp K C B H0 H σ E j c ks dss l ls) {a : Addr} (ha : a ∈ l :: ls) : ∃ o, H a = some o ∧ isT o = false ∧ H0 a = none ∧ B a = none := by
  rcases List.mem_cons.mp ha with z | z
  · subst z; exact ⟨_, g.dict, rfl, g.l0, g.lb⟩
  · obtain ⟨m, hm⟩ := List.mem_iff_getElem?.mp z
    have hl : m < dss.length := by rw [g.len2]; exact (List.getElem?_eq_some_iff.mp hm).1
    obtain ⟨_, xs, h1, h2, h3, _⟩ := g.lists m a dss[m] hm (List.getElem?_eq_getElem hl)
    exact ⟨_, h1, rfl, h2, h3⟩
theorem Grp.off (g : Grp K C B H0 H σ E j c ks dss l ls) (st : Step H H0 H H0' H') {a : Addr} (ha : a ∈ l :: ls) : H0' a = none := by
  obtain ⟨o, h1, h2, h3, _⟩ := g.there ha
  cases z : H0' a with
  | none => rfl
  | some u =>
    rcases st.n a u z with y | y | y
    · rw [h3] at y; cases y
    · rw [h1] at y; cases y
    · have := st.i a u z
      rw [st.h a o h1] at this
      cases this
      rw [h2] at y; cases y
theorem Grp.step (g : Grp K C B H0 H σ E j c ks dss l ls) (st : Step H H0 H H0' H') : Grp K C B H0' H' σ E j c ks dss l ls :=
  ⟨g.at', st.h _ _ g.dict, g.off st List.mem_cons_self, g.lb, g.len, g.len2, g.cnt, fun m a ds e1 e2 => by
    obtain ⟨h0, xs, h1, h2, h3, h4⟩ := g.lists m a ds e1 e2
    exact ⟨h0, xs, st.h _ _ h1, g.off st (List.mem_cons_of_mem _ (List.mem_of_getElem? e1)), h3, h4.mono st.z⟩, g.nd, g.own⟩
theorem Grp.left (g : Grp K C B H0 H σ E j c ks dss l ls) (f : Left j σ E σ' E') : Grp K C B H0 H σ' E' j c ks dss l ls :=
  ⟨f.1.trans g.at', g.dict, g.l0, g.lb, g.len, g.len2, g.cnt, g.lists, g.nd, fun i s a e o q => by
    obtain ⟨h1, h2⟩ := f.2 i s e o
    exact g.own i s a h1 o (by rw [← h2]; exact q)⟩
theorem Grp.free (g : Grp K C B H0 H σ E j c ks dss l ls) {a : Addr} (ha : a ∈ l :: ls) : ∀ (i : Nat) (s : Sl), E[i]? = some s → isOwn s = true → σ[i]? ≠ some (some (.ref a)) := fun i s e o q => g.own i s a e o q ha
theorem EnvR.fresh (I : EnvR K C B H0 H σ E) {p : Addr} (hp : H p = none) : ∀ (i : Nat) (s : Sl), E[i]? = some s → isOwn s = true → σ[i]? ≠ some (some (.ref p)) := fun i s e o q => by
  rcases I.at' i s e with z | ⟨v, q1, q2⟩
  · subst z; cases o
  · rw [q1] at q
    cases q
    cases s with
    | own es => obtain ⟨l', ys, p1, p2, _⟩ := q2; cases p1; rw [hp] at p2; cases p2
    | od ks es => obtain ⟨l', ys, p1, p2, _⟩ := q2; cases p1; rw [hp] at p2; cases p2
    | _ => cases o
end
end LE

namespace LE
open PySem L2 LR
section
variable {K : PySem.W.Frag} {C : Addr} {B H0 H H0' H' : Hp} {σ σ' : St} {E E' : En} {j c : Nat} {ks : List Int} {dss : List (List D)} {l : Addr} {ls : List Addr}
noncomputable def frzL (H0 H : Hp) (ls : List Addr) : Hp := fun a => if a ∈ ls then H a else H0 a
theorem rdl_lists {Hz : Hp} : ∀ {ls : List Addr} {dss : List (List D)}, dss.length = ls.length → (∀ (m : Nat) (a : Addr) (ds : List D), ls[m]? = some a → dss[m]? = some ds → ∃ xs, Hz a = some (.lst xs) ∧ RDL K C Hz xs ds) → RDL K C Hz (ls.map V.ref) (dss.map .lst)
  | [], [], _, _ => .nil
  | [], _ :: _, h, _ => by simp at h
  | _ :: _, [], h, _ => by simp at h
  | a :: ls, ds :: dss, h, f => by
    obtain ⟨xs, h1, h2⟩ := f 0 a ds rfl rfl
    exact .cons (.mkL h1 h2) (rdl_lists (by simpa using h) fun m a ds e1 e2 => f (m + 1) a ds (by simpa using e1) (by simpa using e2))
theorem Grp.done (I : EnvR K C B H0 H σ E) (g : Grp K C B H0 H σ E j c ks dss l ls) (hj : j < E.length) : SStep B H0 (frzL H0 H ls) H ∧ EnvR K C B (frzL H0 H ls) H σ (E.set j (.od ks (dss.map .lst))) := by
  have out : ∀ {a : Addr}, a ∉ ls → frzL H0 H ls a = H0 a := fun {a} h => if_neg h
  have inn : ∀ {a : Addr}, a ∈ ls → frzL H0 H ls a = H a := fun {a} h => if_pos h
  have z : Same H0 (frzL H0 H ls) := fun a o e => by
    by_cases c : a ∈ ls
    · rw [inn c]; exact I.h a o e
    · rw [out c]; exact e
  have i : Same (frzL H0 H ls) H := fun a o e => by
    by_cases c : a ∈ ls
    · rw [inn c] at e; exact e
    · rw [out c] at e; exact I.h a o e
  have ln : l ∉ ls := (List.nodup_cons.mp g.nd).1
  refine ⟨⟨I.b, z, fun a o e => ?_, i⟩, I.b, i, by simp [I.len], fun k s e => ?_, fun k m s t v hkm e1 e2 o1 o2 e3 e4 => ?_⟩
  · by_cases c : a ∈ ls
    · exact .inr (.inl (g.there (List.mem_cons_of_mem _ c)).choose_spec.2.2.2)
    · rw [out c] at e; exact .inl e
  · rw [List.getElem?_set] at e
    by_cases c : j = k
    · subst c
      rw [if_pos rfl, if_pos hj] at e
      have e' := Option.some.inj e
      subst e'
      refine .inr ⟨_, g.at', l, ls.map V.ref, rfl, g.dict, by rw [out ln]; exact g.l0, g.lb, by rw [List.length_map, g.len2]; exact g.len, rdl_lists g.len2 fun m a ds q1 q2 => ?_⟩
      obtain ⟨_, xs, h1, _, _, h4⟩ := g.lists m a ds q1 q2
      exact ⟨xs, by rw [inn (List.mem_of_getElem? q1)]; exact h1, h4.mono z⟩
    · rw [if_neg c] at e
      rcases I.at' k s e with y | ⟨v, q1, q2⟩
      · exact .inl y
      · refine .inr ⟨v, q1, ?_⟩
        cases s with
        | no => trivial
        | sh d => exact RD.mono z q2
        | bo es => obtain ⟨l', ys, p1, p2, p3⟩ := q2; exact ⟨l', ys, p1, p2, p3.mono z⟩
        | bd ks es => obtain ⟨l', ys, p1, p2, p3, p4⟩ := q2; exact ⟨l', ys, p1, p2, p3, p4.mono z⟩
        | own es =>
          obtain ⟨l', ys, p1, p2, p3, p4, p5⟩ := q2
          subst p1
          have := g.own k _ l' e rfl q1
          exact ⟨l', ys, rfl, p2, by rw [out fun m => this (List.mem_cons_of_mem _ m)]; exact p3, p4, p5.mono z⟩
        | od ks es =>
          obtain ⟨l', ys, p1, p2, p3, p4, p5, p6⟩ := q2
          subst p1
          have := g.own k _ l' e rfl q1
          exact ⟨l', ys, rfl, p2, by rw [out fun m => this (List.mem_cons_of_mem _ m)]; exact p3, p4, p5, p6.mono z⟩
  · have get : ∀ (i : Nat) (s : Sl), (E.set j (Sl.od ks (dss.map .lst)))[i]? = some s → i = j ∨ (i ≠ j ∧ E[i]? = some s) := fun i s e => by
      rw [List.getElem?_set] at e
      by_cases c : j = i
      · exact .inl c.symm
      · rw [if_neg c] at e
        exact .inr ⟨fun z => c z.symm, e⟩
    rcases get k s e1 with y1 | ⟨n1, y1⟩
    · subst y1
      rcases get m t e2 with y2 | ⟨n2, y2⟩
      · exact hkm y2.symm
      · rw [g.at'] at e3
        have e3' := Option.some.inj (Option.some.inj e3)
        subst e3'
        exact g.own m t l y2 o2 e4 List.mem_cons_self
    · rcases get m t e2 with y2 | ⟨n2, y2⟩
      · subst y2
        rw [g.at'] at e4
        have e4' := Option.some.inj (Option.some.inj e4)
        subst e4'
        exact g.own k s l y1 o1 e3 List.mem_cons_self
      · exact I.sep k m s t v hkm y1 y2 o1 o2 e3 e4
end
end LE

namespace L2
open PySem PySem.Spec PyProof.Rows
section
open PySem.SeqAt
open PySem.AutoSeq1 (wpAny_loadPart')
open PySem.MeetsSeq PySem.MeetsSeq2 PySem.MeetsSeq3
end
section
variable {prog : Program} {w : World} {A : Around} {E : Value → Shared → Prop} {s : Shared}
end
end L2
namespace LE
open PySem L2 LR
section
variable {K : PySem.W.Frag} {C : Addr}
end
end LE

namespace L2
open PySem PySem.Spec PyProof.Rows
section
open PySem.SeqAt
open PySem.AutoSeq1 (wpAny_loadPart')
open PySem.MeetsSeq PySem.MeetsSeq2 PySem.MeetsSeq3
end
section
variable {prog : Program} {w : World} {A : Around} {E : Value → Shared → Prop} {s : Shared}
end
end L2
namespace LE
open PySem L2 LR
section
variable {K : PySem.W.Frag} {C : Addr}
end
end LE

namespace L2
open PySem PySem.Spec PyProof.Rows
def CMulW (i j : Int) : Prop := i.natAbs ≤ 10 ^ 200 ∧ j.natAbs ≤ 10 ^ 200
theorem bits_le {i : Int} (h : i.natAbs ≤ 10 ^ 200) : Builtin.Int.intBits i ≤ 2 ^ 20 := by
  unfold Builtin.Int.intBits
  split
  · exact Nat.zero_le _
  · next hz =>
    have h0 : i.natAbs ≠ 0 := fun z => hz (by simp; omega)
    have h1 : i.natAbs.log2 < 1000 := by
      rw [Nat.log2_lt h0]
      exact Nat.lt_of_le_of_lt h (by decide +kernel)
    have : (1000 : Nat) ≤ 2 ^ 20 := by decide +kernel
    omega
theorem op_mulW {X : Cx} : OpR X (binaryOp .Mult) (rI CMulW fun i j => .int (i * j)) := opI fun _ _ _ _ _ _ _ hc q => mul_int q (IntMulOk.of_bits (bits_le hc.1) (bits_le hc.2))
end L2
namespace LE
open PySem L2 LR
noncomputable def big200 (a : Int) : Bool := Nat.ble a.natAbs (10 ^ 200)
noncomputable abbrev fMulW := fIc (fun a b => big200 a && big200 b) fun a b => .int (a * b)
section
variable {K : PySem.W.Frag} {C : Addr}
theorem o_mulW : OpS K C (rI CMulW fun i j => .int (i * j)) fMulW := o_Ic (fun i j h => by
  simp only [Bool.and_eq_true, big200, Nat.ble_eq] at h
  exact h) fun _ _ _ => .int _
theorem fMulW_ok {a b : Int} (h : a.natAbs ≤ 10 ^ 200 ∧ b.natAbs ≤ 10 ^ 200) : fMulW (.sh (.int a)) (.sh (.int b)) = some (.sh (.int (a * b))) := by
  show (if (big200 a && big200 b) = true then _ else _) = _
  rw [if_pos]
  rw [Bool.and_eq_true]
  exact ⟨Nat.ble_eq.mpr h.1, Nat.ble_eq.mpr h.2⟩
end
end LE

end
open L2 LR
local macro_rules | `(tactic| walk_at "side") => `(tactic| first | decide | exact ⟨by decide, by decide, by decide⟩ | exact ⟨by decide, by decide⟩ | (show (0 : Int) < _; omega) | (show (0 : Int) < _ ∧ _ < (1073741824 : Int); omega) | exact Or.inl ⟨by omega, by omega⟩ | exact Or.inr ⟨by omega, by omega⟩ | assumption)
local macro_rules | `(tactic| walk_at "rd1") => `(tactic| first | (with_reducible refine rd_seq ?_) | (with_reducible refine rd_asg ?_) | (with_reducible refine rd_ifS ?_) | (with_reducible refine rd_ret ?_) | (with_reducible refine rd_drop ?_) | (with_reducible refine rd_next ?_) | (with_reducible refine rd_op ?_) | (with_reducible refine rd_un ?_) | (with_reducible refine rd_test ?_) | (with_reducible refine rd_tB ?_) | (with_reducible refine rd_tru0 ?_) | (with_reducible refine rd_and ?_) | (with_reducible refine rd_or ?_) | (with_reducible refine rd_not ?_) | (with_reducible refine rd_notV ?_) | (with_reducible refine rd_andV ?_) | (with_reducible refine rd_orV ?_) | (with_reducible refine rd_ifE ?_) | (with_reducible refine rd_cons ?_) | (with_reducible refine rd_nil ?_) | (with_reducible refine rd_CB ?_) | (with_reducible refine rd_call ?_) | (with_reducible refine LR.rd_make ?_) | (with_reducible refine rd_tup ?_) | (with_reducible refine rd_lst ?_) | (with_reducible refine rd_bm ?_) | (with_reducible refine rd_gName ?_) | (with_reducible refine rd_gSub ?_) | (with_reducible refine rd_gCons ?_) | (with_reducible refine rd_gNil ?_) | (with_reducible refine rd_fld ?_) | (with_reducible refine rd_sFld ?_) | (with_reducible refine rd_chain ?_) | (with_reducible refine rd_yes ?_))
local macro_rules | `(tactic| walk_at "rd2") => `(tactic| first | (with_reducible refine rd_C ?_) | (with_reducible refine rd_I0 ?_) | (with_reducible refine rd_U ?_) | (with_reducible refine rd_addI ?_) | (with_reducible refine rd_eqI ?_) | (with_reducible refine rd_neI ?_) | (with_reducible refine rd_eqT ?_) | (with_reducible refine rd_neT ?_) | (with_reducible refine rd_isN ?_) | (with_reducible refine rd_notN ?_) | (with_reducible refine rd_max ?_) | (with_reducible refine rd_min ?_) | (with_reducible refine Exists.intro _ (And.intro (LR.tru_bl _ _ _) ?_)) | ((with_reducible refine rd_I ?hc ?_); (case hc => walk_at "side")) | ((with_reducible refine rd_var (v := ?vv) ?hx ?_); (case hx => exact rfl)) | (with_reducible refine Exists.intro _ (And.intro (Eq.refl (V.bl _)) ?_)))
local macro_rules | `(tactic| walk_at "rd") => `(tactic| repeat (first | walk_at "rd1" | walk_at "rd2"))
noncomputable section
namespace LK
open PySem L2 LR LE
noncomputable def ev_law_first : List Sl → Option Sl := fRun 7 (xSeq (xSetZ 2 (eVar 1))
  (xSeq (xSetZ 3 (eC (.int 0)))
  (xSeq (xFor (iRev false (aC (eVar 0) a0)) (.tp (.cons (.nm 4) (.cons (.nm 5) .nil))) (xSeq (xSetZ 6 (eF fMin (aC (eVar 2) (aC (eVar 5) a0))))
  (xSeq (xSetZ 3 (e2 fAdd (eVar 3) (e2 fMulW (eVar 6) (eVar 4))))
  (xSetZ 2 (e2 fSub (eVar 2) (eVar 6))))))
  (xRetV 3))))
noncomputable def ev_check_lumps : List Sl → Option Sl := fRun 4 (xSeq (xSetZ 1 (eC (.int 0)))
  (xFor (iV 0) (.tp (.cons (.nm 2) (.cons (.nm 3) .nil))) (xSeq (xIf (tB? (e2 fLe (eVar 2) (eVar 1))) xNever xNext)
  (xSeq (xIf (tB? (e2 fLt (eVar 3) (eC (.int 1)))) xNever xNext)
  (xSetZ 1 (eVar 2))))))
noncomputable def ex_check_lumps : List Sl → Option Str := exRun 4 (exSeq (xSetZ 1 (eC (.int 0)))
  exNo (exFor (iV 0) (.tp (.cons (.nm 2) (.cons (.nm 3) .nil))) (xSeq (xIf (tB? (e2 fLe (eVar 2) (eVar 1))) xNever xNext)
  (xSeq (xIf (tB? (e2 fLt (eVar 3) (eC (.int 1)))) xNever xNext)
  (xSetZ 1 (eVar 2)))) (exSeq (xIf (tB? (e2 fLe (eVar 2) (eVar 1))) xNever xNext)
  (exIf (tB? (e2 fLe (eVar 2) (eVar 1))) (exRaise "BadTable" (aC (eC (.str "sizes of lumps are from 1 on, ascending, each of them once")) a0)) exNo) (exSeq (xIf (tB? (e2 fLt (eVar 3) (eC (.int 1)))) xNever xNext)
  (exIf (tB? (e2 fLt (eVar 3) (eC (.int 1)))) (exRaise "BadTable" (aC (eC (.str "numbers of lumps are from 1 on")) a0)) exNo) exNo))))
noncomputable def ev_columns : List Sl → Option Sl := fRun 6 (xSeq (xDrop (eU 1 ev_check_lumps (aC (eVar 0) a0)))
  (xSeq (xSet 1 (eLst a0))
  (xSeq (xSetZ 2 (eC (.int 0)))
  (xSeq (xSetZ 3 (e2 fAdd (eLst (aC (eC (.int 0)) a0)) (eComp (iE true (eVar 0)) (.tp (.cons (.nm 0) (.cons (.nm 1) .nil))) yes? (eVar 0) [none, none])))
  (xSeq (xFor (iRev false (aC (eZipL (aC (eVar 3) (aC (eVar 0) a0))) a0)) (.tp (.cons (.nm 4) (.cons (.nm 5) .nil))) (xSeq (xAug (fun i j => i + j) 2 (e2 fIx (eVar 5) (eC (.int 1))))
  (xApp 1 (eTup (aC (eVar 2) (aC (e2 fSub (e2 fIx (eVar 5) (eC (.int 0))) (eVar 4)) a0))))))
  (xRetV 1))))))
noncomputable def ex_columns : List Sl → Option Str := exRun 6 (exSeq (xDrop (eU 1 ev_check_lumps (aC (eVar 0) a0)))
  (exU 1 ex_check_lumps (aC (eVar 0) a0)) exNo)
noncomputable def ev_law_fits : List Sl → Option Sl := fRun 4 (xSeq (xIf (tNot? (tTru? (eIsi "list" (eVar 0)))) (xRet (eC (.bl false))) xNext)
  (xSeq (xFor (iR1 (aC (eF fLen (aC (eVar 0) a0)) a0)) (.nm 1) (xSeq (xSetZ 2 (e2 fIx (eVar 0) (eVar 1)))
  (xSeq (xIf (tOr? (tNot? (tTru? (eIsi "tuple" (eVar 2)))) (tOr? (tB? (e2 fNe (eF fLen (aC (eVar 2) a0)) (eC (.int 2)))) (tAnd? (tB? (e2 fGt (eVar 1) (eC (.int 0)))) (tB? (e2 fGe (e2 fIx (e2 fIx (eVar 0) (e2 fSub (eVar 1) (eC (.int 1)))) (eC (.int 0))) (e2 fIx (eVar 2) (eC (.int 0)))))))) (xRet (eC (.bl false))) xNext)
  (xFor (iV 2) (.nm 3) (xIf (tOr? (tNot? (tTru? (eIsi "int" (eVar 3)))) (tOr? (tTru? (eIsi "bool" (eVar 3))) (tB? (e2 fLt (eVar 3) (eC (.int 1)))))) (xRet (eC (.bl false))) xNext)))))
  (xRet (eC (.bl true)))))
noncomputable def ev_law_alone : List Sl → Option Sl := fRun 2 (xSeq (xSetZ 1 (eLst (aC (eIsX ["BadTable"] "BadRow" (eVar 0)) (aC (eIsX ["BadTable"] "TooMany" (eVar 0)) (aC (eIsX ["BadTable"] "BadText" (eVar 0)) (aC (eIsX ["BadTable"] "BadSeats" (eVar 0)) a0))))))
  (xSeq (xSetZ 1 (e2 fAdd (eVar 1) (eLst (aC (eIsX ["BadTable"] "BadTable" (eVar 0)) (aC (eIsX ["BadTable"] "BadDeed" (eVar 0)) (aC (eIsX ["BadTable"] "Unlike" (eVar 0)) (aC (eIsX ["BadTable"] "NoRow" (eVar 0)) a0)))))))
  (xRet (eAnd (e2 fEq (eMB fCnt (eVar 1) (eC (.bl true))) (eC (.int 1))) (eAnd (eIsX ["BadTable"] "LumpError" (eVar 0)) (eIsV ["BadTable"] (eVar 0)))))))
noncomputable def ev_law_refused : List Sl → Option Sl := fRun 3 (xSeq (xSetZ 1 (eC .non))
  (xSeq (xTry ["BadTable"] 2 (xDrop (eU 1 ev_columns (aC (eVar 0) a0))) (exU 1 ex_columns (aC (eVar 0) a0)) (xSetZ 1 (eVar 2)))
  (xRet (eAnd (eIsX ["BadTable"] "BadTable" (eVar 1)) (eU 1 ev_law_alone (aC (eVar 1) a0))))))
noncomputable def ev_law_bad : List Sl → Option Sl := fRun 8 (xSeq (xSetZ 3 (e2 fMod (eVar 2) (eF fLen (aC (eVar 0) a0))))
  (xSeq (xAsg (.tp (.cons (.nm 4) (.cons (.nm 5) .nil))) (e2 fIx (eVar 0) (eVar 3)))
  (xSeq (xSetZ 6 (e2 fMod (e2 fDiv (eVar 2) (eC (.int 9))) (e2 fPow (eC (.int 10)) (eC (.int 30)))))
  (xSeq (xSetZ 7 (eLst (aC (eTup (aC (e2 fSub (eC (.int 0)) (eVar 6)) (aC (eVar 5) a0))) (aC (eTup (aC (eVar 4) (aC (e2 fSub (eC (.int 0)) (eVar 6)) a0))) (aC (eTup (aC (eVar 4) (aC (eVar 5) a0))) a0)))))
  (xSeq (xIf (tB? (e2 fLt (eVar 1) (eC (.int 3)))) (xRet (e2 fAdd (e2 fAdd (eSl (eVar 0) none (some (eVar 3))) (eLst (aC (e2 fIx (eVar 7) (eVar 1)) a0))) (eSl (eVar 0) (some (e2 fAdd (eVar 3) (eF fInt (aC (e2 fLt (eVar 1) (eC (.int 2))) a0)))) none))) xNext)
  (xRet (e2 fAdd (eLst (aC (eTup (aC (e2 fAdd (eVar 4) (eC (.int 1))) (aC (eVar 5) a0))) a0)) (eSl (eVar 0) none (some (e2 fAdd (eVar 3) (eC (.int 1))))))))))))
noncomputable def ev_law_cell : List Sl → Option Sl := fRun 2 (xSeq (xIf (tB? (e2 fLt (eVar 1) (eF fLen (aC (eVar 0) a0)))) (xRet (e2 fIx (eVar 0) (eVar 1))) xNext)
  (xRet (eC (.int 0))))
noncomputable def ev_law_lumps : List Sl → Option Sl := fRun 7 (xSeq (xSet 4 eDict)
  (xSeq (xFor (iR1 (aC (eVar 2) a0)) (.nm 5) (xSeq (xSetZ 6 (e2 fAdd (eC (.int 1)) (e2 fMod (eU 2 ev_law_cell (aC (eVar 0) (aC (e2 fAdd (eVar 1) (e2 fMul (eC (.int 2)) (eVar 5))) a0))) (eVar 3))))
  (xDPut 4 (eVar 6) (e2 fAdd (e2 fAdd (eDGet2 (eVar 4) (eVar 6) (eC (.int 0))) (eC (.int 1))) (e2 fMod (eU 2 ev_law_cell (aC (eVar 0) (aC (e2 fAdd (e2 fAdd (eVar 1) (eC (.int 1))) (e2 fMul (eC (.int 2)) (eVar 5))) a0))) (eC (.int 3)))))))
  (xRet (eComp (iE true (eSortK (eVar 4))) (.nm 0) yes? (eTup (aC (eVar 0) (aC (eDIx (eVar 1) (eVar 0)) a0))) [none, some 4]))))
noncomputable def ev_law : List Sl → Option Sl := fRun 16 (xSeq (xSetZ 1 (eU 2 ev_law_cell (aC (eVar 0) (aC (eC (.int 0)) a0))))
  (xSeq (xSetZ 2 (eU 2 ev_law_cell (aC (eVar 0) (aC (eC (.int 1)) a0))))
  (xSeq (xSetZ 3 (eU 4 ev_law_lumps (aC (eVar 0) (aC (eC (.int 2)) (aC (e2 fMod (eVar 1) (eC (.int 9))) (aC (e2 fIx (eLst (aC (eC (.int 7)) (aC (eC (.int 1000)) (aC (e2 fPow (eC (.int 10)) (eC (.int 40))) a0)))) (e2 fMod (e2 fDiv (eVar 1) (eC (.int 9))) (eC (.int 3)))) a0))))))
  (xSeq (xIf (tAnd? (tB? (e2 fEq (e2 fMod (e2 fDiv (eVar 1) (eC (.int 27))) (eC (.int 4))) (eC (.int 1)))) (tB? (e2 fNe (eVar 3) (eLst a0)))) (xRet (eU 1 ev_law_refused (aC (eU 3 ev_law_bad (aC (eVar 3) (aC (e2 fMod (e2 fDiv (eVar 1) (eC (.int 108))) (eC (.int 4))) (aC (e2 fMod (eVar 2) (e2 fPow (eC (.int 10)) (eC (.int 40)))) a0)))) a0))) xNext)
  (xSeq (xIf (tB? (e2 fEq (e2 fMod (e2 fDiv (eVar 1) (eC (.int 27))) (eC (.int 4))) (eC (.int 2)))) (xSetZ 3 (eComp (iE true (eVar 3)) (.tp (.cons (.nm 0) (.cons (.nm 1) .nil))) yes? (eTup (aC (eVar 0) (aC (e2 fAdd (eVar 1) (e2 fMod (eVar 2) (e2 fPow (eC (.int 10)) (eC (.int 20))))) a0))) [none, none, some 2])) xNext)
  (xSeq (xSetZ 4 (eF fList (aC (eVar 3) a0)))
  (xSeq (xSet 5 (eU 1 ev_columns (aC (eVar 4) a0)))
  (xSeq (xApp 5 (eTup (aC (eC (.int 1)) (aC (eC (.int 1)) a0))))
  (xSeq (xRevL 5)
  (xSeq (xSetZ 6 (eU 1 ev_columns (aC (eVar 4) a0)))
  (xSeq (xIf (tOr? (tB? (e2 fNe (eVar 4) (eVar 3))) (tNot? (tTru? (eU 1 ev_law_fits (aC (eVar 6) a0))))) (xRet (eC (.bl false))) xNext)
  (xSeq (xFor (iV 6) (.tp (.cons (.nm 7) (.cons (.nm 8) .nil))) (xSeq (xSetZ 9 (eComp (iE true (eVar 3)) (.tp (.cons (.nm 0) (.cons (.nm 1) .nil))) yes? (eVar 0) [none, none]))
  (xSeq (xSetZ 10 (eF fSum (aC (eComp (iE true (eVar 3)) (.tp (.cons (.nm 0) (.cons (.nm 1) .nil))) yes? (eVar 1) [none, none]) a0)))
  (xSeq (xSetZ 11 (eC (.int 0)))
  (xSeq (xSetZ 12 (eC (.int 0)))
  (xSeq (xFor (iV 3) (.tp (.cons (.nm 13) (.cons (.nm 14) .nil))) (xSeq (xIf (tB? (e2 fEq (eVar 10) (eVar 7))) (xSetZ 12 (e2 fSub (eVar 13) (eVar 11))) xNext)
  (xSeq (xSetZ 10 (e2 fSub (eVar 10) (eVar 14)))
  (xSetZ 11 (eVar 13)))))
  (xIf (tOr? (tB? (e2 fNe (eVar 12) (eVar 8))) (tB? (e2 fEq (eVar 9) (eLst a0)))) (xRet (eC (.bl false))) xNext)))))))
  (xSeq (xIf (tOr? (tB? (e2 fNe (eF fLen (aC (eVar 6) a0)) (eF fLen (aC (eVar 3) a0)))) (tB? (e2 fNe (eU 1 ev_columns (aC (eF fList (aC (eVar 6) a0)) a0)) (eVar 3)))) (xRet (eC (.bl false))) xNext)
  (xSeq (xFor (iE false (eLst (aC (eC (.int 1)) (aC (e2 fAdd (eC (.int 1)) (e2 fMod (eVar 2) (eC (.int 9)))) (aC (e2 fAdd (eC (.int 1)) (e2 fMod (eVar 2) (e2 fPow (eC (.int 10)) (eC (.int 41))))) a0))))) (.nm 15) (xIf (tB? (e2 fNe (eU 2 ev_law_first (aC (eVar 6) (aC (eVar 15) a0))) (eF fSum (aC (eComp (iE true (eVar 3)) (.tp (.cons (.nm 0) (.cons (.nm 1) .nil))) yes? (e2 fMulW (eVar 1) (eF fMin (aC (eVar 0) (aC (eVar 2) a0)))) [none, none, some 15]) a0)))) (xRet (eC (.bl false))) xNext))
  (xRet (eC (.bl true)))))))))))))))))
end LK
end
namespace LK
open PySem L2 LR LE
local macro_rules | `(tactic| walk_at "sd") => `(tactic| first | omega | assumption | (simp only [List.length_append, List.length_map, List.length_reverse, List.length_cons, List.length_nil, List.length_singleton]; omega))
local macro_rules | `(tactic| walk_at "ev") => `(tactic| simp -implicitDefEqProofs (disch := walk_at "sd") only [fRun, size_eq, Int.reduceToNat, List.length_cons, List.length_nil, Nat.reduceAdd, Nat.reduceSub, Nat.reduceLT, Nat.reduceLeDiff, Nat.lt_irrefl, Nat.zero_lt_succ, Nat.succ_lt_succ_iff, List.reduceReplicate, List.cons_append, List.nil_append, List.append_nil, List.set_cons_zero, List.set_cons_succ, List.getElem?_cons_succ, List.getElem?_cons_zero, List.length_map, List.length_reverse, List.length_set, Option.bind_some, Option.map_some, Option.bind_none, Option.map_none, if_true, if_false, ite_true, ite_false, decide_true, decide_false, Bool.not_true, Bool.not_false, Bool.and_true, Bool.true_and, reduceIte, reduceCtorEq, Bool.false_eq_true, List.map_cons, List.map_nil, if_pos, 
  xSeq, xIf, xRet, xRetV, xNext, xSet, xSetZ, xAsg, xDrop, xApp, xAug, eDict, eDIx, eDGet2, xDPut, xRevL, eSortK, eZipL, fInt, Sl.dk, int?, frzE, xFor, tB?, tTru?, tAnd?, tOr?, tNot?, truS, e2, e1, eVar, eF, eC, aC, a0, eU, passAll, Sl.pass, eTup, eLst, frzAll, Sl.frz, eAnd, sh?, bool?, str?, keep?, eIsi, tyN, D.isRow, okS_nx, okS_ct, seqK_nx, seqK_rt, seqK_bk, seqK_ct, endK_nx, endK_rt, 
  fI_ok, fMul_ok, fMulW_ok, fMod_ok, fDiv_ok, fPow_ok, fAdd_ii, fAdd_ss, fAdd_oo, fAdd_ob, fAdd_bo, fAdd_bb, fAdd_os, fAdd_so, fAdd_lb, fAdd_bs, fAdd_ll, fLen_s, fLen_l, fLen_f, fLen_t, fLen_b, fLen_o, fIx_l, fIx_f, fIx_t, fIx_b, fIx_o, fList, fMin, Sl.q, Sl.r, Sl.m, Sl.d, Sl.it, fEq, fNe, eqA_ii, eqA_ss, eqA_bb, eqA_pp, eqA_PP, eqA_TT, eqA_II, isNon_non, isNon_int, isNon_bl, isNon_str, isNon_tup, isNon_lst, isNon_fz, isNon_row, iE, iV, iR1, eComp, impE, iRev, ints_map, eSl, ePart, fSl, in62_t, in60_t, smallP_t, kit_ii, kit_ib', kit_bb, kit_tt, kit_ll, kit_ss, Pt_nm, Pt_tp, Pts_nil, Pts_cons, cst0, cst1, cst2, cst3, cst4, eq_self])
noncomputable section
theorem m_cell (ns : List Int) (k : Int) (hk : 0 ≤ k) : ev_law_cell [.sh (.fz (ns.map .int)), .sh (.int k)] = some (.sh (.int (cell ns k))) := by
  unfold ev_law_cell
  walk_at "ev"
  by_cases h : k < (ns.length : Int)
  · simp only [h, atI_map, atI_cell hk h]
    walk_at "ev"
  · simp only [h, cell_out h]
    walk_at "ev"
theorem atI_nat2 {α : Type} {xs : List α} {k : Nat} {x : α} (h : xs[k]? = some x) : atI xs (k : Int) = some x := by
  obtain ⟨h1, h2⟩ := List.getElem?_eq_some_iff.mp h
  rw [atI_nat' h1, h2]
theorem Good.cons' {p : Pr} {ps : List Pr} (g : Good (p :: ps)) : Good ps := ⟨fun i q e => g.one (i + 1) q (by simpa using e), fun i q r e1 e2 => g.gap (i + 1) q r (by simpa using e1) (by simpa using e2)⟩
theorem Good.all {ps : List Pr} (g : Good ps) : ∀ p ∈ ps, 1 ≤ p.2 := fun p hp => by
  obtain ⟨i, hi, e⟩ := List.mem_iff_getElem.mp hp
  exact g.one i p (by simp [hi, e])
theorem Good.first {p : Pr} : ∀ {ps : List Pr}, Good (p :: ps) → ∀ q ∈ ps, p.1 + p.2 < q.1
  | [], _, q, hq => nomatch hq
  | r :: ps, g, q, hq => by
    have h1 := g.gap 0 p r rfl rfl
    rcases List.mem_cons.mp hq with z | z
    · rw [z]; exact h1
    · have h2 := Good.first (Good.cons' g) q z
      have h3 := g.one 1 r rfl
      omega
theorem cutD_map {α β : Type} (f : α → β) (xs : List α) (lo hi : Option Int) : cutD (xs.map f) lo hi = (cutD xs lo hi).map f := by
  unfold cutD
  rw [List.length_map, List.map_take, List.map_drop]
theorem cutD_len {α : Type} (xs : List α) (lo hi : Option Int) : (cutD xs lo hi).length ≤ xs.length := by
  unfold cutD
  rw [List.length_take, List.length_drop]
  omega
theorem fIx_p0 (p : Pr) : fIx (.sh (prE p)) (.sh (.int 0)) = some (.sh (.int p.1)) := rfl
theorem fIx_p1 (p : Pr) : fIx (.sh (prE p)) (.sh (.int 1)) = some (.sh (.int p.2)) := rfl
noncomputable abbrev chkB : Es := (xSeq (xIf (tB? (e2 fLe (eVar 2) (eVar 1))) xNever xNext) (xSeq (xIf (tB? (e2 fLt (eVar 3) (eC (.int 1)))) xNever xNext) (xSetZ 1 (eVar 2))))
noncomputable abbrev chkX : Xv := (exSeq (xIf (tB? (e2 fLe (eVar 2) (eVar 1))) xNever xNext) (exIf (tB? (e2 fLe (eVar 2) (eVar 1))) (exRaise "BadTable" (aC (eC (.str "sizes of lumps are from 1 on, ascending, each of them once")) a0)) exNo) (exSeq (xIf (tB? (e2 fLt (eVar 3) (eC (.int 1)))) xNever xNext) (exIf (tB? (e2 fLt (eVar 3) (eC (.int 1)))) (exRaise "BadTable" (aC (eC (.str "numbers of lumps are from 1 on")) a0)) exNo) exNo))
noncomputable abbrev chkP : Pt := (.tp (.cons (.nm 2) (.cons (.nm 3) .nil)))
theorem look_map {α β : Type} (f : α → β) : ∀ (ks : List Int) (vs : List α) (n : Int), look ks (vs.map f) n = (look ks vs n).map f
  | [], _, _ => rfl
  | _ :: _, [], _ => rfl
  | k :: ks, v :: vs, n => by
    rw [List.map_cons]
    simp only [look]
    split
    · rfl
    · exact look_map f ks vs n
theorem setK_map {α β : Type} (f : α → β) : ∀ (ks : List Int) (vs : List α) (n : Int) (v : α), setK ks (vs.map f) n (f v) = (setK ks vs n v).map f
  | [], _, _, _ => rfl
  | _ :: _, [], _, _ => rfl
  | k :: ks, x :: vs, n, v => by
    rw [List.map_cons]
    simp only [setK, List.map_cons]
    rw [setK_map f ks vs n v]
    split <;> rfl
theorem putDs_map {α β : Type} (f : α → β) (ks : List Int) (vs : List α) (n : Int) (v : α) : putDs ks (vs.map f) n (f v) = (putDs ks vs n v).map f := by
  unfold putDs
  split
  · exact setK_map f ks vs n v
  · rw [List.map_append]; rfl
theorem look_int (ks : List Int) (vs : List Int) (n z : Int) : (look ks (vs.map D.int) n).getD (.int z) = .int ((look ks vs n).getD z) := by
  rw [look_map]
  cases look ks vs n <;> rfl
theorem putKs_le (ks : List Int) (n : Int) : (putKs ks n).length ≤ ks.length + 1 := by
  unfold putKs
  split
  · omega
  · simp
theorem look_some : ∀ (ks vs : List Int) (n : Int), n ∈ ks → ks.length = vs.length → look ks vs n = some ((look ks vs n).getD 0)
  | [], _, _, h, _ => by cases h
  | _ :: _, [], _, _, h => by cases h
  | k :: ks, v :: vs, n, h, hl => by
    simp only [look]
    by_cases e : k = n
    · rw [if_pos e]; rfl
    · rw [if_neg e]
      refine look_some ks vs n ?_ (by simpa using hl)
      rcases List.mem_cons.mp h with z | z
      · exact absurd z.symm e
      · exact z
noncomputable def lumS (ns : List Int) (span : Int) : Nat → List Int × List Int
  | 0 => ([], [])
  | i + 1 => (putKs (lumS ns span i).1 (1 + cell ns (2 + 2 * (i : Int)) % span), putDs (lumS ns span i).1 (lumS ns span i).2 (1 + cell ns (2 + 2 * (i : Int)) % span) ((look (lumS ns span i).1 (lumS ns span i).2 (1 + cell ns (2 + 2 * (i : Int)) % span)).getD 0 + 1 + cell ns (2 + 1 + 2 * (i : Int)) % 3))
theorem lumS_len (ns : List Int) (span : Int) : ∀ i, (lumS ns span i).1.length = (lumS ns span i).2.length ∧ (lumS ns span i).1.length ≤ i
  | 0 => ⟨rfl, Nat.le_refl _⟩
  | i + 1 => by
    obtain ⟨h1, h2⟩ := lumS_len ns span i
    have := putKs_le (lumS ns span i).1 (1 + cell ns (2 + 2 * (i : Int)) % span)
    simp only [lumS]
    exact ⟨putKs_len _ _ _ _ h1, by omega⟩
noncomputable def lumF (ns : List Int) (span : Int) (n : Nat) : List Pr := (sortZ (lumS ns span n).1).map fun k => (k, (look (lumS ns span n).1 (lumS ns span n).2 k).getD 0)
theorem lumF_len (ns : List Int) (span : Int) (n : Nat) : (lumF ns span n).length ≤ n := by
  unfold lumF
  rw [List.length_map, (sortZ_perm _).length_eq]
  exact (lumS_len ns span n).2
theorem m_lum (ns : List Int) (many span : Int) (h0 : 0 ≤ many) (h8 : many ≤ 8) (hs : 0 < span) : ev_law_lumps [.sh (.fz (ns.map .int)), .sh (.int 2), .sh (.int many), .sh (.int span)] = some (.own ((lumF ns span many.toNat).map prE)) := by
  unfold ev_law_lumps
  walk_at "ev"
  rw [rng0, Option.bind_assoc]
  refine loop_cnt (fun i E => ∃ j5 j6, E = [.sh (.fz (ns.map .int)), .sh (.int 2), .sh (.int many), .sh (.int span), .od (lumS ns span i).1 ((lumS ns span i).2.map .int), j5, j6]) ⟨.no, .no, rfl⟩ ?_ ?_
  · rintro i E hi ⟨j5, j6, rfl⟩
    obtain ⟨h1, h2⟩ := lumS_len ns span i
    walk_at "ev"
    rw [m_cell _ _ (by omega)]
    walk_at "ev"
    rw [m_cell _ _ (by omega)]
    walk_at "ev"
    rw [look_int]
    walk_at "ev"
    rw [putDs_map]
    exact ⟨_, _, rfl⟩
  · rintro E' ⟨j5, j6, rfl⟩
    obtain ⟨h1, h2⟩ := lumS_len ns span many.toNat
    walk_at "ev"
    have hsz : (sortZ (lumS ns span many.toNat).1).length ≤ 8 := by rw [(sortZ_perm _).length_eq]; omega
    walk_at "ev"
    rw [each_yes (g := fun k => prE (k, (look (lumS ns span many.toNat).1 (lumS ns span many.toNat).2 k).getD 0))]
    · walk_at "ev"
      unfold lumF
      rw [List.map_map]
      rfl
    · intro k hk
      walk_at "ev"
      rw [look_map, look_some _ _ k ((sortZ_perm _).mem_iff.mp hk) h1]
      walk_at "ev"
      rfl
noncomputable def badL : Int → List Pr → Bool
  | _, [] => false
  | a, p :: r => decide (p.1 ≤ a) || (decide (p.2 < 1) || badL p.1 r)
theorem chk_good : ∀ (ps : List Pr) (a : Int) (x j2 j3 : Sl), badL a ps = false → ∃ E', xLoop chkP chkB (ps.map prE) [x, .sh (.int a), j2, j3] = some (.nx E')
  | [], a, x, j2, j3, _ => ⟨_, rfl⟩
  | p :: r, a, x, j2, j3, h => by
    rw [badL, Bool.or_eq_false_iff, Bool.or_eq_false_iff] at h
    obtain ⟨E', ih⟩ := chk_good r p.1 x (.sh (.int p.1)) (.sh (.int p.2)) h.2.2
    refine ⟨E', ?_⟩
    rw [List.map_cons, xLoop]
    simp only [prE]
    walk_at "ev"
    rw [h.1]
    walk_at "ev"
    rw [h.2.1]
    walk_at "ev"
    exact ih
theorem chk_bad : ∀ (ps : List Pr) (a : Int) (x j2 j3 : Sl), badL a ps = true → xLoop chkP chkB (ps.map prE) [x, .sh (.int a), j2, j3] = none
  | [], a, x, j2, j3, h => by cases h
  | p :: r, a, x, j2, j3, h => by
    rw [List.map_cons, xLoop]
    simp only [prE]
    walk_at "ev"
    cases h1 : decide (p.1 ≤ a) with
    | true => walk_at "ev"; rfl
    | false =>
      walk_at "ev"
      cases h2 : decide (p.2 < 1) with
      | true => walk_at "ev"; rfl
      | false =>
        rw [badL, h1, h2, Bool.false_or, Bool.false_or] at h
        walk_at "ev"
        exact chk_bad r p.1 x _ _ h
theorem chkX_at (x : Sl) (a u v : Int) : chkX [x, .sh (.int a), .sh (.int u), .sh (.int v)] = if (decide (u ≤ a) || decide (v < 1)) = true then some (Str.ofString "BadTable") else none := by
  unfold chkX exSeq exIf exRaise exNo
  walk_at "ev"
  cases h1 : decide (u ≤ a) with
  | true => walk_at "ev"; rfl
  | false =>
    walk_at "ev"
    cases h2 : decide (v < 1) with
    | true => walk_at "ev"; rfl
    | false => walk_at "ev"; rfl
theorem chkB_at (x : Sl) (a u v : Int) (h1 : decide (u ≤ a) = false) (h2 : decide (v < 1) = false) : chkB [x, .sh (.int a), .sh (.int u), .sh (.int v)] = some (.nx [x, .sh (.int u), .sh (.int u), .sh (.int v)]) := by
  walk_at "ev"
  rw [h1]
  walk_at "ev"
  rw [h2]
  walk_at "ev"
theorem chkP_at (p : Pr) (x j2 j3 : Sl) (a : Int) : chkP.bind (prE p) [x, .sh (.int a), j2, j3] = some [x, .sh (.int a), .sh (.int p.1), .sh (.int p.2)] := by
  simp only [prE]
  walk_at "ev"
theorem chk_ex : ∀ (ps : List Pr) (a : Int) (x j2 j3 : Sl), badL a ps = true → exLoop chkP chkB chkX (ps.map prE) [x, .sh (.int a), j2, j3] = some (Str.ofString "BadTable")
  | [], a, x, j2, j3, h => by cases h
  | p :: r, a, x, j2, j3, h => by
    rw [List.map_cons, exLoop]
    simp only [chkP_at, Option.bind_some, chkX_at]
    cases h1 : decide (p.1 ≤ a) with
    | true => rw [Bool.true_or, if_pos rfl]
    | false =>
      cases h2 : decide (p.2 < 1) with
      | true => rw [Bool.or_true, if_pos rfl]
      | false =>
        rw [badL, h1, h2, Bool.false_or, Bool.false_or] at h
        rw [Bool.or_false, if_neg Bool.false_ne_true, chkB_at x a p.1 p.2 h1 h2]
        exact chk_ex r p.1 x _ _ h
theorem m_chk (ps : List Pr) (h : badL 0 ps = false) : ∃ r, ev_check_lumps [.sh (.lst (ps.map prE))] = some r := by
  obtain ⟨E', e⟩ := chk_good ps 0 (.sh (.lst (ps.map prE))) .no .no h
  unfold ev_check_lumps
  walk_at "ev"
  rw [e]
  exact ⟨_, rfl⟩
theorem b_chk (ps : List Pr) (h : badL 0 ps = true) : ev_check_lumps [.sh (.lst (ps.map prE))] = none := by
  have e := chk_bad ps 0 (.sh (.lst (ps.map prE))) .no .no h
  unfold ev_check_lumps
  walk_at "ev"
  rw [e]
  rfl
theorem x_chk (ps : List Pr) (h : badL 0 ps = true) : ex_check_lumps [.sh (.lst (ps.map prE))] = some (Str.ofString "BadTable") := by
  have e := chk_ex ps 0 (.sh (.lst (ps.map prE))) .no .no h
  show exSeq (xSetZ 1 (eC (.int 0))) exNo (exFor (iV 0) chkP chkB chkX) [.sh (.lst (ps.map prE)), .no, .no, .no] = _
  exact e
noncomputable def numP (ps : List Pr) : Int := (ps.map (·.2)).sum
noncomputable def colG : Int → List Pr → List Pr
  | _, [] => []
  | k, p :: r => colG p.1 r ++ [(numP (p :: r), p.1 - k)]
theorem numP_cons (p : Pr) (r : List Pr) : numP (p :: r) = p.2 + numP r := by unfold numP; rw [List.map_cons, List.sum_cons]
theorem col_len : ∀ (k : Int) (ps : List Pr), (colG k ps).length = ps.length
  | _, [] => rfl
  | k, p :: r => by rw [colG, List.length_append, col_len p.1 r]; rfl
theorem badL_num : ∀ {a : Int} {ps : List Pr}, badL a ps = false → 0 ≤ numP ps ∧ (∀ p ∈ ps, 1 ≤ p.2 ∧ a < p.1)
  | _, [], _ => ⟨Int.le_refl _, fun _ h => by cases h⟩
  | a, p :: r, h => by
    rw [badL, Bool.or_eq_false_iff, Bool.or_eq_false_iff] at h
    have h1 := of_decide_eq_false h.1
    have h2 := of_decide_eq_false h.2.1
    obtain ⟨i1, i2⟩ := badL_num h.2.2
    rw [numP_cons]
    refine ⟨by omega, fun q hq => ?_⟩
    rcases List.mem_cons.mp hq with z | z
    · rw [z]; omega
    · have := i2 q z; omega
theorem badL_tail {a : Int} {p : Pr} {r : List Pr} (h : badL a (p :: r) = false) : a < p.1 ∧ 1 ≤ p.2 ∧ badL p.1 r = false := by
  rw [badL, Bool.or_eq_false_iff, Bool.or_eq_false_iff] at h
  have h1 := of_decide_eq_false h.1
  have h2 := of_decide_eq_false h.2.1
  exact ⟨by omega, by omega, h.2.2⟩
noncomputable def lastA : Int → List Pr → Int
  | a, [] => a
  | _, p :: r => lastA p.1 r
theorem bad_app : ∀ (a : Int) (xs ys : List Pr), badL a (xs ++ ys) = (badL a xs || badL (lastA a xs) ys)
  | _, [], _ => by simp [badL, lastA]
  | a, x :: xs, ys => by rw [List.cons_append, badL, badL, lastA, bad_app x.1 xs ys, Bool.or_assoc, Bool.or_assoc]
theorem last_snoc : ∀ (a : Int) (xs : List Pr) (p : Pr), lastA a (xs ++ [p]) = p.1
  | _, [], _ => rfl
  | _, x :: xs, p => last_snoc x.1 xs p
theorem col_last (k j : Int) : ∀ ps : List Pr, lastA j (colG k ps) = if ps = [] then j else numP ps
  | [] => rfl
  | p :: r => by rw [colG, last_snoc, if_neg (by simp)]
theorem col_good : ∀ {k : Int} {ps : List Pr}, badL k ps = false → badL 0 (colG k ps) = false
  | _, [], _ => rfl
  | k, p :: r, h => by
    obtain ⟨h1, h2, h3⟩ := badL_tail h
    have n0 := (badL_num h3).1
    rw [colG, bad_app, col_good h3, Bool.false_or, col_last]
    have : (if r = [] then 0 else numP r) = numP r := by
      split
      · next z => subst z; rfl
      · rfl
    rw [this, badL, numP_cons, decide_eq_false (by omega), decide_eq_false (by dsimp only; omega)]
    rfl
theorem col_snoc : ∀ (j : Int) (xs : List Pr) (q : Pr), colG j (xs ++ [q]) = (q.2, q.1 - lastA j xs) :: (colG j xs).map fun x => (x.1 + q.2, x.2)
  | j, [], q => by simp [colG, lastA, numP]
  | j, x :: xs, q => by
    rw [List.cons_append, colG, col_snoc x.1 xs q, colG, List.map_append, lastA]
    have e : numP (x :: (xs ++ [q])) = numP (x :: xs) + q.2 := by
      unfold numP
      simp
      omega
    rw [e]
    rfl
theorem col_col : ∀ {k : Int} {ps : List Pr}, badL k ps = false → colG 0 (colG k ps) = ps.map fun p => (p.1 - k, p.2)
  | _, [], _ => rfl
  | k, p :: r, h => by
    obtain ⟨h1, h2, h3⟩ := badL_tail h
    rw [colG, col_snoc, col_col h3, col_last, List.map_cons, List.map_map]
    have : (if r = [] then 0 else numP r) = numP r := by
      split
      · next z => subst z; rfl
      · rfl
    rw [this, numP_cons]
    congr 1
    · exact Prod.ext (by dsimp only) (by dsimp only; omega)
    · refine List.map_congr_left fun q _ => Prod.ext ?_ rfl
      show q.1 - p.1 + (p.1 - k) = q.1 - k
      omega
theorem col_back {ps : List Pr} (h : badL 0 ps = false) : colG 0 (colG 0 ps) = ps := by
  rw [col_col h]
  refine (List.map_congr_left fun p _ => ?_).trans (List.map_id' ps)
  rw [Int.sub_zero]
noncomputable def wdF (h : Int) : Int → Int → Int → List Pr → Int
  | _, _, w, [] => w
  | l, b, w, p :: r => wdF h (l - p.2) p.1 (if l = h then p.1 - b else w) r
theorem wd_keep (h : Int) : ∀ (r : List Pr) (b w : Int) {a : Int}, badL a r = false → numP r < h → wdF h (numP r) b w r = w
  | [], _, _, _, _, _ => rfl
  | p :: r, b, w, a, hb, hh => by
    obtain ⟨h1, h2, h3⟩ := badL_tail hb
    rw [wdF, if_neg (by omega), numP_cons, show p.2 + numP r - p.2 = numP r by omega]
    rw [numP_cons] at hh
    exact wd_keep h r p.1 w h3 (by omega)
theorem wd_col : ∀ {k : Int} {ps : List Pr} {x : Pr} (w : Int), badL k ps = false → x ∈ colG k ps → 1 ≤ x.1 ∧ x.1 ≤ numP ps ∧ wdF x.1 (numP ps) k w ps = x.2
  | _, [], _, _, _, h => by cases h
  | k, p :: r, x, w, h, hx => by
    obtain ⟨h1, h2, h3⟩ := badL_tail h
    have n0 := (badL_num h3).1
    rw [colG] at hx
    have e : numP (p :: r) - p.2 = numP r := by rw [numP_cons]; omega
    rcases List.mem_append.mp hx with z | z
    · obtain ⟨i1, i2, i3⟩ := wd_col (w := w) h3 z
      have := numP_cons p r
      refine ⟨i1, by omega, ?_⟩
      rw [wdF, if_neg (by omega), e]
      exact i3
    · have z' : x = (numP (p :: r), p.1 - k) := by simpa using z
      subst z'
      have := numP_cons p r
      refine ⟨by dsimp only; omega, Int.le_refl _, ?_⟩
      rw [wdF, if_pos rfl, e]
      exact wd_keep _ r _ _ h3 (by dsimp only; omega)
noncomputable def frF : Int → Int → List Pr → Int
  | _, t, [] => t
  | l, t, x :: r => frF (l - min l x.2) (t + min l x.2 * x.1) r
theorem fr_col : ∀ {k : Int} {ps : List Pr} (l t : Int), badL k ps = false → 0 ≤ l → frF l t (colG k ps).reverse = t + (ps.map fun p => p.2 * min (p.1 - k) l).sum
  | _, [], l, t, _, _ => by simp [colG, frF]
  | k, p :: r, l, t, h, hl => by
    obtain ⟨h1, h2, h3⟩ := badL_tail h
    have hr := (badL_num h3).2
    rw [colG, List.reverse_append]
    show frF (l - min l (p.1 - k)) (t + min l (p.1 - k) * numP (p :: r)) (colG p.1 r).reverse = _
    rw [fr_col _ _ h3 (by omega), List.map_cons, List.sum_cons, numP_cons]
    have e : (r.map fun q => q.2 * min (q.1 - k) l).sum = min l (p.1 - k) * numP r + (r.map fun q => q.2 * min (q.1 - p.1) (l - min l (p.1 - k))).sum := by
      have e1 : r.map (fun q => q.2 * min (q.1 - k) l) = r.map fun q => q.2 * min l (p.1 - k) + q.2 * min (q.1 - p.1) (l - min l (p.1 - k)) := List.map_congr_left fun q hq => by
        have := hr q hq
        rw [← Int.mul_add]
        congr 1
        omega
      have sa : ∀ (f g : Pr → Int) (l : List Pr), (l.map fun x => f x + g x).sum = (l.map f).sum + (l.map g).sum := by
        intro f g l
        induction l with
        | nil => rfl
        | cons x l ih => rw [List.map_cons, List.sum_cons, List.map_cons, List.sum_cons, List.map_cons, List.sum_cons, ih]; omega
      have sm : ∀ (c : Int) (l : List Pr), (l.map fun q => q.2 * c).sum = c * numP l := by
        intro c l
        induction l with
        | nil => simp [numP]
        | cons x l ih => rw [List.map_cons, List.sum_cons, ih, numP_cons, Int.mul_add, Int.mul_comm x.2 c]
      rw [e1, sa, sm]
    rw [e, Int.mul_add, Int.mul_comm p.2 (min (p.1 - k) l), Int.min_comm (p.1 - k) l]
    omega
theorem bad_of : ∀ {a : Int} {ps : List Pr}, (ps.map (·.1)).Pairwise (· < ·) → (∀ p ∈ ps, a < p.1 ∧ 1 ≤ p.2) → badL a ps = false
  | _, [], _, _ => rfl
  | a, p :: r, h, hp => by
    rw [List.map_cons, List.pairwise_cons] at h
    obtain ⟨h1, h2⟩ := hp p List.mem_cons_self
    rw [badL, decide_eq_false (by omega), decide_eq_false (by omega), Bool.false_or, Bool.false_or]
    exact bad_of h.2 fun q hq => ⟨h.1 _ (List.mem_map.mpr ⟨q, hq, rfl⟩), (hp q (List.mem_cons_of_mem _ hq)).2⟩
theorem hasK_mem {ks : List Int} {s : Int} : hasK ks s = true ↔ s ∈ ks := by
  unfold hasK
  rw [List.any_eq_true]
  constructor
  · rintro ⟨k, hk, e⟩; rw [decide_eq_true_eq] at e; subst e; exact hk
  · intro h; exact ⟨s, h, decide_eq_true rfl⟩
theorem putKs_ok {ks : List Int} {s : Int} (h : ks.Nodup) : (putKs ks s).Nodup ∧ ∀ k ∈ putKs ks s, k ∈ ks ∨ k = s := by
  unfold putKs
  split
  · exact ⟨h, fun k hk => .inl hk⟩
  · next c =>
    refine ⟨?_, fun k hk => by simpa using hk⟩
    rw [List.nodup_append]
    refine ⟨h, by simp, fun a ha b hb => ?_⟩
    have : b = s := by simpa using hb
    subst this
    intro e
    subst e
    exact c (hasK_mem.mpr ha)
theorem setK_mem {v : Int} (n : Int) : ∀ (ks vs : List Int) (x : Int), x ∈ setK ks vs n v → x ∈ vs ∨ x = v
  | [], _, _, h => .inl h
  | _ :: _, [], _, h => .inl h
  | k :: ks, w :: vs, x, h => by
    rw [setK] at h
    rcases List.mem_cons.mp h with z | z
    · split at z
      · exact .inr z
      · exact .inl (by rw [z]; exact List.mem_cons_self)
    · rcases setK_mem n ks vs x z with y | y
      · exact .inl (List.mem_cons_of_mem _ y)
      · exact .inr y
theorem putDs_mem {ks vs : List Int} {n v x : Int} (h : x ∈ putDs ks vs n v) : x ∈ vs ∨ x = v := by
  unfold putDs at h
  split at h
  · exact setK_mem n ks vs x h
  · simpa using h
theorem look_in : ∀ {ks vs : List Int} {n v : Int}, look ks vs n = some v → v ∈ vs
  | [], _, _, _, e => by cases e
  | _ :: _, [], _, _, e => by cases e
  | k :: ks, w :: vs, n, v, e => by
    simp only [look] at e
    split at e
    · cases e; exact List.mem_cons_self
    · exact List.mem_cons_of_mem _ (look_in e)
theorem lumS_ok (ns : List Int) (span : Int) (hs : 0 < span) : ∀ i : Nat, (lumS ns span i).1.Nodup ∧ (∀ k ∈ (lumS ns span i).1, 1 ≤ k ∧ k ≤ span) ∧ ∀ v ∈ (lumS ns span i).2, 1 ≤ v ∧ v ≤ 3 * (i : Int)
  | 0 => ⟨by simp [lumS], fun k h => by simp [lumS] at h, fun k h => by simp [lumS] at h⟩
  | i + 1 => by
    obtain ⟨h1, h2, h3⟩ := lumS_ok ns span hs i
    have m0 := Int.emod_nonneg (cell ns (2 + 2 * (i : Int))) (show span ≠ 0 by omega)
    have m1 := Int.emod_lt_of_pos (cell ns (2 + 2 * (i : Int))) hs
    obtain ⟨p1, p2⟩ := putKs_ok (s := 1 + cell ns (2 + 2 * (i : Int)) % span) h1
    simp only [lumS]
    refine ⟨p1, fun k hk => ?_, fun v hv => ?_⟩
    · rcases p2 k hk with z | z
      · exact h2 k z
      · omega
    · rcases putDs_mem hv with z | z
      · have := h3 v z; omega
      · have lk : 0 ≤ (look (lumS ns span i).1 (lumS ns span i).2 (1 + cell ns (2 + 2 * (i : Int)) % span)).getD 0 ∧ (look (lumS ns span i).1 (lumS ns span i).2 (1 + cell ns (2 + 2 * (i : Int)) % span)).getD 0 ≤ 3 * (i : Int) := by
          cases e : look (lumS ns span i).1 (lumS ns span i).2 (1 + cell ns (2 + 2 * (i : Int)) % span) with
          | none => simp; omega
          | some w => have := h3 w (look_in e); simp; omega
        omega
theorem lumF_ok (ns : List Int) (span : Int) (hs : 0 < span) (n : Nat) (hn : n ≤ 8) : badL 0 (lumF ns span n) = false ∧ ∀ p ∈ lumF ns span n, 1 ≤ p.1 ∧ p.1 ≤ span ∧ 1 ≤ p.2 ∧ p.2 ≤ 24 := by
  obtain ⟨h1, h2, h3⟩ := lumS_ok ns span hs n
  obtain ⟨l1, l2⟩ := lumS_len ns span n
  have pm := sortZ_perm (lumS ns span n).1
  have el : ∀ p ∈ lumF ns span n, 1 ≤ p.1 ∧ p.1 ≤ span ∧ 1 ≤ p.2 ∧ p.2 ≤ 24 := fun p hp => by
    unfold lumF at hp
    obtain ⟨k, hk, e⟩ := List.mem_map.mp hp
    have hk' := pm.mem_iff.mp hk
    have a := h2 k hk'
    have b := h3 _ (look_in (look_some _ _ k hk' l1))
    rw [← e]
    dsimp only
    omega
  refine ⟨bad_of ?_ fun p hp => ⟨by have := el p hp; omega, (el p hp).2.2.1⟩, el⟩
  have e : (lumF ns span n).map (·.1) = sortZ (lumS ns span n).1 := by
    unfold lumF
    rw [List.map_map]
    exact List.map_id' _
  rw [e]
  have nd : (sortZ (lumS ns span n).1).Nodup := pm.nodup_iff.mpr h1
  exact (List.Pairwise.and (sortZ_pw _) nd).imp fun {a b} h => by have := h.1; have := h.2; omega
noncomputable abbrev coB : Es := (xSeq (xAug (fun i j => i + j) 2 (e2 fIx (eVar 5) (eC (.int 1)))) (xApp 1 (eTup (aC (eVar 2) (aC (e2 fSub (e2 fIx (eVar 5) (eC (.int 0))) (eVar 4)) a0)))))
noncomputable abbrev coP : Pt := (.tp (.cons (.nm 4) (.cons (.nm 5) .nil)))
theorem loop_app {p : Pt} {b : Es} (hb : ∀ E o, b E = some o → ∃ E', o = .nx E') : ∀ {xs ys : List D} {E E1 : En}, xLoop p b xs E = some (.nx E1) → xLoop p b (xs ++ ys) E = xLoop p b ys E1
  | [], ys, E, E1, h => by cases h; rfl
  | x :: xs, ys, E, E1, h => by
    rw [xLoop] at h
    rw [List.cons_append, xLoop]
    cases hp : p.bind x E with
    | none => rw [hp] at h; cases h
    | some E2 =>
      rw [hp, Option.bind_some] at h
      rw [Option.bind_some]
      cases ho : b E2 with
      | none => rw [ho] at h; cases h
      | some o =>
        obtain ⟨E3, e⟩ := hb E2 o ho
        subst e
        rw [ho, Option.bind_some] at h
        rw [Option.bind_some]
        exact loop_app hb h
theorem co_nx : ∀ E o, coB E = some o → ∃ E', o = .nx E' := fun E o e => by
  unfold coB at e
  unfold xSeq at e
  obtain ⟨o1, e1, e⟩ := bind_some e
  have h1 : ∃ E1, o1 = .nx E1 := by
    unfold xAug at e1
    split at e1
    · obtain ⟨s, _, e1⟩ := bind_some e1
      split at e1
      · cases e1; exact ⟨_, rfl⟩
      · cases e1
    · cases e1
  obtain ⟨E1, rfl⟩ := h1
  rw [seqK_nx] at e
  unfold xApp at e
  split at e
  · obtain ⟨s, _, e⟩ := bind_some e
    obtain ⟨d, _, e⟩ := bind_some e
    split at e
    · cases e; exact ⟨_, rfl⟩
    · cases e
  · cases e
noncomputable def zpE (x : Int × Pr) : D := .tup [.int x.1, prE x.2]
theorem co_loop (x y : Sl) : ∀ (ps : List Pr) (k : Int) (j4 j5 : Sl), ps.length ≤ 1000 → ∃ j4' j5', xLoop coP coB ((List.zip (k :: ps.map (·.1)) ps).reverse.map zpE) [x, .own [], .sh (.int 0), y, j4, j5] = some (.nx [x, .own ((colG k ps).map prE), .sh (.int (numP ps)), y, j4', j5'])
  | [], k, j4, j5, _ => ⟨j4, j5, rfl⟩
  | p :: r, k, j4, j5, hl => by
    obtain ⟨a, b, ih⟩ := co_loop x y r p.1 j4 j5 (by simp at hl; omega)
    have cl := col_len p.1 r
    refine ⟨.sh (.int k), .sh (prE p), ?_⟩
    rw [show List.zip (k :: (p :: r).map (·.1)) (p :: r) = (k, p) :: List.zip (p.1 :: r.map (·.1)) r from rfl, List.reverse_cons, List.map_append, loop_app co_nx ih]
    show xLoop coP coB [zpE (k, p)] _ = _
    rw [xLoop]
    simp only [zpE, List.length_cons] at hl ⊢
    walk_at "ev"
    rw [fIx_p1]
    walk_at "ev"
    rw [fIx_p0]
    walk_at "ev"
    rw [colG, List.map_append, numP_cons, Int.add_comm p.2]
    rfl
theorem m_cols (ps : List Pr) (h : badL 0 ps = false) (hl : ps.length ≤ 1000) : ev_columns [.sh (.lst (ps.map prE))] = some (.own ((colG 0 ps).map prE)) := by
  obtain ⟨r, hr⟩ := m_chk ps h
  obtain ⟨a, b, hc⟩ := co_loop (.sh (.lst (ps.map prE))) (.sh (.lst ((0 :: ps.map (·.1)).map .int))) ps 0 .no .no hl
  have e1 : eEach (.tp (.cons (.nm 0) (.cons (.nm 1) .nil))) yes? (eVar 0) [.no, .no] (ps.map prE) = some (ps.map fun p => D.int p.1) := each_yes fun p _ => by
    simp only [prE]
    walk_at "ev"
  unfold ev_columns
  walk_at "ev"
  rw [hr]
  walk_at "ev"
  rw [e1]
  walk_at "ev"
  have hz : zipT (D.int 0 :: ps.map fun p => D.int p.1) (ps.map prE) = (List.zip (0 :: ps.map (·.1)) ps).map zpE := by
    rw [show (D.int 0 :: ps.map fun p => D.int p.1) = (0 :: ps.map (·.1)).map D.int by simp, zip_map]
    rfl
  rw [hz, ← List.map_reverse]
  rw [show (0 :: ps.map (·.1)).map D.int = (D.int 0 :: ps.map fun p => D.int p.1) by simp] at hc
  rw [hc]
  walk_at "ev"
theorem b_cols (ps : List Pr) (h : badL 0 ps = true) : ev_columns [.sh (.lst (ps.map prE))] = none ∧ ex_columns [.sh (.lst (ps.map prE))] = some (Str.ofString "BadTable") := by
  refine ⟨?_, ?_⟩
  · unfold ev_columns
    walk_at "ev"
    rw [b_chk ps h]
    walk_at "ev"
  · unfold ex_columns exRun exSeq exU exNo
    walk_at "ev"
    rw [x_chk ps h]
theorem m_ref (ps : List Pr) (h : badL 0 ps = true) : ev_law_refused [.sh (.lst (ps.map prE))] = some (.sh (.bl true)) := by
  obtain ⟨k1, k2⟩ := b_cols ps h
  unfold ev_law_refused xTry exU
  walk_at "ev"
  rw [k1, k2]
  rfl
noncomputable abbrev fiB : Es := (xSeq (xSetZ 6 (eF fMin (aC (eVar 2) (aC (eVar 5) a0)))) (xSeq (xSetZ 3 (e2 fAdd (eVar 3) (e2 fMulW (eVar 6) (eVar 4)))) (xSetZ 2 (e2 fSub (eVar 2) (eVar 6)))))
noncomputable abbrev fiP : Pt := (.tp (.cons (.nm 4) (.cons (.nm 5) .nil)))
theorem fi_loop (x y : Sl) : ∀ (cs : List Pr) (l t : Int) (j4 j5 j6 : Sl), 0 ≤ l → l ≤ 10 ^ 100 → (∀ c ∈ cs, 1 ≤ c.1 ∧ c.1 ≤ 10 ^ 100 ∧ 1 ≤ c.2) → ∃ l' j4' j5' j6', xLoop fiP fiB (cs.map prE) [x, y, .sh (.int l), .sh (.int t), j4, j5, j6] = some (.nx [x, y, l', .sh (.int (frF l t cs)), j4', j5', j6'])
  | [], l, t, j4, j5, j6, _, _, _ => ⟨_, j4, j5, j6, rfl⟩
  | c :: cs, l, t, j4, j5, j6, h0, h1, hc => by
    obtain ⟨c1, c2, c3⟩ := hc c List.mem_cons_self
    obtain ⟨a, b, d, e, ih⟩ := fi_loop x y cs (l - min l c.2) (t + min l c.2 * c.1) (.sh (.int c.1)) (.sh (.int c.2)) (.sh (.int (min l c.2))) (by omega) (by omega) fun q hq => hc q (List.mem_cons_of_mem _ hq)
    have hb : (min l c.2).natAbs ≤ 10 ^ 200 ∧ c.1.natAbs ≤ 10 ^ 200 := by omega
    refine ⟨a, b, d, e, ?_⟩
    rw [List.map_cons, xLoop]
    simp only [prE]
    walk_at "ev"
    exact ih
theorem m_first (cs : List Pr) (l : Int) (h0 : 0 ≤ l) (h1 : l ≤ 10 ^ 100) (hc : ∀ c ∈ cs, 1 ≤ c.1 ∧ c.1 ≤ 10 ^ 100 ∧ 1 ≤ c.2) : ev_law_first [.sh (.lst (cs.map prE)), .sh (.int l)] = some (.sh (.int (frF l 0 cs.reverse))) := by
  obtain ⟨a, b, d, e, h⟩ := fi_loop (.sh (.lst (cs.map prE))) (.sh (.int l)) cs.reverse l 0 .no .no .no h0 h1 fun c m => hc c (by simpa using m)
  unfold ev_law_first
  walk_at "ev"
  rw [← List.map_reverse, show xLoop fiP fiB (cs.reverse.map prE) [.sh (.lst (cs.map prE)), .sh (.int l), .sh (.int l), .sh (.int 0), .no, .no, .no] = _ from h]
  walk_at "ev"
theorem cutD_hi {α : Type} (xs : List α) (k : Nat) (h : k ≤ xs.length) : cutD xs none (some (k : Int)) = xs.take k := by
  unfold cutD
  rw [HT.sIx_nat, HT.sIx_none, List.drop_zero, Nat.sub_zero, Nat.min_eq_left h]
theorem cutD_lo {α : Type} (xs : List α) (k : Nat) (h : k ≤ xs.length) : cutD xs (some (k : Int)) none = xs.drop k := by
  unfold cutD
  rw [HT.sIx_nat, HT.sIx_none, Nat.min_eq_left h]
  exact List.take_of_length_le (by rw [List.length_drop]; exact Nat.le_refl _)
theorem lastA_ge : ∀ {a : Int} {ps : List Pr}, badL a ps = false → a ≤ lastA a ps
  | _, [], _ => Int.le_refl _
  | a, p :: r, h => by
    obtain ⟨h1, _, h3⟩ := badL_tail h
    have := lastA_ge h3
    rw [lastA]
    omega
theorem bad_mid (A B : List Pr) (x : Pr) (h : ∀ l, 0 ≤ l → badL l (x :: B) = true) : badL 0 (A ++ x :: B) = true := by
  rw [bad_app]
  cases e : badL 0 A with
  | true => rfl
  | false => rw [h _ (lastA_ge e)]; rfl
theorem four {w : Int} (h0 : 0 ≤ w) (h4 : w < 4) : w = 0 ∨ w = 1 ∨ w = 2 ∨ w = 3 := by omega
theorem first_le : ∀ {a : Int} {ps : List Pr} {p : Pr}, badL a ps = false → p ∈ ps → ∀ q, ps[0]? = some q → q.1 ≤ p.1
  | _, [], _, _, h, _, _ => by cases h
  | a, x :: r, p, h, hp, q, hq => by
    obtain ⟨_, _, h3⟩ := badL_tail h
    have : x = q := by simpa using hq
    subst this
    rcases List.mem_cons.mp hp with z | z
    · rw [z]; exact Int.le_refl _
    · have := ((badL_num h3).2 p z).2; omega
theorem d01 : decide ((0 : Int) < 3) = true := by decide
theorem d13 : decide ((1 : Int) < 3) = true := by decide
theorem d23 : decide ((2 : Int) < 3) = true := by decide
theorem d33 : decide ((3 : Int) < 3) = false := by decide
theorem d02 : decide ((0 : Int) < 2) = true := by decide
theorem d12 : decide ((1 : Int) < 2) = true := by decide
theorem d22 : decide ((2 : Int) < 2) = false := by decide
theorem m_bad (ps : List Pr) (w c : Int) (h : badL 0 ps = false) (hp : ps ≠ []) (hl : ps.length ≤ 8) (h0 : 0 ≤ w) (h4 : w < 4) : ∃ qs : List Pr, badL 0 qs = true ∧ ev_law_bad [.sh (.lst (ps.map prE)), .sh (.int w), .sh (.int c)] = some (.own (qs.map prE)) := by
  have hpos : 0 < ps.length := by cases ps with | nil => exact absurd rfl hp | cons _ _ => simp
  have hat : 0 ≤ c % (ps.length : Int) ∧ c % (ps.length : Int) < (ps.length : Int) := ⟨Int.emod_nonneg _ (by omega), Int.emod_lt_of_pos _ (by omega)⟩
  obtain ⟨k, hk⟩ : ∃ k : Nat, c % (ps.length : Int) = (k : Int) := ⟨(c % (ps.length : Int)).toNat, by omega⟩
  have hk' : k < ps.length := by omega
  have hg : atI (ps.map prE) (k : Int) = some (prE ps[k]) := by rw [atI_map, atI_nat' hk']; rfl
  have hf : 0 ≤ c / 9 % 10 ^ 30 := Int.emod_nonneg _ (by decide)
  have c1 := cutD_len ps none (some (k : Int))
  have c2 := cutD_len ps (some ((k : Int) + 1)) none
  have c3 := cutD_len ps (some (k : Int)) none
  have c4 := cutD_len ps none (some ((k : Int) + 1))
  rcases four h0 h4 with rfl | rfl | rfl | rfl
  · refine ⟨cutD ps none (some (k : Int)) ++ (0 - c / 9 % 10 ^ 30, ps[k].2) :: cutD ps (some ((k : Int) + 1)) none, bad_mid _ _ _ fun l hl => by rw [badL, decide_eq_true (by dsimp only; omega)]; rfl, ?_⟩
    unfold ev_law_bad
    walk_at "ev"
    rw [hk, hg]
    simp only [prE]
    walk_at "ev"
    iterate 5
      try simp only [cutD_map, d01, d02]
      try walk_at "ev"
    rw [show atI [D.tup [.int (0 - c / 9 % 10 ^ 30), .int ps[k].2], .tup [.int ps[k].1, .int (0 - c / 9 % 10 ^ 30)], .tup [.int ps[k].1, .int ps[k].2]] 0 = some (.tup [.int (0 - c / 9 % 10 ^ 30), .int ps[k].2]) from rfl]
    walk_at "ev"
    simp [prE]
  · refine ⟨cutD ps none (some (k : Int)) ++ (ps[k].1, 0 - c / 9 % 10 ^ 30) :: cutD ps (some ((k : Int) + 1)) none, bad_mid _ _ _ fun l hl => by rw [badL, decide_eq_true (p := (0 - c / 9 % 10 ^ 30) < 1) (by omega), Bool.true_or, Bool.or_true], ?_⟩
    unfold ev_law_bad
    walk_at "ev"
    rw [hk, hg]
    simp only [prE]
    walk_at "ev"
    iterate 5
      try simp only [cutD_map, d13, d12]
      try walk_at "ev"
    rw [show atI [D.tup [.int (0 - c / 9 % 10 ^ 30), .int ps[k].2], .tup [.int ps[k].1, .int (0 - c / 9 % 10 ^ 30)], .tup [.int ps[k].1, .int ps[k].2]] 1 = some (.tup [.int ps[k].1, .int (0 - c / 9 % 10 ^ 30)]) from rfl]
    walk_at "ev"
    simp [prE]
  · refine ⟨cutD ps none (some (k : Int)) ++ ps[k] :: cutD ps (some (k : Int)) none, bad_mid _ _ _ fun l hl => by
      rw [cutD_lo ps k (by omega), List.drop_eq_getElem_cons hk', badL, badL, decide_eq_true (Int.le_refl _), Bool.true_or, Bool.or_true, Bool.or_true], ?_⟩
    unfold ev_law_bad
    walk_at "ev"
    rw [hk, hg]
    simp only [prE]
    walk_at "ev"
    iterate 5
      try simp only [cutD_map, d23, d22, Int.add_zero]
      try walk_at "ev"
    rw [show atI [D.tup [.int (0 - c / 9 % 10 ^ 30), .int ps[k].2], .tup [.int ps[k].1, .int (0 - c / 9 % 10 ^ 30)], .tup [.int ps[k].1, .int ps[k].2]] 2 = some (.tup [.int ps[k].1, .int ps[k].2]) from rfl]
    walk_at "ev"
    simp [prE, cutD_map]
  · refine ⟨(ps[k].1 + 1, ps[k].2) :: cutD ps none (some ((k : Int) + 1)), ?_, ?_⟩
    · rw [show (k : Int) + 1 = ((k + 1 : Nat) : Int) by omega, cutD_hi ps (k + 1) (by omega)]
      cases ps with
      | nil => exact absurd rfl hp
      | cons x r =>
        have := first_le h (List.getElem_mem hk') x rfl
        rw [List.take_succ_cons, badL, badL, decide_eq_true (p := x.1 ≤ _) (by dsimp only; omega), Bool.true_or, Bool.or_true, Bool.or_true]
    · unfold ev_law_bad
      walk_at "ev"
      rw [hk, hg]
      simp only [prE]
      walk_at "ev"
      iterate 5
        try simp only [cutD_map, d33]
        try walk_at "ev"
theorem badL_get : ∀ {a : Int} {cs : List Pr} {i : Nat} {p q : Pr}, badL a cs = false → cs[i]? = some p → cs[i + 1]? = some q → p.1 < q.1
  | _, [], _, _, _, _, e, _ => by simp at e
  | a, x :: r, 0, p, q, h, e1, e2 => by
    obtain ⟨_, _, h3⟩ := badL_tail h
    have : x = p := by simpa using e1
    subst this
    cases r with
    | nil => simp at e2
    | cons y r =>
      have : y = q := by simpa using e2
      subst this
      exact (badL_tail h3).1
  | a, x :: r, i + 1, p, q, h, e1, e2 => badL_get (badL_tail h).2.2 (by simpa using e1) (by simpa using e2)
theorem m_fits (cs : List Pr) (h : badL 0 cs = false) (hl : cs.length ≤ 1000) : ev_law_fits [.sh (.lst (cs.map prE))] = some (.sh (.bl true)) := by
  obtain ⟨_, el⟩ := badL_num h
  unfold ev_law_fits
  walk_at "ev"
  rw [rng0, Option.bind_assoc]
  refine loop_cnt (fun i E => ∃ j1 j2 j3, E = [.sh (.lst (cs.map prE)), j1, j2, j3]) ⟨.no, .no, .no, rfl⟩ ?_ ?_
  · rintro i E hi ⟨j1, j2, j3, rfl⟩
    have hi' : i < cs.length := by simpa using hi
    obtain ⟨p, hp⟩ : ∃ p, cs[i]? = some p := ⟨cs[i], by simp⟩
    have hg : atI (cs.map prE) (i : Int) = some (.tup [.int p.1, .int p.2]) := by rw [atI_map, atI_nat2 hp]; rfl
    obtain ⟨f1, f2⟩ := el p (List.mem_of_getElem? hp)
    have fin : ∀ j3, xLoop (.nm 3) (xIf (tOr? (tNot? (tTru? (eIsi "int" (eVar 3)))) (tOr? (tTru? (eIsi "bool" (eVar 3))) (tB? (e2 fLt (eVar 3) (eC (.int 1)))))) (xRet (eC (.bl false))) xNext) [.int p.1, .int p.2] [.sh (.lst (cs.map prE)), .sh (.int (i : Int)), .sh (.tup [.int p.1, .int p.2]), j3] = some (.nx [.sh (.lst (cs.map prE)), .sh (.int (i : Int)), .sh (.tup [.int p.1, .int p.2]), .sh (.int p.2)]) := fun j3 => by
      rw [xLoop]
      walk_at "ev"
      rw [decide_eq_false (show ¬ p.1 < 1 by omega)]
      walk_at "ev"
      rw [xLoop]
      walk_at "ev"
      rw [decide_eq_false (show ¬ p.2 < 1 by omega)]
      walk_at "ev"
      rfl
    walk_at "ev"
    rw [hg]
    walk_at "ev"
    by_cases c3 : (i : Int) > 0
    · rw [decide_eq_true c3]
      obtain ⟨t, ht⟩ : ∃ t, cs[i - 1]? = some t := ⟨cs[i - 1]'(by omega), by simp⟩
      have hgt : atI (cs.map prE) ((i : Int) - 1) = some (prE t) := by rw [show (i : Int) - 1 = ((i - 1 : Nat) : Int) by omega, atI_map, atI_nat2 ht]; rfl
      have as := badL_get h ht (by rw [show i - 1 + 1 = i by omega]; exact hp)
      walk_at "ev"
      rw [hgt]
      walk_at "ev"
      rw [fIx_p0, show atI [D.int p.1, D.int p.2] 0 = some (.int p.1) from rfl]
      walk_at "ev"
      rw [decide_eq_false (show ¬ p.1 ≤ t.1 by omega)]
      walk_at "ev"
      rw [fin]
      walk_at "ev"
      exact ⟨_, _, _, rfl⟩
    · rw [decide_eq_false c3]
      walk_at "ev"
      rw [fin]
      walk_at "ev"
      exact ⟨_, _, _, rfl⟩
  · rintro E' ⟨j1, j2, j3, rfl⟩
    walk_at "ev"
noncomputable abbrev inB : Es := (xSeq (xIf (tB? (e2 fEq (eVar 10) (eVar 7))) (xSetZ 12 (e2 fSub (eVar 13) (eVar 11))) xNext) (xSeq (xSetZ 10 (e2 fSub (eVar 10) (eVar 14))) (xSetZ 11 (eVar 13))))
noncomputable abbrev inP : Pt := (.tp (.cons (.nm 13) (.cons (.nm 14) .nil)))
noncomputable abbrev ouB : Es := (xSeq (xSetZ 9 (eComp (iE true (eVar 3)) (.tp (.cons (.nm 0) (.cons (.nm 1) .nil))) yes? (eVar 0) [none, none])) (xSeq (xSetZ 10 (eF fSum (aC (eComp (iE true (eVar 3)) (.tp (.cons (.nm 0) (.cons (.nm 1) .nil))) yes? (eVar 1) [none, none]) a0))) (xSeq (xSetZ 11 (eC (.int 0))) (xSeq (xSetZ 12 (eC (.int 0))) (xSeq (xFor (iV 3) (.tp (.cons (.nm 13) (.cons (.nm 14) .nil))) (xSeq (xIf (tB? (e2 fEq (eVar 10) (eVar 7))) (xSetZ 12 (e2 fSub (eVar 13) (eVar 11))) xNext) (xSeq (xSetZ 10 (e2 fSub (eVar 10) (eVar 14))) (xSetZ 11 (eVar 13))))) (xIf (tOr? (tB? (e2 fNe (eVar 12) (eVar 8))) (tB? (e2 fEq (eVar 9) (eLst a0)))) (xRet (eC (.bl false))) xNext))))))
noncomputable abbrev ouP : Pt := (.tp (.cons (.nm 7) (.cons (.nm 8) .nil)))
noncomputable abbrev seB : Es := (xIf (tB? (e2 fNe (eU 2 ev_law_first (aC (eVar 6) (aC (eVar 15) a0))) (eF fSum (aC (eComp (iE true (eVar 3)) (.tp (.cons (.nm 0) (.cons (.nm 1) .nil))) yes? (e2 fMulW (eVar 1) (eF fMin (aC (eVar 0) (aC (eVar 2) a0)))) [none, none, some 15]) a0)))) (xRet (eC (.bl false))) xNext)
theorem in_loop (x0 x1 x2 x3 x4 x5 x6 x8 x9 x15 : Sl) (h : Int) : ∀ (ps : List Pr) (l b w : Int) (j13 j14 : Sl), ∃ l' b' j13' j14', xLoop inP inB (ps.map prE) [x0, x1, x2, x3, x4, x5, x6, .sh (.int h), x8, x9, .sh (.int l), .sh (.int b), .sh (.int w), j13, j14, x15] = some (.nx [x0, x1, x2, x3, x4, x5, x6, .sh (.int h), x8, x9, l', b', .sh (.int (wdF h l b w ps)), j13', j14', x15])
  | [], l, b, w, j13, j14 => ⟨_, _, j13, j14, rfl⟩
  | p :: r, l, b, w, j13, j14 => by
    by_cases c : l = h
    · obtain ⟨a1, a2, a3, a4, ih⟩ := in_loop x0 x1 x2 x3 x4 x5 x6 x8 x9 x15 h r (l - p.2) p.1 (p.1 - b) (.sh (.int p.1)) (.sh (.int p.2))
      refine ⟨a1, a2, a3, a4, ?_⟩
      rw [List.map_cons, xLoop, wdF, if_pos c]
      simp only [prE]
      walk_at "ev"
      rw [decide_eq_true c]
      walk_at "ev"
      exact ih
    · obtain ⟨a1, a2, a3, a4, ih⟩ := in_loop x0 x1 x2 x3 x4 x5 x6 x8 x9 x15 h r (l - p.2) p.1 w (.sh (.int p.1)) (.sh (.int p.2))
      refine ⟨a1, a2, a3, a4, ?_⟩
      rw [List.map_cons, xLoop, wdF, if_neg c]
      simp only [prE]
      walk_at "ev"
      rw [decide_eq_false c]
      walk_at "ev"
      exact ih
theorem ou_loop (x0 x1 x2 x4 x5 x6 x15 : Sl) (ps : List Pr) (h : badL 0 ps = false) (hl : ps.length ≤ 8) (hne : ps ≠ []) : ∀ (cs : List Pr) (j7 j8 j9 j10 j11 j12 j13 j14 : Sl), (∀ c ∈ cs, c ∈ colG 0 ps) → ∃ j7' j8' j9' j10' j11' j12' j13' j14', xLoop ouP ouB (cs.map prE) [x0, x1, x2, .sh (.lst (ps.map prE)), x4, x5, x6, j7, j8, j9, j10, j11, j12, j13, j14, x15] = some (.nx [x0, x1, x2, .sh (.lst (ps.map prE)), x4, x5, x6, j7', j8', j9', j10', j11', j12', j13', j14', x15])
  | [], j7, j8, j9, j10, j11, j12, j13, j14, _ => ⟨j7, j8, j9, j10, j11, j12, j13, j14, rfl⟩
  | c :: cs, j7, j8, j9, j10, j11, j12, j13, j14, hc => by
    obtain ⟨_, _, w3⟩ := wd_col (w := 0) h (hc c List.mem_cons_self)
    have f1 : eEach (.tp (.cons (.nm 0) (.cons (.nm 1) .nil))) yes? (eVar 0) [.no, .no] (ps.map prE) = some (ps.map fun p => D.int p.1) := each_yes fun p _ => by
      simp only [prE]
      walk_at "ev"
    have f2 : eEach (.tp (.cons (.nm 0) (.cons (.nm 1) .nil))) yes? (eVar 1) [.no, .no] (ps.map prE) = some (ps.map fun p => D.int p.2) := each_yes fun p _ => by
      simp only [prE]
      walk_at "ev"
    have f3 : eqA (.lst (ps.map fun p => D.int p.1)) (.lst []) = some false := by
      have := eqA_II (ps.map (·.1)) []
      rw [List.map_map] at this
      refine Eq.trans this ?_
      rw [decide_eq_false (by simpa using hne)]
    obtain ⟨a1, a2, a3, a4, hi⟩ := in_loop x0 x1 x2 (.sh (.lst (ps.map prE))) x4 x5 x6 (.sh (.int c.2)) (.sh (.lst (ps.map fun p => D.int p.1))) x15 c.1 ps (numP ps) 0 0 j13 j14
    rw [w3] at hi
    obtain ⟨b1, b2, b3, b4, b5, b6, b7, b8, ih⟩ := ou_loop x0 x1 x2 x4 x5 x6 x15 ps h hl hne cs (.sh (.int c.1)) (.sh (.int c.2)) (.sh (.lst (ps.map fun p => D.int p.1))) a1 a2 (.sh (.int c.2)) a3 a4 fun q hq => hc q (List.mem_cons_of_mem _ hq)
    refine ⟨b1, b2, b3, b4, b5, b6, b7, b8, ?_⟩
    rw [List.map_cons, xLoop]
    simp only [prE]
    walk_at "ev"
    rw [f1]
    walk_at "ev"
    rw [f2]
    walk_at "ev"
    rw [fSum_ok (ns := ps.map (·.2)) (by simp [Sl.q])]
    walk_at "ev"
    rw [show xLoop inP inB (ps.map prE) [x0, x1, x2, .sh (.lst (ps.map prE)), x4, x5, x6, .sh (.int c.1), .sh (.int c.2), .sh (.lst (ps.map fun p => D.int p.1)), .sh (.int (ps.map (·.2)).sum), .sh (.int 0), .sh (.int 0), j13, j14, x15] = _ from hi]
    walk_at "ev"
    rw [f3]
    walk_at "ev"
    exact ih
theorem numP_le (B : Int) : ∀ {ps : List Pr}, (∀ p ∈ ps, p.2 ≤ B) → numP ps ≤ (ps.length : Int) * B
  | [], _ => by simp [numP]
  | p :: r, h => by
    have := numP_le B fun q hq => h q (List.mem_cons_of_mem p hq)
    have := h p List.mem_cons_self
    rw [numP_cons, List.length_cons, Int.natCast_add, Int.add_mul]
    simp
    omega
theorem midA45 (fz c0 c1 : Sl) (ps : List Pr) (h : badL 0 ps = false) (hl : ps.length ≤ 8) : ∃ j5, ∀ T : Es, (xSeq (xSetZ 4 (eF fList (aC (eVar 3) a0))) (xSeq (xSet 5 (eU 1 ev_columns (aC (eVar 4) a0))) (xSeq (xApp 5 (eTup (aC (eC (.int 1)) (aC (eC (.int 1)) a0)))) (xSeq (xRevL 5) (xSeq (xSetZ 6 (eU 1 ev_columns (aC (eVar 4) a0))) (xSeq (xIf (tOr? (tB? (e2 fNe (eVar 4) (eVar 3))) (tNot? (tTru? (eU 1 ev_law_fits (aC (eVar 6) a0))))) (xRet (eC (.bl false))) xNext) T)))))) [fz, c0, c1, .sh (.lst (ps.map prE)), .no, .no, .no, .no, .no, .no, .no, .no, .no, .no, .no, .no] = T [fz, c0, c1, .sh (.lst (ps.map prE)), .sh (.lst (ps.map prE)), j5, .sh (.lst ((colG 0 ps).map prE)), .no, .no, .no, .no, .no, .no, .no, .no, .no] := by
  have cl := col_len 0 ps
  refine ⟨.own ((colG 0 ps).map prE ++ [D.tup [.int 1, .int 1]]).reverse, fun T => ?_⟩
  walk_at "ev"
  rw [m_cols ps h (by omega)]
  walk_at "ev"
  rw [m_cols ps h (by omega)]
  walk_at "ev"
  rw [m_fits (colG 0 ps) (col_good h) (by omega)]
  walk_at "ev"
theorem midC45 (fz c0 c1 x4 x5 j7 j8 j9 j10 j11 j12 j13 j14 : Sl) (ps : List Pr) (h : badL 0 ps = false) (hl : ps.length ≤ 8) (T : Es) : (xSeq (xIf (tOr? (tB? (e2 fNe (eF fLen (aC (eVar 6) a0)) (eF fLen (aC (eVar 3) a0)))) (tB? (e2 fNe (eU 1 ev_columns (aC (eF fList (aC (eVar 6) a0)) a0)) (eVar 3)))) (xRet (eC (.bl false))) xNext) T) [fz, c0, c1, .sh (.lst (ps.map prE)), x4, x5, .sh (.lst ((colG 0 ps).map prE)), j7, j8, j9, j10, j11, j12, j13, j14, .no] = T [fz, c0, c1, .sh (.lst (ps.map prE)), x4, x5, .sh (.lst ((colG 0 ps).map prE)), j7, j8, j9, j10, j11, j12, j13, j14, .no] := by
  have cl := col_len 0 ps
  walk_at "ev"
  rw [cl, decide_eq_true rfl]
  walk_at "ev"
  rw [m_cols (colG 0 ps) (col_good h) (by omega), col_back h]
  walk_at "ev"
  try rw [decide_eq_true rfl]
  try walk_at "ev"
theorem se_turn (fz c0 c1 x4 x5 j7 j8 j9 j10 j11 j12 j13 j14 : Sl) (ps : List Pr) (s : Int) (h : badL 0 ps = false) (hl : ps.length ≤ 8) (hb : ∀ p ∈ ps, 1 ≤ p.1 ∧ p.1 ≤ 10 ^ 40 ∧ 1 ≤ p.2 ∧ p.2 ≤ 10 ^ 21) (h0 : 1 ≤ s) (h1 : s ≤ 10 ^ 42) : seB [fz, c0, c1, .sh (.lst (ps.map prE)), x4, x5, .sh (.lst ((colG 0 ps).map prE)), j7, j8, j9, j10, j11, j12, j13, j14, .sh (.int s)] = some (.nx [fz, c0, c1, .sh (.lst (ps.map prE)), x4, x5, .sh (.lst ((colG 0 ps).map prE)), j7, j8, j9, j10, j11, j12, j13, j14, .sh (.int s)]) := by
  have cl := col_len 0 ps
  have np := numP_le (10 ^ 21) fun p hp => (hb p hp).2.2.2
  have cb : ∀ c ∈ colG 0 ps, 1 ≤ c.1 ∧ c.1 ≤ 10 ^ 100 ∧ 1 ≤ c.2 := fun c hc => by
    obtain ⟨a1, a2, _⟩ := wd_col (w := 0) h hc
    have := ((badL_num (col_good h)).2 c hc).1
    omega
  have e1 : eEach (.tp (.cons (.nm 0) (.cons (.nm 1) .nil))) yes? (e2 fMulW (eVar 1) (eF fMin (aC (eVar 0) (aC (eVar 2) a0)))) [.no, .no, .sh (.int s)] (ps.map prE) = some (ps.map fun p => D.int (p.2 * min p.1 s)) := each_yes fun p hp => by
    obtain ⟨p1, p2, p3, p4⟩ := hb p hp
    have hx : p.2.natAbs ≤ 10 ^ 200 ∧ (min p.1 s).natAbs ≤ 10 ^ 200 := by omega
    simp only [prE]
    walk_at "ev"
  have fr := fr_col s 0 h (by omega)
  rw [Int.zero_add] at fr
  have e0 : (ps.map fun p => p.2 * min (p.1 - 0) s) = ps.map fun p => p.2 * min p.1 s := List.map_congr_left fun p _ => by rw [Int.sub_zero]
  rw [e0] at fr
  walk_at "ev"
  rw [m_first (colG 0 ps) s (by omega) (by omega) cb]
  walk_at "ev"
  rw [e1]
  walk_at "ev"
  rw [fSum_ok (ns := ps.map fun p => p.2 * min p.1 s) (by simp [Sl.q]), fr]
  walk_at "ev"
theorem tail45 (ns : List Int) (c0 : Sl) (c : Int) (ps : List Pr) (h : badL 0 ps = false) (hl : ps.length ≤ 8) (hb : ∀ p ∈ ps, 1 ≤ p.1 ∧ p.1 ≤ 10 ^ 40 ∧ 1 ≤ p.2 ∧ p.2 ≤ 10 ^ 21) : ((xSeq (xSetZ 4 (eF fList (aC (eVar 3) a0))) (xSeq (xSet 5 (eU 1 ev_columns (aC (eVar 4) a0))) (xSeq (xApp 5 (eTup (aC (eC (.int 1)) (aC (eC (.int 1)) a0)))) (xSeq (xRevL 5) (xSeq (xSetZ 6 (eU 1 ev_columns (aC (eVar 4) a0))) (xSeq (xIf (tOr? (tB? (e2 fNe (eVar 4) (eVar 3))) (tNot? (tTru? (eU 1 ev_law_fits (aC (eVar 6) a0))))) (xRet (eC (.bl false))) xNext) (xSeq (xFor (iV 6) (.tp (.cons (.nm 7) (.cons (.nm 8) .nil))) (xSeq (xSetZ 9 (eComp (iE true (eVar 3)) (.tp (.cons (.nm 0) (.cons (.nm 1) .nil))) yes? (eVar 0) [none, none])) (xSeq (xSetZ 10 (eF fSum (aC (eComp (iE true (eVar 3)) (.tp (.cons (.nm 0) (.cons (.nm 1) .nil))) yes? (eVar 1) [none, none]) a0))) (xSeq (xSetZ 11 (eC (.int 0))) (xSeq (xSetZ 12 (eC (.int 0))) (xSeq (xFor (iV 3) (.tp (.cons (.nm 13) (.cons (.nm 14) .nil))) (xSeq (xIf (tB? (e2 fEq (eVar 10) (eVar 7))) (xSetZ 12 (e2 fSub (eVar 13) (eVar 11))) xNext) (xSeq (xSetZ 10 (e2 fSub (eVar 10) (eVar 14))) (xSetZ 11 (eVar 13))))) (xIf (tOr? (tB? (e2 fNe (eVar 12) (eVar 8))) (tB? (e2 fEq (eVar 9) (eLst a0)))) (xRet (eC (.bl false))) xNext))))))) (xSeq (xIf (tOr? (tB? (e2 fNe (eF fLen (aC (eVar 6) a0)) (eF fLen (aC (eVar 3) a0)))) (tB? (e2 fNe (eU 1 ev_columns (aC (eF fList (aC (eVar 6) a0)) a0)) (eVar 3)))) (xRet (eC (.bl false))) xNext) (xSeq (xFor (iE false (eLst (aC (eC (.int 1)) (aC (e2 fAdd (eC (.int 1)) (e2 fMod (eVar 2) (eC (.int 9)))) (aC (e2 fAdd (eC (.int 1)) (e2 fMod (eVar 2) (e2 fPow (eC (.int 10)) (eC (.int 41))))) a0))))) (.nm 15) (xIf (tB? (e2 fNe (eU 2 ev_law_first (aC (eVar 6) (aC (eVar 15) a0))) (eF fSum (aC (eComp (iE true (eVar 3)) (.tp (.cons (.nm 0) (.cons (.nm 1) .nil))) yes? (e2 fMulW (eVar 1) (eF fMin (aC (eVar 0) (aC (eVar 2) a0)))) [none, none, some 15]) a0)))) (xRet (eC (.bl false))) xNext)) (xRet (eC (.bl true)))))))))))) [.sh (.fz (ns.map .int)), c0, .sh (.int c), .sh (.lst (ps.map prE)), .no, .no, .no, .no, .no, .no, .no, .no, .no, .no, .no, .no]).bind endK = some (.sh (.bl true)) := by
  obtain ⟨j5, hA⟩ := midA45 (.sh (.fz (ns.map .int))) c0 (.sh (.int c)) ps h hl
  have hO : ∃ j7 j8 j9 j10 j11 j12 j13 j14, xLoop ouP ouB ((colG 0 ps).map prE) [.sh (.fz (ns.map .int)), c0, .sh (.int c), .sh (.lst (ps.map prE)), .sh (.lst (ps.map prE)), j5, .sh (.lst ((colG 0 ps).map prE)), .no, .no, .no, .no, .no, .no, .no, .no, .no] = some (.nx [.sh (.fz (ns.map .int)), c0, .sh (.int c), .sh (.lst (ps.map prE)), .sh (.lst (ps.map prE)), j5, .sh (.lst ((colG 0 ps).map prE)), j7, j8, j9, j10, j11, j12, j13, j14, .no]) := by
    by_cases hne : ps = []
    · subst hne
      exact ⟨_, _, _, _, _, _, _, _, rfl⟩
    · exact ou_loop _ _ _ _ _ _ _ ps h hl hne (colG 0 ps) _ _ _ _ _ _ _ _ fun _ m => m
  obtain ⟨j7, j8, j9, j10, j11, j12, j13, j14, hO⟩ := hO
  have m9 : 0 ≤ c % 9 ∧ c % 9 < 9 := ⟨Int.emod_nonneg _ (by decide), Int.emod_lt_of_pos _ (by decide)⟩
  have m41 : 0 ≤ c % 10 ^ 41 ∧ c % 10 ^ 41 < 10 ^ 41 := ⟨Int.emod_nonneg _ (by decide), Int.emod_lt_of_pos _ (by decide)⟩
  have t1 := fun x => se_turn (.sh (.fz (ns.map .int))) c0 (.sh (.int c)) (.sh (.lst (ps.map prE))) j5 j7 j8 j9 j10 j11 j12 j13 j14 ps x h hl hb
  refine (congrArg (fun o : Option Out => o.bind endK) (hA _)).trans ?_
  show (xSeq (xFor (iV 6) ouP ouB) _ _).bind endK = _
  have hi : iV 6 [.sh (.fz (ns.map .int)), c0, .sh (.int c), .sh (.lst (ps.map prE)), .sh (.lst (ps.map prE)), j5, .sh (.lst ((colG 0 ps).map prE)), .no, .no, .no, .no, .no, .no, .no, .no, .no] = some ((colG 0 ps).map prE) := by
    walk_at "ev"
  rw [xSeq, xFor, hi, Option.bind_some, hO]
  refine (congrArg (fun o : Option Out => o.bind endK) (midC45 _ _ _ _ _ j7 j8 j9 j10 j11 j12 j13 j14 ps h hl _)).trans ?_
  show (xSeq (xFor _ (.nm 15) seB) _ _).bind endK = _
  have hs : xFor (iE false (eLst (aC (eC (.int 1)) (aC (e2 fAdd (eC (.int 1)) (e2 fMod (eVar 2) (eC (.int 9)))) (aC (e2 fAdd (eC (.int 1)) (e2 fMod (eVar 2) (e2 fPow (eC (.int 10)) (eC (.int 41))))) a0))))) (.nm 15) seB [.sh (.fz (ns.map .int)), c0, .sh (.int c), .sh (.lst (ps.map prE)), .sh (.lst (ps.map prE)), j5, .sh (.lst ((colG 0 ps).map prE)), j7, j8, j9, j10, j11, j12, j13, j14, .no] = xLoop (.nm 15) seB [.int 1, .int (1 + c % 9), .int (1 + c % 10 ^ 41)] [.sh (.fz (ns.map .int)), c0, .sh (.int c), .sh (.lst (ps.map prE)), .sh (.lst (ps.map prE)), j5, .sh (.lst ((colG 0 ps).map prE)), j7, j8, j9, j10, j11, j12, j13, j14, .no] := by
    walk_at "ev"
    try rfl
  have hz : xLoop (.nm 15) seB [.int 1, .int (1 + c % 9), .int (1 + c % 10 ^ 41)] [.sh (.fz (ns.map .int)), c0, .sh (.int c), .sh (.lst (ps.map prE)), .sh (.lst (ps.map prE)), j5, .sh (.lst ((colG 0 ps).map prE)), j7, j8, j9, j10, j11, j12, j13, j14, .no] = some (.nx [.sh (.fz (ns.map .int)), c0, .sh (.int c), .sh (.lst (ps.map prE)), .sh (.lst (ps.map prE)), j5, .sh (.lst ((colG 0 ps).map prE)), j7, j8, j9, j10, j11, j12, j13, j14, .sh (.int (1 + c % 10 ^ 41))]) := by
    show (seB [.sh (.fz (ns.map .int)), c0, .sh (.int c), .sh (.lst (ps.map prE)), .sh (.lst (ps.map prE)), j5, .sh (.lst ((colG 0 ps).map prE)), j7, j8, j9, j10, j11, j12, j13, j14, .sh (.int 1)]).bind _ = _
    rw [t1 1 (by omega) (by omega), Option.bind_some]
    show (seB [.sh (.fz (ns.map .int)), c0, .sh (.int c), .sh (.lst (ps.map prE)), .sh (.lst (ps.map prE)), j5, .sh (.lst ((colG 0 ps).map prE)), j7, j8, j9, j10, j11, j12, j13, j14, .sh (.int (1 + c % 9))]).bind _ = _
    rw [t1 (1 + c % 9) (by omega) (by omega), Option.bind_some]
    show (seB [.sh (.fz (ns.map .int)), c0, .sh (.int c), .sh (.lst (ps.map prE)), .sh (.lst (ps.map prE)), j5, .sh (.lst ((colG 0 ps).map prE)), j7, j8, j9, j10, j11, j12, j13, j14, .sh (.int (1 + c % 10 ^ 41))]).bind _ = _
    rw [t1 (1 + c % 10 ^ 41) (by omega) (by omega), Option.bind_some]
    rfl
  rw [xSeq, hs, hz]
  rfl
theorem pick_span (a b c w : Int) (h0 : 0 ≤ w) (h4 : w < 3) (ha : 0 < a ∧ a ≤ 10 ^ 40) (hb : 0 < b ∧ b ≤ 10 ^ 40) (hc : 0 < c ∧ c ≤ 10 ^ 40) : ∃ s, 0 < s ∧ s ≤ 10 ^ 40 ∧ atI [.int a, .int b, .int c] w = some (D.int s) := by
  have : w = 0 ∨ w = 1 ∨ w = 2 := by omega
  rcases this with rfl | rfl | rfl
  · exact ⟨a, ha.1, ha.2, rfl⟩
  · exact ⟨b, hb.1, hb.2, rfl⟩
  · exact ⟨c, hc.1, hc.2, rfl⟩
theorem head45 (ns : List Int) : ∃ ps : List Pr, badL 0 ps = false ∧ ps.length ≤ 8 ∧ (∀ p ∈ ps, 1 ≤ p.1 ∧ p.1 ≤ 10 ^ 40 ∧ 1 ≤ p.2 ∧ p.2 ≤ 24) ∧ ∀ T : Es, (xSeq (xSetZ 1 (eU 2 ev_law_cell (aC (eVar 0) (aC (eC (.int 0)) a0)))) (xSeq (xSetZ 2 (eU 2 ev_law_cell (aC (eVar 0) (aC (eC (.int 1)) a0)))) (xSeq (xSetZ 3 (eU 4 ev_law_lumps (aC (eVar 0) (aC (eC (.int 2)) (aC (e2 fMod (eVar 1) (eC (.int 9))) (aC (e2 fIx (eLst (aC (eC (.int 7)) (aC (eC (.int 1000)) (aC (e2 fPow (eC (.int 10)) (eC (.int 40))) a0)))) (e2 fMod (e2 fDiv (eVar 1) (eC (.int 9))) (eC (.int 3)))) a0)))))) T))) [.sh (.fz (ns.map .int)), .no, .no, .no, .no, .no, .no, .no, .no, .no, .no, .no, .no, .no, .no, .no] = T [.sh (.fz (ns.map .int)), .sh (.int (cell ns 0)), .sh (.int (cell ns 1)), .sh (.lst (ps.map prE)), .no, .no, .no, .no, .no, .no, .no, .no, .no, .no, .no, .no] := by
  obtain ⟨span, hs, hs2, es⟩ := pick_span 7 1000 (10 ^ 40) (cell ns 0 / 9 % 3) (Int.emod_nonneg _ (by decide)) (Int.emod_lt_of_pos _ (by decide)) (by decide) (by decide) (by decide)
  have hL := lumF_len ns span (cell ns 0 % 9).toNat
  obtain ⟨l1, l2⟩ := lumF_ok ns span hs (cell ns 0 % 9).toNat (by omega)
  refine ⟨lumF ns span (cell ns 0 % 9).toNat, l1, by omega, fun p hp => by have := l2 p hp; omega, fun T => ?_⟩
  walk_at "ev"
  rw [m_cell _ _ (by omega)]
  walk_at "ev"
  rw [m_cell _ _ (by omega)]
  walk_at "ev"
  rw [es]
  walk_at "ev"
  rw [m_lum ns _ span (by omega) (by omega) hs]
  walk_at "ev"
theorem law_true (ns : List Int) (hn : ns.length ≤ 63) : ev_law [.sh (.fz (ns.map .int))] = some (.sh (.bl true)) := by
  obtain ⟨ps, h, hl, hb, hh⟩ := head45 ns
  refine (congrArg (fun o : Option Out => o.bind endK) (hh _)).trans ?_
  by_cases c1 : cell ns 0 / 27 % 4 = 1
  · by_cases hne : ps = []
    · subst hne
      have t := tail45 ns (.sh (.int (cell ns 0))) (cell ns 1) [] h hl (fun _ m => by cases m)
      refine Eq.trans ?_ t
      have e0 : eqA (.lst ([] : List D)) (.lst []) = some true := by
        have := eqA_PP [] []
        simpa using this
      walk_at "ev"
      rw [decide_eq_true c1]
      walk_at "ev"
      rw [e0]
      walk_at "ev"
      rw [decide_eq_false (show ¬ cell ns 0 / 27 % 4 = 2 by omega)]
      walk_at "ev"
    · obtain ⟨qs, hq, eq⟩ := m_bad ps (cell ns 0 / 108 % 4) (cell ns 1 % 10 ^ 40) h hne hl (Int.emod_nonneg _ (by decide)) (Int.emod_lt_of_pos _ (by decide))
      have e0 : eqA (.lst (ps.map prE)) (.lst []) = some false := by
        have := eqA_PP ps []
        rw [List.map_nil] at this
        rw [this, decide_eq_false hne]
      walk_at "ev"
      rw [decide_eq_true c1]
      walk_at "ev"
      rw [e0]
      walk_at "ev"
      rw [eq]
      walk_at "ev"
      rw [m_ref qs hq]
      walk_at "ev"
  · by_cases c2 : cell ns 0 / 27 % 4 = 2
    · have mm : 0 ≤ cell ns 1 % 10 ^ 20 ∧ cell ns 1 % 10 ^ 20 < 10 ^ 20 := ⟨Int.emod_nonneg _ (by decide), Int.emod_lt_of_pos _ (by decide)⟩
      have pk : ((ps.map fun p => ((p.1, p.2 + cell ns 1 % 10 ^ 20) : Pr)).map (·.1)) = ps.map (·.1) := by
        rw [List.map_map]
        rfl
      have gen : ∀ {a : Int} {ps : List Pr}, badL a ps = false → badL a (ps.map fun p => ((p.1, p.2 + cell ns 1 % 10 ^ 20) : Pr)) = false := by
        intro a ps
        induction ps generalizing a with
        | nil => exact fun _ => rfl
        | cons p r ih =>
          intro h
          obtain ⟨b1, b2, b3⟩ := badL_tail h
          rw [List.map_cons, badL, decide_eq_false (by dsimp only; omega), decide_eq_false (by dsimp only; omega), Bool.false_or, Bool.false_or]
          exact ih b3
      have t := tail45 ns (.sh (.int (cell ns 0))) (cell ns 1) (ps.map fun p => ((p.1, p.2 + cell ns 1 % 10 ^ 20) : Pr)) (gen h) (by simpa using hl) (fun q hq => by
        obtain ⟨p, hp, e⟩ := List.mem_map.mp hq
        have := hb p hp
        rw [← e]
        dsimp only
        omega)
      refine Eq.trans ?_ t
      have e1 : eEach (.tp (.cons (.nm 0) (.cons (.nm 1) .nil))) yes? (eTup (aC (eVar 0) (aC (e2 fAdd (eVar 1) (e2 fMod (eVar 2) (e2 fPow (eC (.int 10)) (eC (.int 20))))) a0))) [.no, .no, .sh (.int (cell ns 1))] (ps.map prE) = some ((ps.map fun p => ((p.1, p.2 + cell ns 1 % 10 ^ 20) : Pr)).map prE) := by
        rw [List.map_map]
        exact each_yes fun p _ => by
          simp only [prE]
          walk_at "ev"
          rfl
      walk_at "ev"
      rw [decide_eq_false c1]
      walk_at "ev"
      rw [decide_eq_true c2]
      walk_at "ev"
      rw [e1]
      walk_at "ev"
    · have t := tail45 ns (.sh (.int (cell ns 0))) (cell ns 1) ps h hl (fun p hp => by have := hb p hp; omega)
      refine Eq.trans ?_ t
      walk_at "ev"
      rw [decide_eq_false c1]
      walk_at "ev"
      rw [decide_eq_false c2]
      walk_at "ev"
end
end LK
noncomputable section
namespace LK
open PySem L2 LR LE
noncomputable def top (i : Nat) : Stmt := PySem.Challenge.pw_lumprow_k45_columns.main.body.getD i (.Pass ⟨0, 0, 0, 0⟩)
noncomputable abbrev s_law_first : Stmt := top 20
noncomputable abbrev s_check_lumps : Stmt := top 11
noncomputable abbrev s_columns : Stmt := top 12
noncomputable abbrev s_law_fits : Stmt := top 19
noncomputable abbrev s_law_alone : Stmt := top 16
noncomputable abbrev s_law_refused : Stmt := top 17
noncomputable abbrev s_law_bad : Stmt := top 18
noncomputable abbrev s_law_cell : Stmt := top 14
noncomputable abbrev s_law_lumps : Stmt := top 15
noncomputable abbrev s_law : Stmt := top 21
section
variable {P : Program} {w : World} {K : PySem.W.Frag} {C : Addr} {mg : Str → Option Value} {base : Heap} {c_BadTable : Addr} {c_LumpError : Addr} {c_NoRow : Addr} {c_Unlike : Addr} {c_BadDeed : Addr} {c_BadSeats : Addr} {c_BadText : Addr} {c_TooMany : Addr} {c_BadRow : Addr}
theorem sc_law_first : FnScope ["found", "seats", "left", "total", "height", "many", "some"] ["found", "seats"] (defScope s_law_first) := ⟨rfl, rfl, rfl, by decide +kernel, rfl, by decide +kernel, by decide +kernel⟩
theorem ok_law_first {f : Addr} {fd : FuncData} (F : Fun K "_law_first" "_law_first" s_law_first f fd) (b_reversed : mg "reversed" = none) (b_min : mg "min" = none) : FnOk P w K mg base CX0 1 f fd ["found", "seats"] (spE K C 2 ev_law_first) := by
  refine F.ok sc_law_first (fun vs H Q E h => spE_len h) (fun cdv A outer s H vs Q E hr h => ?_)
  have hu := hr.units
  refine ⟨_, (pss_cons (ps_set (i := 2) sc_law_first.nd rfl (Or.inl rfl) (pv 1))
      (pss_cons (ps_set (i := 3) sc_law_first.nd rfl (Or.inl rfl) pe_int)
      (pss_cons (ps_for PassesOwn.never rfl (pi_revK (K := K) rfl rfl b_reversed (pa_cons (pv 0) pa_nil)) (pg_tupK (K := K) (n := 2) rfl rfl (pgs_cons (pg_name (i := 4) sc_law_first.nd rfl (Or.inl rfl)) (pgs_cons (pg_name (i := 5) sc_law_first.nd rfl (Or.inl rfl)) pgs_nil)) rfl rfl) (pss_cons (ps_set (i := 6) sc_law_first.nd rfl (Or.inl rfl) (pe_callB (call_minN rfl) rfl b_min bt_min (pa_cons (pv 2) (pa_cons (pv 5) pa_nil))))
      (pss_cons (ps_set (i := 3) sc_law_first.nd rfl (Or.inl rfl) (pe_op (op_addB (K := K) rfl) (pv 3) (pe_op op_mulW (pv 6) (pv 4))))
      (pss_one (ps_set (i := 2) sc_law_first.nd rfl (Or.inl rfl) (pe_op op_sub (pv 2) (pv 6)))))))
      (pss_one (ps_ret (pv 3)))))), ?_⟩
  exact fn_done (N := ["found", "seats", "left", "total", "height", "many", "some"]) (x_seq (x_setZ (s_var 1))
      (x_seq (x_setZ s_int)
      (x_seq (x_for (s_iRev (s_cons (s_var 0) s_nil)) (g_tup (g_cons (g_nm 4) (g_cons (g_nm 5) g_nil)) rfl) (x_seq (x_setZ (s_CB c_min (s_cons (s_var 2) (s_cons (s_var 5) s_nil))))
      (x_seq (x_setZ (s_op o_add (s_var 3) (s_op o_mulW (s_var 6) (s_var 4))))
      (x_setZ (s_op o_sub (s_var 2) (s_var 6))))))
      x_retV))) h
theorem sc_check_lumps : FnScope ["lumps", "ahead", "size", "number"] ["lumps"] (defScope s_check_lumps) := ⟨rfl, rfl, rfl, by decide +kernel, rfl, by decide +kernel, by decide +kernel⟩
theorem ok_check_lumps {f : Addr} {fd : FuncData} (F : Fun K "check_lumps" "check_lumps" s_check_lumps f fd) (m_BadTable : mg "BadTable" = some (.ref c_BadTable)) (x_BadTable : AtX K "BadTable" c_BadTable) : FnOk P w K mg base (CX1 P w) 1 f fd ["lumps"] (spX K C 1 ev_check_lumps ex_check_lumps) := by
  refine Fun.okX F sc_check_lumps (fun vs H Q E h => spX_len h) (fun cdv A outer s H vs Q E hr h => ?_)
  have hu := hr.units
  refine ⟨_, (pss_cons (ps_set (i := 1) sc_check_lumps.nd rfl (Or.inl rfl) pe_int)
      (pss_one (ps_for PassesOwn.leaving rfl (pi_seqK (K := K) rfl (pv 0)) (pg_tupK (K := K) (n := 2) rfl rfl (pgs_cons (pg_name (i := 2) sc_check_lumps.nd rfl (Or.inl rfl)) (pgs_cons (pg_name (i := 3) sc_check_lumps.nd rfl (Or.inl rfl)) pgs_nil)) rfl rfl) (pss_cons (ps_if (pt_cmpR op_le (pv 2) (pv 1) (nomark _)) (pss_one (ps_raiseK (K := K) rfl x_BadTable.ok rfl m_BadTable rfl xok_cx (pa_cons pe_str pa_nil))) pss_nil)
      (pss_cons (ps_if (pt_cmpR op_lt (pv 3) pe_int (nomark _)) (pss_one (ps_raiseK (K := K) rfl x_BadTable.ok rfl m_BadTable rfl xok_cx (pa_cons pe_str pa_nil))) pss_nil)
      (pss_one (ps_set (i := 1) sc_check_lumps.nd rfl (Or.inl rfl) (pv 2)))))))), ?_⟩
  exact fn_doneX (N := ["lumps", "ahead", "size", "number"]) (x_seq (x_setZ s_int)
      (x_for (s_iV 0) (g_tup (g_cons (g_nm 2) (g_cons (g_nm 3) g_nil)) rfl) (x_seq (x_if (s_test (s_op o_le (s_var 2) (s_var 1))) x_noret x_next)
      (x_seq (x_if (s_test (s_op o_lt (s_var 3) s_int)) x_noret x_next)
      (x_setZ (s_var 2)))))) (xx_seq (x_setZ s_int)
      xx_no (xx_forB (s_iV 0) (g_tup (g_cons (g_nm 2) (g_cons (g_nm 3) g_nil)) rfl) (x_seq (x_if (s_test (s_op o_le (s_var 2) (s_var 1))) x_noret x_next)
      (x_seq (x_if (s_test (s_op o_lt (s_var 3) s_int)) x_noret x_next)
      (x_setZ (s_var 2)))) (xx_seq (x_if (s_test (s_op o_le (s_var 2) (s_var 1))) x_noret x_next)
      (xx_if (s_test (s_op o_le (s_var 2) (s_var 1))) (xx_raise x_BadTable.ns (s_cons s_str s_nil)) xx_no) (xx_seq (x_if (s_test (s_op o_lt (s_var 3) s_int)) x_noret x_next)
      (xx_if (s_test (s_op o_lt (s_var 3) s_int)) (xx_raise x_BadTable.ns (s_cons s_str s_nil)) xx_no) xx_no)))) h
theorem sc_columns : FnScope ["lumps", "told", "height", "lesser_sizes", "lesser", "lump"] ["lumps"] (defScope s_columns) := ⟨rfl, rfl, rfl, by decide +kernel, rfl, by decide +kernel, by decide +kernel⟩
theorem ok_columns {f : Addr} {fd : FuncData} (F : Fun K "columns" "columns" s_columns f fd) (b_reversed : mg "reversed" = none) (b_list : mg "list" = none) (b_zip : mg "zip" = none) (CX_check_lumps : CalX P w K mg base "check_lumps" 1 ["lumps"] (spX K C 1 ev_check_lumps ex_check_lumps)) : FnOk P w K mg base (CX1 P w) 2 f fd ["lumps"] (spX K C 1 ev_columns ex_columns) := by
  refine Fun.okX F sc_columns (fun vs H Q E h => spX_len h) (fun cdv A outer s H vs Q E hr h => ?_)
  have hu := hr.units
  refine ⟨_, (pss_cons (ps_expr (pe_callX CX_check_lumps (hr.mono (by decide)) rfl xok_cx.passes (pa_cons (pv 0) pa_nil)))
      (pss_cons (ps_set (i := 1) sc_columns.nd rfl (Or.inl rfl) (pe_lst pa_nil))
      (pss_cons (ps_set (i := 2) sc_columns.nd rfl (Or.inl rfl) pe_int)
      (pss_cons (ps_set (i := 3) sc_columns.nd rfl (Or.inl rfl) (pe_op (op_addB (K := K) rfl) (pe_lst (pa_cons pe_int pa_nil)) (pe_comp (N' := ["size", "number"]) (imp := [none, none]) rfl (pi_seqK (K := K) rfl (pv 0)) (blk0 rfl rfl) (fun _ _ _ _ => (pg_tupK (K := K) (n := 2) rfl rfl (pgs_cons (pg_name (i := 0) (show (["size", "number"] : List Str).Nodup from by decide +kernel) rfl (Or.inl rfl) (Or.inr rfl)) (pgs_cons (pg_name (i := 1) (show (["size", "number"] : List Str).Nodup from by decide +kernel) rfl (Or.inl rfl) (Or.inr rfl)) pgs_nil)) rfl rfl)) (fun _ _ _ _ => pifs_nil) (fun _ _ _ _ => (pv 0)))))
      (pss_cons (ps_for PassesOwn.leaving rfl (pi_revK (K := K) rfl rfl b_reversed (pa_cons (pe_listZipK (K := K) rfl rfl rfl b_list rfl b_zip (pa_cons (pv 3) (pa_cons (pv 0) pa_nil))) pa_nil)) (pg_tupK (K := K) (n := 2) rfl rfl (pgs_cons (pg_name (i := 4) sc_columns.nd rfl (Or.inl rfl)) (pgs_cons (pg_name (i := 5) sc_columns.nd rfl (Or.inl rfl)) pgs_nil)) rfl rfl) (pss_cons (ps_aug (i := 2) sc_columns.nd rfl (Or.inl rfl) (pe_ix (ix_seqK (K := K) rfl) (pv 5) pe_int (fun _ _ => rfl)) ip_add)
      (pss_one (ps_expr (pe_bmK (K := K) rfl PySem.F.plainAttrs_list PySem.F.slot_list_append PySem.F.type_list_append mt_append (pv 1) (pa_cons (pe_tup (pa_cons (pv 2) (pa_cons (pe_op op_sub (pe_ix (ix_seqK (K := K) rfl) (pv 5) pe_int (fun _ _ => rfl)) (pv 4)) pa_nil))) pa_nil))))))
      (pss_one (ps_ret (pv 1)))))))), ?_⟩
  exact fn_doneX (N := ["lumps", "told", "height", "lesser_sizes", "lesser", "lump"]) (x_seq (x_drop (s_callX (s_cons (s_var 0) s_nil)))
      (x_seq (x_set (s_lst s_nil))
      (x_seq (x_setZ s_int)
      (x_seq (x_setZ (s_op o_add (s_lst (s_cons s_int s_nil)) (s_comp (s_iE (s_var 0)) (g_tup (g_cons (g_nm 0) (g_cons (g_nm 1) g_nil)) rfl) s_yes (s_var 0) rfl)))
      (x_seq (x_for (s_iRev (s_cons (s_zipL (s_cons (s_var 3) (s_cons (s_var 0) s_nil))) s_nil)) (g_tup (g_cons (g_nm 4) (g_cons (g_nm 5) g_nil)) rfl) (x_seq (x_aug (s_op o_ix (s_var 5) s_int))
      (x_app (s_tup (s_cons (s_var 2) (s_cons (s_op o_sub (s_op o_ix (s_var 5) s_int) (s_var 4)) s_nil))))))
      x_retV))))) (xx_seq (x_drop (s_callX (s_cons (s_var 0) s_nil)))
      (xx_drop (xx_call (s_cons (s_var 0) s_nil))) xx_no) h
theorem sc_law_fits : FnScope ["found", "k", "pair", "part"] ["found"] (defScope s_law_fits) := ⟨rfl, rfl, rfl, by decide +kernel, rfl, by decide +kernel, by decide +kernel⟩
theorem ok_law_fits {f : Addr} {fd : FuncData} (F : Fun K "_law_fits" "_law_fits" s_law_fits f fd) (b_range : mg "range" = none) (b_len : mg "len" = none) (b_isinstance : mg "isinstance" = none) (b_bool : mg "bool" = none) (b_int : mg "int" = none) (b_tuple : mg "tuple" = none) (b_list : mg "list" = none) : FnOk P w K mg base CX0 1 f fd ["found"] (spE K C 1 ev_law_fits) := by
  refine F.ok sc_law_fits (fun vs H Q E h => spE_len h) (fun cdv A outer s H vs Q E hr h => ?_)
  have hu := hr.units
  refine ⟨_, (pss_cons (ps_if (pt_not (pt_truK (K := K) rfl (pe_callB (call_isiK (K := K) rfl) rfl b_isinstance bt_isinstance (pa_cons (pv 0) (pa_cons (pe_bltn (v := V.ty "list") rfl b_list bt_list rfl) pa_nil))) (fun _ => rfl))) (pss_one (ps_ret pe_bl)) pss_nil)
      (pss_cons (ps_for PassesOwn.never rfl (pi_range1 rfl b_range (pa_cons (pe_callB (call_lenK (K := K) rfl) rfl b_len bt_len (pa_cons (pv 0) pa_nil)) pa_nil)) (pg_name (i := 1) sc_law_fits.nd rfl (Or.inl rfl)) (pss_cons (ps_set (i := 2) sc_law_fits.nd rfl (Or.inl rfl) (pe_ix (ix_seqK (K := K) rfl) (pv 0) (pv 1) (fun _ _ => rfl)))
      (pss_cons (ps_if (PW.pt (pw_or (pt_not (pt_truK (K := K) rfl (pe_callB (call_isiK (K := K) rfl) rfl b_isinstance bt_isinstance (pa_cons (pv 2) (pa_cons (pe_bltn (v := V.ty "tuple") rfl b_tuple bt_tuple rfl) pa_nil))) (fun _ => rfl))) (pw_or (pt_cmpR (op_neK (K := K) rfl hu) (pe_callB (call_lenK (K := K) rfl) rfl b_len bt_len (pa_cons (pv 2) pa_nil)) pe_int (nomark _)) (pw_or1 (PW.pt (pw_and (pt_cmpR op_gt (pv 1) pe_int (nomark _)) (pw_and1 (pt_cmpR op_ge (pe_ix (ix_seqK (K := K) rfl) (pe_ix (ix_seqK (K := K) rfl) (pv 0) (pe_op op_sub (pv 1) pe_int) (fun _ _ => rfl)) pe_int (fun _ _ => rfl)) (pe_ix (ix_seqK (K := K) rfl) (pv 2) pe_int (fun _ _ => rfl)) (nomark _))))))))) (pss_one (ps_ret pe_bl)) pss_nil)
      (pss_one (ps_for PassesOwn.never rfl (pi_seqK (K := K) rfl (pv 2)) (pg_name (i := 3) sc_law_fits.nd rfl (Or.inl rfl)) (pss_one (ps_if (PW.pt (pw_or (pt_not (pt_truK (K := K) rfl (pe_callB (call_isiK (K := K) rfl) rfl b_isinstance bt_isinstance (pa_cons (pv 3) (pa_cons (pe_bltn (v := V.ty "int") rfl b_int bt_int rfl) pa_nil))) (fun _ => rfl))) (pw_or (pt_truK (K := K) rfl (pe_callB (call_isiK (K := K) rfl) rfl b_isinstance bt_isinstance (pa_cons (pv 3) (pa_cons (pe_bltn (v := V.ty "bool") rfl b_bool bt_bool rfl) pa_nil))) (fun _ => rfl)) (pw_or1 (pt_cmpR op_lt (pv 3) pe_int (nomark _)))))) (pss_one (ps_ret pe_bl)) pss_nil)))))))
      (pss_one (ps_ret pe_bl)))), ?_⟩
  exact fn_done (N := ["found", "k", "pair", "part"]) (x_seq (x_if (s_tNot (s_tru (s_isi kit_list (s_var 0)))) (x_ret s_bl) x_next)
      (x_seq (x_for (s_iR1 (s_cons (s_CB c_len (s_cons (s_var 0) s_nil)) s_nil)) (g_nm 1) (x_seq (x_setZ (s_op o_ix (s_var 0) (s_var 1)))
      (x_seq (x_if (s_tOr (s_tNot (s_tru (s_isi kit_tuple (s_var 2)))) (s_tOr (s_test (s_op o_ne (s_CB c_len (s_cons (s_var 2) s_nil)) s_int)) (s_tAnd (s_test (s_op o_gt (s_var 1) s_int)) (s_test (s_op o_ge (s_op o_ix (s_op o_ix (s_var 0) (s_op o_sub (s_var 1) s_int)) s_int) (s_op o_ix (s_var 2) s_int)))))) (x_ret s_bl) x_next)
      (x_for (s_iV 2) (g_nm 3) (x_if (s_tOr (s_tNot (s_tru (s_isi kit_int (s_var 3)))) (s_tOr (s_tru (s_isi kit_bool (s_var 3))) (s_test (s_op o_lt (s_var 3) s_int)))) (x_ret s_bl) x_next)))))
      (x_ret s_bl))) h
theorem sc_law_alone : FnScope ["e", "kinds"] ["e"] (defScope s_law_alone) := ⟨rfl, rfl, rfl, by decide +kernel, rfl, by decide +kernel, by decide +kernel⟩
theorem ok_law_alone {f : Addr} {fd : FuncData} (F : Fun K "_law_alone" "_law_alone" s_law_alone f fd) (b_isinstance : mg "isinstance" = none) (b_ValueError : mg "ValueError" = none) (xG : ExcG K) (xO : OwnL K ["BadTable"] [c_BadTable]) (iV : IsiV K ["BadTable"]) (m_LumpError : mg "LumpError" = some (.ref c_LumpError)) (i_LumpError : IsiN K ["BadTable"] "LumpError" c_LumpError) (m_NoRow : mg "NoRow" = some (.ref c_NoRow)) (i_NoRow : IsiN K ["BadTable"] "NoRow" c_NoRow) (m_Unlike : mg "Unlike" = some (.ref c_Unlike)) (i_Unlike : IsiN K ["BadTable"] "Unlike" c_Unlike) (m_BadDeed : mg "BadDeed" = some (.ref c_BadDeed)) (i_BadDeed : IsiN K ["BadTable"] "BadDeed" c_BadDeed) (m_BadTable : mg "BadTable" = some (.ref c_BadTable)) (i_BadTable : IsiN K ["BadTable"] "BadTable" c_BadTable) (m_BadSeats : mg "BadSeats" = some (.ref c_BadSeats)) (i_BadSeats : IsiN K ["BadTable"] "BadSeats" c_BadSeats) (m_BadText : mg "BadText" = some (.ref c_BadText)) (i_BadText : IsiN K ["BadTable"] "BadText" c_BadText) (m_TooMany : mg "TooMany" = some (.ref c_TooMany)) (i_TooMany : IsiN K ["BadTable"] "TooMany" c_TooMany) (m_BadRow : mg "BadRow" = some (.ref c_BadRow)) (i_BadRow : IsiN K ["BadTable"] "BadRow" c_BadRow) : FnOk P w K mg base CX0 1 f fd ["e"] (spE K C 1 ev_law_alone) := by
  refine F.ok sc_law_alone (fun vs H Q E h => spE_len h) (fun cdv A outer s H vs Q E hr h => ?_)
  have hu := hr.units
  refine ⟨_, (pss_cons (ps_set (i := 1) sc_law_alone.nd rfl (Or.inl rfl) (pe_lst (pa_cons (pe_callB (call_isXK (K := K) rfl) rfl b_isinstance bt_isinstance (pa_cons (pv 0) (pa_cons (pe_glob (v := V.ref c_BadRow) rfl m_BadRow rfl) pa_nil))) (pa_cons (pe_callB (call_isXK (K := K) rfl) rfl b_isinstance bt_isinstance (pa_cons (pv 0) (pa_cons (pe_glob (v := V.ref c_TooMany) rfl m_TooMany rfl) pa_nil))) (pa_cons (pe_callB (call_isXK (K := K) rfl) rfl b_isinstance bt_isinstance (pa_cons (pv 0) (pa_cons (pe_glob (v := V.ref c_BadText) rfl m_BadText rfl) pa_nil))) (pa_cons (pe_callB (call_isXK (K := K) rfl) rfl b_isinstance bt_isinstance (pa_cons (pv 0) (pa_cons (pe_glob (v := V.ref c_BadSeats) rfl m_BadSeats rfl) pa_nil))) pa_nil))))))
      (pss_cons (ps_set (i := 1) sc_law_alone.nd rfl (Or.inl rfl) (pe_op (op_addB (K := K) rfl) (pv 1) (pe_lst (pa_cons (pe_callB (call_isXK (K := K) rfl) rfl b_isinstance bt_isinstance (pa_cons (pv 0) (pa_cons (pe_glob (v := V.ref c_BadTable) rfl m_BadTable rfl) pa_nil))) (pa_cons (pe_callB (call_isXK (K := K) rfl) rfl b_isinstance bt_isinstance (pa_cons (pv 0) (pa_cons (pe_glob (v := V.ref c_BadDeed) rfl m_BadDeed rfl) pa_nil))) (pa_cons (pe_callB (call_isXK (K := K) rfl) rfl b_isinstance bt_isinstance (pa_cons (pv 0) (pa_cons (pe_glob (v := V.ref c_Unlike) rfl m_Unlike rfl) pa_nil))) (pa_cons (pe_callB (call_isXK (K := K) rfl) rfl b_isinstance bt_isinstance (pa_cons (pv 0) (pa_cons (pe_glob (v := V.ref c_NoRow) rfl m_NoRow rfl) pa_nil))) pa_nil)))))))
      (pss_one (ps_ret (pe_and (pe_cmpR (op_eqK (K := K) rfl hu) (pe_bmK (K := K) rfl PySem.F.plainAttrs_list PySem.F.slot_list_count PySem.F.type_list_count mt_countB (pv 1) (pa_cons pe_bl pa_nil)) pe_int (nomark _)) (pe_and (pe_callB (call_isXK (K := K) rfl) rfl b_isinstance bt_isinstance (pa_cons (pv 0) (pa_cons (pe_glob (v := V.ref c_LumpError) rfl m_LumpError rfl) pa_nil))) (pe_one (pe_callB (call_isXK (K := K) rfl) rfl b_isinstance bt_isinstance (pa_cons (pv 0) (pa_cons (pe_bltn (v := V.ty "ValueError") rfl b_ValueError bt_ValueError rfl) pa_nil)))))))))), ?_⟩
  exact fn_done (N := ["e", "kinds"]) (x_seq (x_setZ (s_lst (s_cons (s_isX i_BadRow (s_var 0)) (s_cons (s_isX i_TooMany (s_var 0)) (s_cons (s_isX i_BadText (s_var 0)) (s_cons (s_isX i_BadSeats (s_var 0)) s_nil))))))
      (x_seq (x_setZ (s_op o_add (s_var 1) (s_lst (s_cons (s_isX i_BadTable (s_var 0)) (s_cons (s_isX i_BadDeed (s_var 0)) (s_cons (s_isX i_Unlike (s_var 0)) (s_cons (s_isX i_NoRow (s_var 0)) s_nil)))))))
      (x_ret (s_and (s_op o_eq (s_count (s_var 1) s_bl) s_int) (s_and (s_isX i_LumpError (s_var 0)) (s_isV iV (s_var 0))))))) h
theorem sc_law_refused : FnScope ["lumps", "found", "e"] ["lumps"] (defScope s_law_refused) := ⟨rfl, rfl, rfl, by decide +kernel, rfl, by decide +kernel, by decide +kernel⟩
theorem ok_law_refused {f : Addr} {fd : FuncData} (F : Fun K "_law_refused" "_law_refused" s_law_refused f fd) (b_isinstance : mg "isinstance" = none) (C__law_alone : Cal P w K mg base "_law_alone" 1 ["e"] (spE K C 1 ev_law_alone)) (CX_columns : CalX P w K mg base "columns" 2 ["lumps"] (spX K C 1 ev_columns ex_columns)) (m_BadTable : mg "BadTable" = some (.ref c_BadTable)) (xG : ExcG K) (xO : OwnL K ["BadTable"] [c_BadTable]) (i_BadTable : IsiN K ["BadTable"] "BadTable" c_BadTable) (m_LumpError : mg "LumpError" = some (.ref c_LumpError)) (t_LumpError : ExmL K c_LumpError [c_BadTable]) : FnOk P w K mg base CX0 3 f fd ["lumps"] (spE K C 1 ev_law_refused) := by
  refine F.ok sc_law_refused (fun vs H Q E h => spE_len h) (fun cdv A outer s H vs Q E hr h => ?_)
  have hu := hr.units
  refine ⟨_, (pss_cons (ps_set (i := 1) sc_law_refused.nd rfl (Or.inl rfl) pe_non)
      (pss_cons (ps_tryK (K := K) (i := 2) rfl rfl rfl rfl sc_law_refused.nd rfl rfl rfl m_LumpError (pcss_one (pcs_expr (px_call CX_columns (hr.mono (by decide)) rfl (pa_cons (pv 0) pa_nil)))) (fun a => (pss_one (ps_set (i := 1) sc_law_refused.nd rfl (Or.inl rfl) (pv 2)))))
      (pss_one (ps_ret (pe_and (pe_callB (call_isXK (K := K) rfl) rfl b_isinstance bt_isinstance (pa_cons (pv 1) (pa_cons (pe_glob (v := V.ref c_BadTable) rfl m_BadTable rfl) pa_nil))) (pe_one (pe_callC C__law_alone (hr.mono (by decide)) rfl (pa_cons (pv 1) pa_nil)))))))), ?_⟩
  exact fn_done (N := ["lumps", "found", "e"]) (x_seq (x_setZ s_non)
      (x_seq (x_try (t_LumpError.all xO) (fun W => (xt_dropN (fun W => s_callX (s_cons (s_var 0) s_nil)) W)) (xt_drop (fun W => xx_call (s_cons (s_var 0) s_nil))) (x_setZ (s_var 2)))
      (x_ret (s_and (s_isX i_BadTable (s_var 1)) (s_call (s_cons (s_var 1) s_nil)))))) h
theorem sc_law_bad : FnScope ["lumps", "way", "cell", "at", "size", "number", "far", "pairs"] ["lumps", "way", "cell"] (defScope s_law_bad) := ⟨rfl, rfl, rfl, by decide +kernel, rfl, by decide +kernel, by decide +kernel⟩
theorem ok_law_bad {f : Addr} {fd : FuncData} (F : Fun K "_law_bad" "_law_bad" s_law_bad f fd) (b_int : mg "int" = none) (b_len : mg "len" = none) : FnOk P w K mg base CX0 1 f fd ["lumps", "way", "cell"] (spE K C 3 ev_law_bad) := by
  refine F.ok sc_law_bad (fun vs H Q E h => spE_len h) (fun cdv A outer s H vs Q E hr h => ?_)
  have hu := hr.units
  refine ⟨_, (pss_cons (ps_set (i := 3) sc_law_bad.nd rfl (Or.inl rfl) (pe_op op_mod (pv 2) (pe_callB (call_lenK (K := K) rfl) rfl b_len bt_len (pa_cons (pv 0) pa_nil))))
      (pss_cons (ps_asg (pe_ix (ix_seqK (K := K) rfl) (pv 0) (pv 3) (fun _ _ => rfl)) (pg_tupK (K := K) (n := 2) rfl rfl (pgs_cons (pg_name (i := 4) sc_law_bad.nd rfl (Or.inl rfl)) (pgs_cons (pg_name (i := 5) sc_law_bad.nd rfl (Or.inl rfl)) pgs_nil)) rfl rfl))
      (pss_cons (ps_set (i := 6) sc_law_bad.nd rfl (Or.inl rfl) (pe_op op_mod (pe_op op_fdiv (pv 2) pe_int) (pe_op op_pow pe_int pe_int)))
      (pss_cons (ps_set (i := 7) sc_law_bad.nd rfl (Or.inl rfl) (pe_lst (pa_cons (pe_tup (pa_cons (pe_op op_sub pe_int (pv 6)) (pa_cons (pv 5) pa_nil))) (pa_cons (pe_tup (pa_cons (pv 4) (pa_cons (pe_op op_sub pe_int (pv 6)) pa_nil))) (pa_cons (pe_tup (pa_cons (pv 4) (pa_cons (pv 5) pa_nil))) pa_nil)))))
      (pss_cons (ps_if (pt_cmpR op_lt (pv 1) pe_int (nomark _)) (pss_one (ps_ret (pe_op (op_addB (K := K) rfl) (pe_op (op_addB (K := K) rfl) (pe_slice (sl_allK (K := K) rfl) (pv 0) po_none (po_some (pv 3))) (pe_lst (pa_cons (pe_ix (ix_seqK (K := K) rfl) (pv 7) (pv 1) (fun _ _ => rfl)) pa_nil))) (pe_slice (sl_allK (K := K) rfl) (pv 0) (po_some (pe_op (op_addB (K := K) rfl) (pv 3) (pe_callTy call_int1 rfl b_int bt_int (pa_cons (pe_cmpR op_lt (pv 1) pe_int (nomark _)) pa_nil)))) po_none)))) pss_nil)
      (pss_one (ps_ret (pe_op (op_addB (K := K) rfl) (pe_lst (pa_cons (pe_tup (pa_cons (pe_op (op_addB (K := K) rfl) (pv 4) pe_int) (pa_cons (pv 5) pa_nil))) pa_nil)) (pe_slice (sl_allK (K := K) rfl) (pv 0) po_none (po_some (pe_op (op_addB (K := K) rfl) (pv 3) pe_int))))))))))), ?_⟩
  exact fn_done (N := ["lumps", "way", "cell", "at", "size", "number", "far", "pairs"]) (x_seq (x_setZ (s_op o_mod (s_var 2) (s_CB c_len (s_cons (s_var 0) s_nil))))
      (x_seq (x_asg (s_op o_ix (s_var 0) (s_var 3)) (g_tup (g_cons (g_nm 4) (g_cons (g_nm 5) g_nil)) rfl))
      (x_seq (x_setZ (s_op o_mod (s_op o_div (s_var 2) s_int) (s_op o_pow s_int s_int)))
      (x_seq (x_setZ (s_lst (s_cons (s_tup (s_cons (s_op o_sub s_int (s_var 6)) (s_cons (s_var 5) s_nil))) (s_cons (s_tup (s_cons (s_var 4) (s_cons (s_op o_sub s_int (s_var 6)) s_nil))) (s_cons (s_tup (s_cons (s_var 4) (s_cons (s_var 5) s_nil))) s_nil)))))
      (x_seq (x_if (s_test (s_op o_lt (s_var 1) s_int)) (x_ret (s_op o_add (s_op o_add (s_sl (s_var 0) p_none (p_some (s_var 3))) (s_lst (s_cons (s_op o_ix (s_var 7) (s_var 1)) s_nil))) (s_sl (s_var 0) (p_some (s_op o_add (s_var 3) (s_CB c_int (s_cons (s_op o_lt (s_var 1) s_int) s_nil)))) p_none))) x_next)
      (x_ret (s_op o_add (s_lst (s_cons (s_tup (s_cons (s_op o_add (s_var 4) s_int) (s_cons (s_var 5) s_nil))) s_nil)) (s_sl (s_var 0) p_none (p_some (s_op o_add (s_var 3) s_int)))))))))) h
theorem sc_law_cell : FnScope ["script", "k"] ["script", "k"] (defScope s_law_cell) := ⟨rfl, rfl, rfl, by decide +kernel, rfl, by decide +kernel, by decide +kernel⟩
theorem ok_law_cell {f : Addr} {fd : FuncData} (F : Fun K "_law_cell" "_law_cell" s_law_cell f fd) (b_len : mg "len" = none) : FnOk P w K mg base CX0 1 f fd ["script", "k"] (spE K C 2 ev_law_cell) := by
  refine F.ok sc_law_cell (fun vs H Q E h => spE_len h) (fun cdv A outer s H vs Q E hr h => ?_)
  have hu := hr.units
  refine ⟨_, (pss_cons (ps_if (pt_cmpR op_lt (pv 1) (pe_callB (call_lenK (K := K) rfl) rfl b_len bt_len (pa_cons (pv 0) pa_nil)) (nomark _)) (pss_one (ps_ret (pe_ix (ix_seqK (K := K) rfl) (pv 0) (pv 1) (fun _ _ => rfl)))) pss_nil)
      (pss_one (ps_ret pe_int))), ?_⟩
  exact fn_done (N := ["script", "k"]) (x_seq (x_if (s_test (s_op o_lt (s_var 1) (s_CB c_len (s_cons (s_var 0) s_nil)))) (x_ret (s_op o_ix (s_var 0) (s_var 1))) x_next)
      (x_ret s_int)) h
theorem sc_law_lumps : FnScope ["script", "first", "many", "span", "found", "k", "size"] ["script", "first", "many", "span"] (defScope s_law_lumps) := ⟨rfl, rfl, rfl, by decide +kernel, rfl, by decide +kernel, by decide +kernel⟩
theorem ok_law_lumps {f : Addr} {fd : FuncData} (F : Fun K "_law_lumps" "_law_lumps" s_law_lumps f fd) (b_sorted : mg "sorted" = none) (b_range : mg "range" = none) (C__law_cell : Cal P w K mg base "_law_cell" 1 ["script", "k"] (spE K C 2 ev_law_cell)) : FnOk P w K mg base CX0 2 f fd ["script", "first", "many", "span"] (spE K C 4 ev_law_lumps) := by
  refine F.ok sc_law_lumps (fun vs H Q E h => spE_len h) (fun cdv A outer s H vs Q E hr h => ?_)
  have hu := hr.units
  refine ⟨_, (pss_cons (ps_set (i := 4) sc_law_lumps.nd rfl (Or.inr rfl) pe_dnewK)
      (pss_cons (ps_for PassesOwn.never rfl (pi_range1 rfl b_range (pa_cons (pv 2) pa_nil)) (pg_name (i := 5) sc_law_lumps.nd rfl (Or.inl rfl)) (pss_cons (ps_set (i := 6) sc_law_lumps.nd rfl (Or.inl rfl) (pe_op (op_addB (K := K) rfl) pe_int (pe_op op_mod (pe_callC C__law_cell (hr.mono (by decide)) rfl (pa_cons (pv 0) (pa_cons (pe_op (op_addB (K := K) rfl) (pv 1) (pe_op op_mul pe_int (pv 5))) pa_nil))) (pv 3))))
      (pss_one (ps_dput (hu_of hr) (pv 4) (pv 6) (pe_op (op_addB (K := K) rfl) (pe_op (op_addB (K := K) rfl) (pe_dget2 (hu_of hr) (pv 4) (pv 6) pe_int ⟨rfl, rfl, rfl, rfl⟩) pe_int) (pe_op op_mod (pe_callC C__law_cell (hr.mono (by decide)) rfl (pa_cons (pv 0) (pa_cons (pe_op (op_addB (K := K) rfl) (pe_op (op_addB (K := K) rfl) (pv 1) pe_int) (pe_op op_mul pe_int (pv 5))) pa_nil))) pe_int)) rfl))))
      (pss_one (ps_ret (pe_comp (N' := ["size", "found"]) (imp := [none, some 4]) rfl (pi_seqK (K := K) rfl (pe_callB (call_sortD rfl) rfl b_sorted bt_sorted (pa_cons (pv 4) pa_nil))) (blkF (own := ["size"]) (fr := [("found", 4)]) rfl rfl rfl ⟨rfl, trivial⟩ rfl ⟨⟨rfl, rfl, rfl⟩, trivial⟩) (fun _ _ _ _ => (pg_name (i := 0) (show (["size", "found"] : List Str).Nodup from by decide +kernel) rfl (Or.inl rfl) (Or.inr rfl))) (fun _ _ _ _ => pifs_nil) (fun _ _ _ _ => (pe_tup (pa_cons (pv 0) (pa_cons (pe_dget (hu_of hr) (pv 1) (pv 0) (fun _ _ => rfl)) pa_nil))))))))), ?_⟩
  exact fn_done (N := ["script", "first", "many", "span", "found", "k", "size"]) (x_seq (x_set s_dict)
      (x_seq (x_for (s_iR1 (s_cons (s_var 2) s_nil)) (g_nm 5) (x_seq (x_setZ (s_op o_add s_int (s_op o_mod (s_call (s_cons (s_var 0) (s_cons (s_op o_add (s_var 1) (s_op o_mul s_int (s_var 5))) s_nil))) (s_var 3))))
      (x_dput (s_op o_add (s_op o_add (s_dget2 (s_var 4) (s_var 6) s_int) s_int) (s_op o_mod (s_call (s_cons (s_var 0) (s_cons (s_op o_add (s_op o_add (s_var 1) s_int) (s_op o_mul s_int (s_var 5))) s_nil))) s_int)) (s_var 6))))
      (x_ret (s_comp (s_iE (s_sortD (s_var 4))) (g_nm 0) s_yes (s_tup (s_cons (s_var 0) (s_cons (s_dix (s_var 1) (s_var 0)) s_nil))) rfl)))) h
theorem sc_law : FnScope ["script", "lead", "cell", "lumps", "handed", "spent", "found", "height", "many", "sizes", "least", "below", "wide", "size", "number", "seats"] ["script"] (defScope s_law) := ⟨rfl, rfl, rfl, by decide +kernel, rfl, by decide +kernel, by decide +kernel⟩
theorem ok_law {f : Addr} {fd : FuncData} (F : Fun K "law" "law" s_law f fd) (b_sum : mg "sum" = none) (b_min : mg "min" = none) (b_list : mg "list" = none) (b_len : mg "len" = none) (C__law_first : Cal P w K mg base "_law_first" 1 ["found", "seats"] (spE K C 2 ev_law_first)) (CX_columns : CalX P w K mg base "columns" 2 ["lumps"] (spX K C 1 ev_columns ex_columns)) (C__law_fits : Cal P w K mg base "_law_fits" 1 ["found"] (spE K C 1 ev_law_fits)) (C__law_refused : Cal P w K mg base "_law_refused" 3 ["lumps"] (spE K C 1 ev_law_refused)) (C__law_bad : Cal P w K mg base "_law_bad" 1 ["lumps", "way", "cell"] (spE K C 3 ev_law_bad)) (C__law_lumps : Cal P w K mg base "_law_lumps" 2 ["script", "first", "many", "span"] (spE K C 4 ev_law_lumps)) (C__law_cell : Cal P w K mg base "_law_cell" 1 ["script", "k"] (spE K C 2 ev_law_cell)) : FnOk P w K mg base CX0 4 f fd ["script"] (spE K C 1 ev_law) := by
  refine F.ok sc_law (fun vs H Q E h => spE_len h) (fun cdv A outer s H vs Q E hr h => ?_)
  have hu := hr.units
  refine ⟨_, (pss_cons (ps_set (i := 1) sc_law.nd rfl (Or.inl rfl) (pe_callC C__law_cell (hr.mono (by decide)) rfl (pa_cons (pv 0) (pa_cons pe_int pa_nil))))
      (pss_cons (ps_set (i := 2) sc_law.nd rfl (Or.inr rfl) (pe_callC C__law_cell (hr.mono (by decide)) rfl (pa_cons (pv 0) (pa_cons pe_int pa_nil))))
      (pss_cons (ps_set (i := 3) sc_law.nd rfl (Or.inl rfl) (pe_callC C__law_lumps (hr.mono (by decide)) rfl (pa_cons (pv 0) (pa_cons pe_int (pa_cons (pe_op op_mod (pv 1) pe_int) (pa_cons (pe_ix (ix_seqK (K := K) rfl) (pe_lst (pa_cons pe_int (pa_cons pe_int (pa_cons (pe_op op_pow pe_int pe_int) pa_nil)))) (pe_op op_mod (pe_op op_fdiv (pv 1) pe_int) pe_int) (fun _ _ => rfl)) pa_nil))))))
      (pss_cons (ps_if (PW.pt (pw_and (pt_cmpR (op_eqK (K := K) rfl hu) (pe_op op_mod (pe_op op_fdiv (pv 1) pe_int) pe_int) pe_int (nomark _)) (pw_and1 (pt_cmpR (op_neK (K := K) rfl hu) (pv 3) (pe_lst pa_nil) (nomark _))))) (pss_one (ps_ret (pe_callC C__law_refused (hr.mono (by decide)) rfl (pa_cons (pe_callC C__law_bad (hr.mono (by decide)) rfl (pa_cons (pv 3) (pa_cons (pe_op op_mod (pe_op op_fdiv (pv 1) pe_int) pe_int) (pa_cons (pe_op op_mod (pv 2) (pe_op op_pow pe_int pe_int)) pa_nil)))) pa_nil)))) pss_nil)
      (pss_cons (ps_if (pt_cmpR (op_eqK (K := K) rfl hu) (pe_op op_mod (pe_op op_fdiv (pv 1) pe_int) pe_int) pe_int (nomark _)) (pss_one (ps_setComp (i := 3) (N' := ["size", "number", "cell"]) (imp := [none, none, some 2]) sc_law.nd rfl (Or.inl rfl) rfl (pi_seqK (K := K) rfl (pv 3)) (blkF (own := ["size", "number"]) (fr := [("cell", 2)]) rfl rfl rfl ⟨rfl, trivial⟩ rfl ⟨⟨rfl, rfl, rfl⟩, trivial⟩) (fun _ _ _ _ => (pg_tupK (K := K) (n := 2) rfl rfl (pgs_cons (pg_name (i := 0) (show (["size", "number", "cell"] : List Str).Nodup from by decide +kernel) rfl (Or.inl rfl) (Or.inr rfl)) (pgs_cons (pg_name (i := 1) (show (["size", "number", "cell"] : List Str).Nodup from by decide +kernel) rfl (Or.inl rfl) (Or.inr rfl)) pgs_nil)) rfl rfl)) (fun _ _ _ _ => pifs_nil) (fun _ _ _ _ => (pe_tup (pa_cons (pv 0) (pa_cons (pe_op (op_addB (K := K) rfl) (pv 1) (pe_op op_mod (pv 2) (pe_op op_pow pe_int pe_int))) pa_nil)))) rfl (Or.inl rfl))) pss_nil)
      (pss_cons (ps_set (i := 4) sc_law.nd rfl (Or.inl rfl) (pe_callTy (call_listK (K := K) rfl) rfl b_list bt_list (pa_cons (pv 3) pa_nil)))
      (pss_cons (ps_set (i := 5) sc_law.nd rfl (Or.inl rfl) (pe_callX CX_columns (hr.mono (by decide)) rfl passF (pa_cons (pv 4) pa_nil)))
      (pss_cons (ps_expr (pe_bmK (K := K) rfl PySem.F.plainAttrs_list PySem.F.slot_list_append PySem.F.type_list_append mt_append (pv 5) (pa_cons (pe_tup (pa_cons pe_int (pa_cons pe_int pa_nil))) pa_nil)))
      (pss_cons (ps_expr (pe_bm0K (K := K) rfl PySem.F.plainAttrs_list PySem.F.slot_list_reverse PySem.F.type_list_reverse mt_reverse (pv 5)))
      (pss_cons (ps_set (i := 6) sc_law.nd rfl (Or.inl rfl) (pe_callX CX_columns (hr.mono (by decide)) rfl passF (pa_cons (pv 4) pa_nil)))
      (pss_cons (ps_if (PW.pt (pw_or (pt_cmpR (op_neK (K := K) rfl hu) (pv 4) (pv 3) (nomark _)) (pw_or1 (pt_not (pt_truK (K := K) rfl (pe_callC C__law_fits (hr.mono (by decide)) rfl (pa_cons (pv 6) pa_nil)) (fun _ => rfl)))))) (pss_one (ps_ret pe_bl)) pss_nil)
      (pss_cons (ps_for PassesOwn.never rfl (pi_seqK (K := K) rfl (pv 6)) (pg_tupK (K := K) (n := 2) rfl rfl (pgs_cons (pg_name (i := 7) sc_law.nd rfl (Or.inl rfl)) (pgs_cons (pg_name (i := 8) sc_law.nd rfl (Or.inl rfl)) pgs_nil)) rfl rfl) (pss_cons (ps_setComp (i := 9) (N' := ["size", "number"]) (imp := [none, none]) sc_law.nd rfl (Or.inl rfl) rfl (pi_seqK (K := K) rfl (pv 3)) (blk0 rfl rfl) (fun _ _ _ _ => (pg_tupK (K := K) (n := 2) rfl rfl (pgs_cons (pg_name (i := 0) (show (["size", "number"] : List Str).Nodup from by decide +kernel) rfl (Or.inl rfl) (Or.inr rfl)) (pgs_cons (pg_name (i := 1) (show (["size", "number"] : List Str).Nodup from by decide +kernel) rfl (Or.inl rfl) (Or.inr rfl)) pgs_nil)) rfl rfl)) (fun _ _ _ _ => pifs_nil) (fun _ _ _ _ => (pv 0)) rfl (Or.inl rfl))
      (pss_cons (ps_set (i := 10) sc_law.nd rfl (Or.inl rfl) (pe_callB (call_sumK (K := K) rfl rfl) rfl b_sum bt_sum (pa_cons (pe_comp (N' := ["size", "number"]) (imp := [none, none]) rfl (pi_seqK (K := K) rfl (pv 3)) (blk0 rfl rfl) (fun _ _ _ _ => (pg_tupK (K := K) (n := 2) rfl rfl (pgs_cons (pg_name (i := 0) (show (["size", "number"] : List Str).Nodup from by decide +kernel) rfl (Or.inl rfl) (Or.inr rfl)) (pgs_cons (pg_name (i := 1) (show (["size", "number"] : List Str).Nodup from by decide +kernel) rfl (Or.inl rfl) (Or.inr rfl)) pgs_nil)) rfl rfl)) (fun _ _ _ _ => pifs_nil) (fun _ _ _ _ => (pv 1))) pa_nil)))
      (pss_cons (ps_set (i := 11) sc_law.nd rfl (Or.inl rfl) pe_int)
      (pss_cons (ps_set (i := 12) sc_law.nd rfl (Or.inl rfl) pe_int)
      (pss_cons (ps_for PassesOwn.never rfl (pi_seqK (K := K) rfl (pv 3)) (pg_tupK (K := K) (n := 2) rfl rfl (pgs_cons (pg_name (i := 13) sc_law.nd rfl (Or.inl rfl)) (pgs_cons (pg_name (i := 14) sc_law.nd rfl (Or.inl rfl)) pgs_nil)) rfl rfl) (pss_cons (ps_if (pt_cmpR (op_eqK (K := K) rfl hu) (pv 10) (pv 7) (nomark _)) (pss_one (ps_set (i := 12) sc_law.nd rfl (Or.inl rfl) (pe_op op_sub (pv 13) (pv 11)))) pss_nil)
      (pss_cons (ps_set (i := 10) sc_law.nd rfl (Or.inl rfl) (pe_op op_sub (pv 10) (pv 14)))
      (pss_one (ps_set (i := 11) sc_law.nd rfl (Or.inl rfl) (pv 13))))))
      (pss_one (ps_if (PW.pt (pw_or (pt_cmpR (op_neK (K := K) rfl hu) (pv 12) (pv 8) (nomark _)) (pw_or1 (pt_cmpR (op_eqK (K := K) rfl hu) (pv 9) (pe_lst pa_nil) (nomark _))))) (pss_one (ps_ret pe_bl)) pss_nil))))))))
      (pss_cons (ps_if (PW.pt (pw_or (pt_cmpR (op_neK (K := K) rfl hu) (pe_callB (call_lenK (K := K) rfl) rfl b_len bt_len (pa_cons (pv 6) pa_nil)) (pe_callB (call_lenK (K := K) rfl) rfl b_len bt_len (pa_cons (pv 3) pa_nil)) (nomark _)) (pw_or1 (pt_cmpR (op_neK (K := K) rfl hu) (pe_callX CX_columns (hr.mono (by decide)) rfl passF (pa_cons (pe_callTy (call_listK (K := K) rfl) rfl b_list bt_list (pa_cons (pv 6) pa_nil)) pa_nil)) (pv 3) (nomark _))))) (pss_one (ps_ret pe_bl)) pss_nil)
      (pss_cons (ps_for PassesOwn.never rfl (pi_seqK (K := K) rfl (pe_lst (pa_cons pe_int (pa_cons (pe_op (op_addB (K := K) rfl) pe_int (pe_op op_mod (pv 2) pe_int)) (pa_cons (pe_op (op_addB (K := K) rfl) pe_int (pe_op op_mod (pv 2) (pe_op op_pow pe_int pe_int))) pa_nil))))) (pg_name (i := 15) sc_law.nd rfl (Or.inr rfl)) (pss_one (ps_if (pt_cmpR (op_neK (K := K) rfl hu) (pe_callC C__law_first (hr.mono (by decide)) rfl (pa_cons (pv 6) (pa_cons (pv 15) pa_nil))) (pe_callB (call_sumK (K := K) rfl rfl) rfl b_sum bt_sum (pa_cons (pe_comp (N' := ["size", "number", "seats"]) (imp := [none, none, some 15]) rfl (pi_seqK (K := K) rfl (pv 3)) (blkF (own := ["size", "number"]) (fr := [("seats", 15)]) rfl rfl rfl ⟨rfl, trivial⟩ rfl ⟨⟨rfl, rfl, rfl⟩, trivial⟩) (fun _ _ _ _ => (pg_tupK (K := K) (n := 2) rfl rfl (pgs_cons (pg_name (i := 0) (show (["size", "number", "seats"] : List Str).Nodup from by decide +kernel) rfl (Or.inl rfl) (Or.inr rfl)) (pgs_cons (pg_name (i := 1) (show (["size", "number", "seats"] : List Str).Nodup from by decide +kernel) rfl (Or.inl rfl) (Or.inr rfl)) pgs_nil)) rfl rfl)) (fun _ _ _ _ => pifs_nil) (fun _ _ _ _ => (pe_op op_mulW (pv 1) (pe_callB (call_minN rfl) rfl b_min bt_min (pa_cons (pv 0) (pa_cons (pv 2) pa_nil)))))) pa_nil)) (nomark _)) (pss_one (ps_ret pe_bl)) pss_nil)))
      (pss_one (ps_ret pe_bl)))))))))))))))), ?_⟩
  exact fn_done (N := ["script", "lead", "cell", "lumps", "handed", "spent", "found", "height", "many", "sizes", "least", "below", "wide", "size", "number", "seats"]) (x_seq (x_setZ (s_call (s_cons (s_var 0) (s_cons s_int s_nil))))
      (x_seq (x_setZ (s_call (s_cons (s_var 0) (s_cons s_int s_nil))))
      (x_seq (x_setZ (s_call (s_cons (s_var 0) (s_cons s_int (s_cons (s_op o_mod (s_var 1) s_int) (s_cons (s_op o_ix (s_lst (s_cons s_int (s_cons s_int (s_cons (s_op o_pow s_int s_int) s_nil)))) (s_op o_mod (s_op o_div (s_var 1) s_int) s_int)) s_nil))))))
      (x_seq (x_if (s_tAnd (s_test (s_op o_eq (s_op o_mod (s_op o_div (s_var 1) s_int) s_int) s_int)) (s_test (s_op o_ne (s_var 3) (s_lst s_nil)))) (x_ret (s_call (s_cons (s_call (s_cons (s_var 3) (s_cons (s_op o_mod (s_op o_div (s_var 1) s_int) s_int) (s_cons (s_op o_mod (s_var 2) (s_op o_pow s_int s_int)) s_nil)))) s_nil))) x_next)
      (x_seq (x_if (s_test (s_op o_eq (s_op o_mod (s_op o_div (s_var 1) s_int) s_int) s_int)) (x_setZ (s_comp (s_iE (s_var 3)) (g_tup (g_cons (g_nm 0) (g_cons (g_nm 1) g_nil)) rfl) s_yes (s_tup (s_cons (s_var 0) (s_cons (s_op o_add (s_var 1) (s_op o_mod (s_var 2) (s_op o_pow s_int s_int))) s_nil))) rfl)) x_next)
      (x_seq (x_setZ (s_CB c_list (s_cons (s_var 3) s_nil)))
      (x_seq (x_set (s_callX (s_cons (s_var 4) s_nil)))
      (x_seq (x_app (s_tup (s_cons s_int (s_cons s_int s_nil))))
      (x_seq x_revL
      (x_seq (x_setZ (s_callX (s_cons (s_var 4) s_nil)))
      (x_seq (x_if (s_tOr (s_test (s_op o_ne (s_var 4) (s_var 3))) (s_tNot (s_tru (s_call (s_cons (s_var 6) s_nil))))) (x_ret s_bl) x_next)
      (x_seq (x_for (s_iV 6) (g_tup (g_cons (g_nm 7) (g_cons (g_nm 8) g_nil)) rfl) (x_seq (x_setZ (s_comp (s_iE (s_var 3)) (g_tup (g_cons (g_nm 0) (g_cons (g_nm 1) g_nil)) rfl) s_yes (s_var 0) rfl))
      (x_seq (x_setZ (s_CB c_sum (s_cons (s_comp (s_iE (s_var 3)) (g_tup (g_cons (g_nm 0) (g_cons (g_nm 1) g_nil)) rfl) s_yes (s_var 1) rfl) s_nil)))
      (x_seq (x_setZ s_int)
      (x_seq (x_setZ s_int)
      (x_seq (x_for (s_iV 3) (g_tup (g_cons (g_nm 13) (g_cons (g_nm 14) g_nil)) rfl) (x_seq (x_if (s_test (s_op o_eq (s_var 10) (s_var 7))) (x_setZ (s_op o_sub (s_var 13) (s_var 11))) x_next)
      (x_seq (x_setZ (s_op o_sub (s_var 10) (s_var 14)))
      (x_setZ (s_var 13)))))
      (x_if (s_tOr (s_test (s_op o_ne (s_var 12) (s_var 8))) (s_test (s_op o_eq (s_var 9) (s_lst s_nil)))) (x_ret s_bl) x_next)))))))
      (x_seq (x_if (s_tOr (s_test (s_op o_ne (s_CB c_len (s_cons (s_var 6) s_nil)) (s_CB c_len (s_cons (s_var 3) s_nil)))) (s_test (s_op o_ne (s_callX (s_cons (s_CB c_list (s_cons (s_var 6) s_nil)) s_nil)) (s_var 3)))) (x_ret s_bl) x_next)
      (x_seq (x_for (s_iE (s_lst (s_cons s_int (s_cons (s_op o_add s_int (s_op o_mod (s_var 2) s_int)) (s_cons (s_op o_add s_int (s_op o_mod (s_var 2) (s_op o_pow s_int s_int))) s_nil))))) (g_nm 15) (x_if (s_test (s_op o_ne (s_call (s_cons (s_var 6) (s_cons (s_var 15) s_nil))) (s_CB c_sum (s_cons (s_comp (s_iE (s_var 3)) (g_tup (g_cons (g_nm 0) (g_cons (g_nm 1) g_nil)) rfl) s_yes (s_op o_mulW (s_var 1) (s_CB c_min (s_cons (s_var 0) (s_cons (s_var 2) s_nil)))) rfl) s_nil)))) (x_ret s_bl) x_next))
      (x_ret s_bl))))))))))))))) h
end
theorem all_mk {l : PySem.W.OpenLaw} {w : World} {K : PySem.W.Frag} {h : Heap} {mg : Str → Option Value} {fa : Addr} {C : Addr} {f1 : Addr} {od1 an1 : Option Addr} {sl1 : Array (Option Value)} {oc1 kV1 dc1 pm1 cd1 ct1 : Value} {f2 : Addr} {od2 an2 : Option Addr} {sl2 : Array (Option Value)} {oc2 kV2 dc2 pm2 cd2 ct2 : Value} {f3 : Addr} {od3 an3 : Option Addr} {sl3 : Array (Option Value)} {oc3 kV3 dc3 pm3 cd3 ct3 : Value} {f4 : Addr} {od4 an4 : Option Addr} {sl4 : Array (Option Value)} {oc4 kV4 dc4 pm4 cd4 ct4 : Value} {f5 : Addr} {od5 an5 : Option Addr} {sl5 : Array (Option Value)} {oc5 kV5 dc5 pm5 cd5 ct5 : Value} {f6 : Addr} {od6 an6 : Option Addr} {sl6 : Array (Option Value)} {oc6 kV6 dc6 pm6 cd6 ct6 : Value} {f7 : Addr} {od7 an7 : Option Addr} {sl7 : Array (Option Value)} {oc7 kV7 dc7 pm7 cd7 ct7 : Value} {f8 : Addr} {od8 an8 : Option Addr} {sl8 : Array (Option Value)} {oc8 kV8 dc8 pm8 cd8 ct8 : Value} {f9 : Addr} {od9 an9 : Option Addr} {sl9 : Array (Option Value)} {oc9 kV9 dc9 pm9 cd9 ct9 : Value} {f10 : Addr} {od10 an10 : Option Addr} {sl10 : Array (Option Value)} {oc10 kV10 dc10 pm10 cd10 ct10 : Value} {c_BadTable : Addr} {c_LumpError : Addr} {c_NoRow : Addr} {c_Unlike : Addr} {c_BadDeed : Addr} {c_BadSeats : Addr} {c_BadText : Addr} {c_TooMany : Addr} {c_BadRow : Addr} (X : K.In h) (G : h.Ns mainGlobals mg) (hfa : mg "law" = some (.ref fa))
    (a1 : PySem.W.nsIn K mainGlobals "_law_first" = some (some (.ref f1)))
    (l1 : K.lookup f1 = some ⟨oc1, od1, .func (PySem.W.fnOf "_law_first" "_law_first" (defArgs s_law_first) (defBody s_law_first) (defScope s_law_first) .none kV1 dc1 pm1 an1 cd1 ct1), sl1⟩)
    (c1 : PySem.W.codeIn K cd1 "_law_first" = true)
    (k1 : PySem.W.keepIn K (.ref f1) = true)
    (a2 : PySem.W.nsIn K mainGlobals "check_lumps" = some (some (.ref f2)))
    (l2 : K.lookup f2 = some ⟨oc2, od2, .func (PySem.W.fnOf "check_lumps" "check_lumps" (defArgs s_check_lumps) (defBody s_check_lumps) (defScope s_check_lumps) .none kV2 dc2 pm2 an2 cd2 ct2), sl2⟩)
    (c2 : PySem.W.codeIn K cd2 "check_lumps" = true)
    (k2 : PySem.W.keepIn K (.ref f2) = true)
    (a3 : PySem.W.nsIn K mainGlobals "columns" = some (some (.ref f3)))
    (l3 : K.lookup f3 = some ⟨oc3, od3, .func (PySem.W.fnOf "columns" "columns" (defArgs s_columns) (defBody s_columns) (defScope s_columns) .none kV3 dc3 pm3 an3 cd3 ct3), sl3⟩)
    (c3 : PySem.W.codeIn K cd3 "columns" = true)
    (k3 : PySem.W.keepIn K (.ref f3) = true)
    (a4 : PySem.W.nsIn K mainGlobals "_law_fits" = some (some (.ref f4)))
    (l4 : K.lookup f4 = some ⟨oc4, od4, .func (PySem.W.fnOf "_law_fits" "_law_fits" (defArgs s_law_fits) (defBody s_law_fits) (defScope s_law_fits) .none kV4 dc4 pm4 an4 cd4 ct4), sl4⟩)
    (c4 : PySem.W.codeIn K cd4 "_law_fits" = true)
    (k4 : PySem.W.keepIn K (.ref f4) = true)
    (a5 : PySem.W.nsIn K mainGlobals "_law_alone" = some (some (.ref f5)))
    (l5 : K.lookup f5 = some ⟨oc5, od5, .func (PySem.W.fnOf "_law_alone" "_law_alone" (defArgs s_law_alone) (defBody s_law_alone) (defScope s_law_alone) .none kV5 dc5 pm5 an5 cd5 ct5), sl5⟩)
    (c5 : PySem.W.codeIn K cd5 "_law_alone" = true)
    (k5 : PySem.W.keepIn K (.ref f5) = true)
    (a6 : PySem.W.nsIn K mainGlobals "_law_refused" = some (some (.ref f6)))
    (l6 : K.lookup f6 = some ⟨oc6, od6, .func (PySem.W.fnOf "_law_refused" "_law_refused" (defArgs s_law_refused) (defBody s_law_refused) (defScope s_law_refused) .none kV6 dc6 pm6 an6 cd6 ct6), sl6⟩)
    (c6 : PySem.W.codeIn K cd6 "_law_refused" = true)
    (k6 : PySem.W.keepIn K (.ref f6) = true)
    (a7 : PySem.W.nsIn K mainGlobals "_law_bad" = some (some (.ref f7)))
    (l7 : K.lookup f7 = some ⟨oc7, od7, .func (PySem.W.fnOf "_law_bad" "_law_bad" (defArgs s_law_bad) (defBody s_law_bad) (defScope s_law_bad) .none kV7 dc7 pm7 an7 cd7 ct7), sl7⟩)
    (c7 : PySem.W.codeIn K cd7 "_law_bad" = true)
    (k7 : PySem.W.keepIn K (.ref f7) = true)
    (a8 : PySem.W.nsIn K mainGlobals "_law_cell" = some (some (.ref f8)))
    (l8 : K.lookup f8 = some ⟨oc8, od8, .func (PySem.W.fnOf "_law_cell" "_law_cell" (defArgs s_law_cell) (defBody s_law_cell) (defScope s_law_cell) .none kV8 dc8 pm8 an8 cd8 ct8), sl8⟩)
    (c8 : PySem.W.codeIn K cd8 "_law_cell" = true)
    (k8 : PySem.W.keepIn K (.ref f8) = true)
    (a9 : PySem.W.nsIn K mainGlobals "_law_lumps" = some (some (.ref f9)))
    (l9 : K.lookup f9 = some ⟨oc9, od9, .func (PySem.W.fnOf "_law_lumps" "_law_lumps" (defArgs s_law_lumps) (defBody s_law_lumps) (defScope s_law_lumps) .none kV9 dc9 pm9 an9 cd9 ct9), sl9⟩)
    (c9 : PySem.W.codeIn K cd9 "_law_lumps" = true)
    (k9 : PySem.W.keepIn K (.ref f9) = true)
    (a10 : PySem.W.nsIn K mainGlobals "law" = some (some (.ref f10)))
    (l10 : K.lookup f10 = some ⟨oc10, od10, .func (PySem.W.fnOf "law" "law" (defArgs s_law) (defBody s_law) (defScope s_law) .none kV10 dc10 pm10 an10 cd10 ct10), sl10⟩)
    (c10 : PySem.W.codeIn K cd10 "law" = true)
    (k10 : PySem.W.keepIn K (.ref f10) = true)
    (n_BadTable : PySem.W.nsIn K mainGlobals "BadTable" = some (some (.ref c_BadTable)))
    (n_LumpError : PySem.W.nsIn K mainGlobals "LumpError" = some (some (.ref c_LumpError)))
    (n_NoRow : PySem.W.nsIn K mainGlobals "NoRow" = some (some (.ref c_NoRow)))
    (n_Unlike : PySem.W.nsIn K mainGlobals "Unlike" = some (some (.ref c_Unlike)))
    (n_BadDeed : PySem.W.nsIn K mainGlobals "BadDeed" = some (some (.ref c_BadDeed)))
    (n_BadSeats : PySem.W.nsIn K mainGlobals "BadSeats" = some (some (.ref c_BadSeats)))
    (n_BadText : PySem.W.nsIn K mainGlobals "BadText" = some (some (.ref c_BadText)))
    (n_TooMany : PySem.W.nsIn K mainGlobals "TooMany" = some (some (.ref c_TooMany)))
    (n_BadRow : PySem.W.nsIn K mainGlobals "BadRow" = some (some (.ref c_BadRow)))
    (xo_BadTable : PySem.W.excIn K c_BadTable VEm "ValueError.__new__" = true)
    (xga_BadTable : PySem.W.findIn K (.ref c_BadTable) "__getattribute__" = some (some (.builtin "BaseException.__getattribute__")))
    (xgn_BadTable : PySem.W.findIn K (.ref c_BadTable) "__getattr__" = some none)
    (xmb_BadTable : PySem.W.mroIn K c_BadTable (.type "BaseException") = some true)
    (xh_BadTable : PySem.W.hasDictIn K c_BadTable = true)
    (xf_BadTable : PySem.W.findIn K (.ref c_BadTable) "__class__" = some (some (.builtin "object.__class__")))
    (xm_BadTable : PySem.W.mroIn K c_BadTable (.type "object") = some true)
    (xg1 : PySem.W.specialIn K (.builtin "object.__class__") "__get__" = some (some (.builtin "getset_descriptor.__get__")))
    (xg2 : PySem.W.takesIn K (.builtin "object.__class__") = some true)
    (kv_BadTable : PySem.W.kitOne K (.ref c_BadTable) (.type "ValueError") = some true)
    (ki_LumpError_BadTable : PySem.W.kitOne K (.ref c_BadTable) (.ref c_LumpError) = some true)
    (kn_LumpError : PySem.W.kitOne K (.type "NoneType") (.ref c_LumpError) = some false)
    (ki_NoRow_BadTable : PySem.W.kitOne K (.ref c_BadTable) (.ref c_NoRow) = some false)
    (kn_NoRow : PySem.W.kitOne K (.type "NoneType") (.ref c_NoRow) = some false)
    (ki_Unlike_BadTable : PySem.W.kitOne K (.ref c_BadTable) (.ref c_Unlike) = some false)
    (kn_Unlike : PySem.W.kitOne K (.type "NoneType") (.ref c_Unlike) = some false)
    (ki_BadDeed_BadTable : PySem.W.kitOne K (.ref c_BadTable) (.ref c_BadDeed) = some false)
    (kn_BadDeed : PySem.W.kitOne K (.type "NoneType") (.ref c_BadDeed) = some false)
    (ki_BadTable_BadTable : PySem.W.kitOne K (.ref c_BadTable) (.ref c_BadTable) = some true)
    (kn_BadTable : PySem.W.kitOne K (.type "NoneType") (.ref c_BadTable) = some false)
    (ki_BadSeats_BadTable : PySem.W.kitOne K (.ref c_BadTable) (.ref c_BadSeats) = some false)
    (kn_BadSeats : PySem.W.kitOne K (.type "NoneType") (.ref c_BadSeats) = some false)
    (ki_BadText_BadTable : PySem.W.kitOne K (.ref c_BadTable) (.ref c_BadText) = some false)
    (kn_BadText : PySem.W.kitOne K (.type "NoneType") (.ref c_BadText) = some false)
    (ki_TooMany_BadTable : PySem.W.kitOne K (.ref c_BadTable) (.ref c_TooMany) = some false)
    (kn_TooMany : PySem.W.kitOne K (.type "NoneType") (.ref c_TooMany) = some false)
    (ki_BadRow_BadTable : PySem.W.kitOne K (.ref c_BadTable) (.ref c_BadRow) = some false)
    (kn_BadRow : PySem.W.kitOne K (.type "NoneType") (.ref c_BadRow) = some false)
    (et_LumpError_BadTable : PySem.W.exmOne K (.ref c_BadTable) (.ref c_LumpError) = some true)
    (z_reversed : PySem.W.nsIn K mainGlobals "reversed" = some none)
    (z_min : PySem.W.nsIn K mainGlobals "min" = some none)
    (z_list : PySem.W.nsIn K mainGlobals "list" = some none)
    (z_zip : PySem.W.nsIn K mainGlobals "zip" = some none)
    (z_range : PySem.W.nsIn K mainGlobals "range" = some none)
    (z_len : PySem.W.nsIn K mainGlobals "len" = some none)
    (z_isinstance : PySem.W.nsIn K mainGlobals "isinstance" = some none)
    (z_bool : PySem.W.nsIn K mainGlobals "bool" = some none)
    (z_int : PySem.W.nsIn K mainGlobals "int" = some none)
    (z_tuple : PySem.W.nsIn K mainGlobals "tuple" = some none)
    (z_ValueError : PySem.W.nsIn K mainGlobals "ValueError" = some none)
    (z_sorted : PySem.W.nsIn K mainGlobals "sorted" = some none)
    (z_sum : PySem.W.nsIn K mainGlobals "sum" = some none)
    : ∃ fd : FuncData, (∀ (s : Shared) (v : Value), BindsTo s fd ⟨[v], []⟩ [("script", v)]) ∧ ∀ base : Heap, K.In base → base.Ns mainGlobals mg → FnOk l.prog w K mg base CX0 4 fa fd ["script"] (spLaw K) := by
  have e := hfa.symm.trans (PySem.W.mg_of X G a10)
  cases e
  have m_BadTable := PySem.W.mg_of X G n_BadTable
  have m_LumpError := PySem.W.mg_of X G n_LumpError
  have m_NoRow := PySem.W.mg_of X G n_NoRow
  have m_Unlike := PySem.W.mg_of X G n_Unlike
  have m_BadDeed := PySem.W.mg_of X G n_BadDeed
  have m_BadSeats := PySem.W.mg_of X G n_BadSeats
  have m_BadText := PySem.W.mg_of X G n_BadText
  have m_TooMany := PySem.W.mg_of X G n_TooMany
  have m_BadRow := PySem.W.mg_of X G n_BadRow
  have x_BadTable : AtX K "BadTable" c_BadTable := ⟨n_BadTable, xo_BadTable, xga_BadTable, xgn_BadTable, xmb_BadTable, xh_BadTable, xf_BadTable, xm_BadTable⟩
  have xG : ExcG K := ⟨xg1, xg2⟩
  have xO : OwnL K ["BadTable"] [c_BadTable] := own_cons x_BadTable (own_nil)
  have iV : IsiV K ["BadTable"] := isiV_of xO xG (kiv_cons kv_BadTable (kiv_nil))
  have i_LumpError : IsiN K ["BadTable"] "LumpError" c_LumpError := isiN_of xO xG (kit_cons ki_LumpError_BadTable (by decide +kernel) (kit_nil)) kn_LumpError
  have i_NoRow : IsiN K ["BadTable"] "NoRow" c_NoRow := isiN_of xO xG (kit_cons ki_NoRow_BadTable (by decide +kernel) (kit_nil)) kn_NoRow
  have i_Unlike : IsiN K ["BadTable"] "Unlike" c_Unlike := isiN_of xO xG (kit_cons ki_Unlike_BadTable (by decide +kernel) (kit_nil)) kn_Unlike
  have i_BadDeed : IsiN K ["BadTable"] "BadDeed" c_BadDeed := isiN_of xO xG (kit_cons ki_BadDeed_BadTable (by decide +kernel) (kit_nil)) kn_BadDeed
  have i_BadTable : IsiN K ["BadTable"] "BadTable" c_BadTable := isiN_of xO xG (kit_cons ki_BadTable_BadTable (by decide +kernel) (kit_nil)) kn_BadTable
  have i_BadSeats : IsiN K ["BadTable"] "BadSeats" c_BadSeats := isiN_of xO xG (kit_cons ki_BadSeats_BadTable (by decide +kernel) (kit_nil)) kn_BadSeats
  have i_BadText : IsiN K ["BadTable"] "BadText" c_BadText := isiN_of xO xG (kit_cons ki_BadText_BadTable (by decide +kernel) (kit_nil)) kn_BadText
  have i_TooMany : IsiN K ["BadTable"] "TooMany" c_TooMany := isiN_of xO xG (kit_cons ki_TooMany_BadTable (by decide +kernel) (kit_nil)) kn_TooMany
  have i_BadRow : IsiN K ["BadTable"] "BadRow" c_BadRow := isiN_of xO xG (kit_cons ki_BadRow_BadTable (by decide +kernel) (kit_nil)) kn_BadRow
  have t_LumpError : ExmL K c_LumpError [c_BadTable] := exm_cons et_LumpError_BadTable (exm_nil)
  have b_reversed := PySem.W.mg_none_of X G z_reversed
  have b_min := PySem.W.mg_none_of X G z_min
  have b_list := PySem.W.mg_none_of X G z_list
  have b_zip := PySem.W.mg_none_of X G z_zip
  have b_range := PySem.W.mg_none_of X G z_range
  have b_len := PySem.W.mg_none_of X G z_len
  have b_isinstance := PySem.W.mg_none_of X G z_isinstance
  have b_bool := PySem.W.mg_none_of X G z_bool
  have b_int := PySem.W.mg_none_of X G z_int
  have b_tuple := PySem.W.mg_none_of X G z_tuple
  have b_ValueError := PySem.W.mg_none_of X G z_ValueError
  have b_sorted := PySem.W.mg_none_of X G z_sorted
  have b_sum := PySem.W.mg_none_of X G z_sum
  have F1 := fun_mk (st := s_law_first) l1 c1 k1
  have B1 := F1.binds (ps := ["found", "seats"]) fun _ _ _ _ _ _ us hl => match us, hl with | [_, _], _ => rfl
  have F2 := fun_mk (st := s_check_lumps) l2 c2 k2
  have B2 := F2.binds (ps := ["lumps"]) fun _ _ _ _ _ _ us hl => match us, hl with | [_], _ => rfl
  have F3 := fun_mk (st := s_columns) l3 c3 k3
  have B3 := F3.binds (ps := ["lumps"]) fun _ _ _ _ _ _ us hl => match us, hl with | [_], _ => rfl
  have F4 := fun_mk (st := s_law_fits) l4 c4 k4
  have B4 := F4.binds (ps := ["found"]) fun _ _ _ _ _ _ us hl => match us, hl with | [_], _ => rfl
  have F5 := fun_mk (st := s_law_alone) l5 c5 k5
  have B5 := F5.binds (ps := ["e"]) fun _ _ _ _ _ _ us hl => match us, hl with | [_], _ => rfl
  have F6 := fun_mk (st := s_law_refused) l6 c6 k6
  have B6 := F6.binds (ps := ["lumps"]) fun _ _ _ _ _ _ us hl => match us, hl with | [_], _ => rfl
  have F7 := fun_mk (st := s_law_bad) l7 c7 k7
  have B7 := F7.binds (ps := ["lumps", "way", "cell"]) fun _ _ _ _ _ _ us hl => match us, hl with | [_, _, _], _ => rfl
  have F8 := fun_mk (st := s_law_cell) l8 c8 k8
  have B8 := F8.binds (ps := ["script", "k"]) fun _ _ _ _ _ _ us hl => match us, hl with | [_, _], _ => rfl
  have F9 := fun_mk (st := s_law_lumps) l9 c9 k9
  have B9 := F9.binds (ps := ["script", "first", "many", "span"]) fun _ _ _ _ _ _ us hl => match us, hl with | [_, _, _, _], _ => rfl
  have F10 := fun_mk (st := s_law) l10 c10 k10
  have B10 := F10.binds (ps := ["script"]) fun _ _ _ _ _ _ us hl => match us, hl with | [_], _ => rfl
  refine ⟨PySem.W.fnOf "law" "law" (defArgs s_law) (defBody s_law) (defScope s_law) .none kV10 dc10 pm10 an10 cd10 ct10, fun s v => .of_eq rfl, fun base _ _ => ?_⟩
  have C__law_first : Cal l.prog w K mg base "_law_first" 1 ["found", "seats"] (spE K C 2 ev_law_first) := ⟨f1, _, ok_law_first (C := C) F1 b_reversed b_min, PySem.W.mg_of X G a1, k1, B1⟩
  have CX_check_lumps : CalX l.prog w K mg base "check_lumps" 1 ["lumps"] (spX K C 1 ev_check_lumps ex_check_lumps) := ⟨f2, _, ok_check_lumps (C := C) F2 m_BadTable x_BadTable, PySem.W.mg_of X G a2, k2, B2⟩
  have CX_columns : CalX l.prog w K mg base "columns" 2 ["lumps"] (spX K C 1 ev_columns ex_columns) := ⟨f3, _, ok_columns (C := C) F3 b_reversed b_list b_zip CX_check_lumps, PySem.W.mg_of X G a3, k3, B3⟩
  have C__law_fits : Cal l.prog w K mg base "_law_fits" 1 ["found"] (spE K C 1 ev_law_fits) := ⟨f4, _, ok_law_fits (C := C) F4 b_range b_len b_isinstance b_bool b_int b_tuple b_list, PySem.W.mg_of X G a4, k4, B4⟩
  have C__law_alone : Cal l.prog w K mg base "_law_alone" 1 ["e"] (spE K C 1 ev_law_alone) := ⟨f5, _, ok_law_alone (C := C) F5 b_isinstance b_ValueError xG xO iV m_LumpError i_LumpError m_NoRow i_NoRow m_Unlike i_Unlike m_BadDeed i_BadDeed m_BadTable i_BadTable m_BadSeats i_BadSeats m_BadText i_BadText m_TooMany i_TooMany m_BadRow i_BadRow, PySem.W.mg_of X G a5, k5, B5⟩
  have C__law_refused : Cal l.prog w K mg base "_law_refused" 3 ["lumps"] (spE K C 1 ev_law_refused) := ⟨f6, _, ok_law_refused (C := C) F6 b_isinstance C__law_alone CX_columns m_BadTable xG xO i_BadTable m_LumpError t_LumpError, PySem.W.mg_of X G a6, k6, B6⟩
  have C__law_bad : Cal l.prog w K mg base "_law_bad" 1 ["lumps", "way", "cell"] (spE K C 3 ev_law_bad) := ⟨f7, _, ok_law_bad (C := C) F7 b_int b_len, PySem.W.mg_of X G a7, k7, B7⟩
  have C__law_cell : Cal l.prog w K mg base "_law_cell" 1 ["script", "k"] (spE K C 2 ev_law_cell) := ⟨f8, _, ok_law_cell (C := C) F8 b_len, PySem.W.mg_of X G a8, k8, B8⟩
  have C__law_lumps : Cal l.prog w K mg base "_law_lumps" 2 ["script", "first", "many", "span"] (spE K C 4 ev_law_lumps) := ⟨f9, _, ok_law_lumps (C := C) F9 b_sorted b_range C__law_cell, PySem.W.mg_of X G a9, k9, B9⟩
  exact law_imp (ok_law (C := C) F10 b_sum b_min b_list b_len C__law_first CX_columns C__law_fits C__law_refused C__law_bad C__law_lumps C__law_cell) law_true
theorem walk {l : PySem.W.OpenLaw} {q : Program} {loose : List Str} {XP : (Str → Option Value) → Heap → Prop} {YP : World → Heap → Prop} {d : DefRec} {K : Params → PySem.W.Frag} (hn : l.most = some 63) (hdf : d.params.defaults = [])
    (hY : ∀ (w : World) (h : Heap), YP w h → (K w.params).In h)
    (F : ∀ (w : World) (mg : Str → Option Value) (fa : Addr) (h : Heap), (K w.params).In h → h.Ns mainGlobals mg → mg d.name = some (.ref fa) →
      ∃ fd : FuncData, (∀ (s : Shared) (u : Value), BindsTo s fd ⟨[u], []⟩ [("script", u)]) ∧ ∀ base : Heap, (K w.params).In base → base.Ns mainGlobals mg → FnOk l.prog w (K w.params) mg base CX0 4 fa fd ["script"] (spLaw (K w.params))) :
    PySem.W.WalkO q loose XP YP l.row.toRowW d [] (fun f vs => PySem.call f vs) :=
  L2.walk_of (n := 63) (k := 4) (x := "script") (CX := fun _ => CX0) (sp := fun w => spLaw (K w.params)) hn (by decide) hdf ⟨rfl, by decide, by decide⟩ hY F (fun _ _ a ns hl _ hS => ⟨a, ns, rfl, hS, hl, fun _ => rfl⟩) fun _ _ _ _ _ z => z
end LK
end
open PySem PySem.W PyProof.Rows
set_option maxRecDepth 100000 in
set_option maxHeartbeats 0 in
theorem PySem.Challenge.cw_lumprow_k45_columns_holds : PySem.Challenge.rw_lumprow_k45_columns.Holds := by
  w_on; o_law; k_head; (case hw => w_witness2)
  k_fill
  refine LK.walk (l := PySem.Challenge.rw_lumprow_k45_columns) rfl rfl (fun w h Y => PySem.W.kIn_of Y) ?F
  case F =>
    intro w mg fa h KX G hmg
    refine' LK.all_mk (C := 0) KX G hmg ?a1 ?l1 ?c1 ?k1 ?a2 ?l2 ?c2 ?k2 ?a3 ?l3 ?c3 ?k3 ?a4 ?l4 ?c4 ?k4 ?a5 ?l5 ?c5 ?k5 ?a6 ?l6 ?c6 ?k6 ?a7 ?l7 ?c7 ?k7 ?a8 ?l8 ?c8 ?k8 ?a9 ?l9 ?c9 ?k9 ?a10 ?l10 ?c10 ?k10 ?n_BadTable ?n_LumpError ?n_NoRow ?n_Unlike ?n_BadDeed ?n_BadSeats ?n_BadText ?n_TooMany ?n_BadRow ?xo_BadTable ?xga_BadTable ?xgn_BadTable ?xmb_BadTable ?xh_BadTable ?xf_BadTable ?xm_BadTable ?xg1 ?xg2 ?kv_BadTable ?ki_LumpError_BadTable ?kn_LumpError ?ki_NoRow_BadTable ?kn_NoRow ?ki_Unlike_BadTable ?kn_Unlike ?ki_BadDeed_BadTable ?kn_BadDeed ?ki_BadTable_BadTable ?kn_BadTable ?ki_BadSeats_BadTable ?kn_BadSeats ?ki_BadText_BadTable ?kn_BadText ?ki_TooMany_BadTable ?kn_TooMany ?ki_BadRow_BadTable ?kn_BadRow ?et_LumpError_BadTable ?z_reversed ?z_min ?z_list ?z_zip ?z_range ?z_len ?z_isinstance ?z_bool ?z_int ?z_tuple ?z_ValueError ?z_sorted ?z_sum
    (case a1 => k_is)
    (case l1 => k_is)
    (case c1 => k_is)
    (case k1 => k_is)
    (case a2 => k_is)
    (case l2 => k_is)
    (case c2 => k_is)
    (case k2 => k_is)
    (case a3 => k_is)
    (case l3 => k_is)
    (case c3 => k_is)
    (case k3 => k_is)
    (case a4 => k_is)
    (case l4 => k_is)
    (case c4 => k_is)
    (case k4 => k_is)
    (case a5 => k_is)
    (case l5 => k_is)
    (case c5 => k_is)
    (case k5 => k_is)
    (case a6 => k_is)
    (case l6 => k_is)
    (case c6 => k_is)
    (case k6 => k_is)
    (case a7 => k_is)
    (case l7 => k_is)
    (case c7 => k_is)
    (case k7 => k_is)
    (case a8 => k_is)
    (case l8 => k_is)
    (case c8 => k_is)
    (case k8 => k_is)
    (case a9 => k_is)
    (case l9 => k_is)
    (case c9 => k_is)
    (case k9 => k_is)
    (case a10 => k_is)
    (case l10 => k_is)
    (case c10 => k_is)
    (case k10 => k_is)
    (case n_BadTable => k_is)
    (case n_LumpError => k_is)
    (case n_NoRow => k_is)
    (case n_Unlike => k_is)
    (case n_BadDeed => k_is)
    (case n_BadSeats => k_is)
    (case n_BadText => k_is)
    (case n_TooMany => k_is)
    (case n_BadRow => k_is)
    (case xo_BadTable => k_exc)
    (case xga_BadTable => k_is)
    (case xgn_BadTable => k_is)
    (case xmb_BadTable => k_is)
    (case xh_BadTable => k_is)
    (case xf_BadTable => k_is)
    (case xm_BadTable => k_is)
    (case xg1 => k_is)
    (case xg2 => k_is)
    (case kv_BadTable => kit_is)
    (case ki_LumpError_BadTable => kit_is)
    (case kn_LumpError => kit_is)
    (case ki_NoRow_BadTable => kit_is)
    (case kn_NoRow => kit_is)
    (case ki_Unlike_BadTable => kit_is)
    (case kn_Unlike => kit_is)
    (case ki_BadDeed_BadTable => kit_is)
    (case kn_BadDeed => kit_is)
    (case ki_BadTable_BadTable => kit_is)
    (case kn_BadTable => kit_is)
    (case ki_BadSeats_BadTable => kit_is)
    (case kn_BadSeats => kit_is)
    (case ki_BadText_BadTable => kit_is)
    (case kn_BadText => kit_is)
    (case ki_TooMany_BadTable => kit_is)
    (case kn_TooMany => kit_is)
    (case ki_BadRow_BadTable => kit_is)
    (case kn_BadRow => kit_is)
    (case et_LumpError_BadTable => kts_exm)
    (case z_reversed => k_is)
    (case z_min => k_is)
    (case z_list => k_is)
    (case z_zip => k_is)
    (case z_range => k_is)
    (case z_len => k_is)
    (case z_isinstance => k_is)
    (case z_bool => k_is)
    (case z_int => k_is)
    (case z_tuple => k_is)
    (case z_ValueError => k_is)
    (case z_sorted => k_is)
    (case z_sum => k_is)
