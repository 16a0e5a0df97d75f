import PyProof.Rows.All
import Wide.All
import OpenK.AllK
import Wide.FinOn
import PyProof.EqAt
import PyProof.EqKinds
import PyProof.TupleCall
import KE.BitLaws
import Open.SpecLaws
import KE.OsHead
import KE.OsGo
import KE.SpHead
import KE.OsShapes
import KE.KLam
import KE.KMinKey
import PyProof.Rows.CallKwBuiltin
import PySem.Challenge.RW_patternmeets_s01_answers
section
set_option Elab.async false
set_option linter.all false
set_option maxRecDepth 100000
namespace L2
open PySem PySem.Spec PyProof.Rows

abbrev Key := Sum Int Str
def keyIs : Key → Value → Bool
  | .inl k, v => Value.isInt k v
  | .inr x, v => Value.isStrOf x v
def keyH (w : World) : Key → Int
  | .inl k => hashInt k
  | .inr x => hashStr w x
theorem keyIs_shape : ∀ {k : Key} {v : Value}, keyIs k v = true → (∃ i t, k = Sum.inl i ∧ v = Value.int i t) ∨ (∃ x t, k = Sum.inr x ∧ v = Value.str x t)
  | .inl i, v, h => by
    obtain ⟨t, e⟩ := Value.isInt_shape (k := i) (v := v) h
    exact .inl ⟨i, t, rfl, e⟩
  | .inr x, v, h => by
    obtain ⟨t, e⟩ := Value.isStrOf_shape (x := x) (v := v) h
    exact .inr ⟨x, t, rfl, e⟩
theorem keyIs_int (i : Int) (t : Tok) : keyIs (.inl i) (.int i t) = true := by simp [keyIs, Value.isInt]
theorem keyIs_str (x : Str) (t : Tok) : keyIs (.inr x) (.str x t) = true := by simp [keyIs, Value.isStrOf]
theorem key_ll (a b : Int) : decide ((Sum.inl a : Key) = Sum.inl b) = (a == b) := by
  by_cases e : a = b
  · subst e; simp
  · have h : ¬ (Sum.inl a : Key) = Sum.inl b := fun q => e (Sum.inl.inj q)
    rw [decide_eq_false h]
    exact (beq_eq_false_iff_ne.mpr e).symm
theorem key_rr (a b : Str) : decide ((Sum.inr a : Key) = Sum.inr b) = decide (a = b) := by
  by_cases e : a = b
  · subst e; simp
  · have h : ¬ (Sum.inr a : Key) = Sum.inr b := fun q => e (Sum.inr.inj q)
    rw [decide_eq_false h, decide_eq_false e]
theorem key_lr (a : Int) (b : Str) : decide ((Sum.inl a : Key) = Sum.inr b) = false := decide_eq_false (fun q => nomatch q)
theorem key_rl (a : Str) (b : Int) : decide ((Sum.inr a : Key) = Sum.inl b) = false := decide_eq_false (fun q => nomatch q)

def mixKind (prog : Program) (w : World) : PySem.KeyKind prog w Key where
  is := keyIs
  hash := keyH w
  inj := fun v a b ha hb => by
    rcases keyIs_shape ha with ⟨i, t, rfl, rfl⟩ | ⟨x, t, rfl, rfl⟩
    · rcases keyIs_shape hb with ⟨j, u, rfl, e⟩ | ⟨y, u, rfl, e⟩
      · injection e with e1 _; rw [e1]
      · exact nomatch e
    · rcases keyIs_shape hb with ⟨j, u, rfl, e⟩ | ⟨y, u, rfl, e⟩
      · exact nomatch e
      · injection e with e1 _; rw [e1]
  byValue := fun k v h => by
    rcases keyIs_shape h with ⟨i, t, rfl, rfl⟩ | ⟨x, t, rfl, rfl⟩ <;> rfl
  pyHash := fun hv h => by
    rcases keyIs_shape hv with ⟨i, t, rfl, rfl⟩ | ⟨x, t, rfl, rfl⟩
    · exact wpAny_pyHash_int h
    · exact wpAny_pyHash_str h
  eqBool := fun hu hv h => by
    rcases keyIs_shape hu with ⟨i, t, rfl, rfl⟩ | ⟨x, t, rfl, rfl⟩
    · rcases keyIs_shape hv with ⟨j, u, rfl, rfl⟩ | ⟨y, u, rfl, rfl⟩
      · rw [key_ll] at h; exact wpAny_eqBool_int h
      · rw [key_lr] at h; exact SeqAt.EqAt.int_str i t y u _ _ _ _ h
    · rcases keyIs_shape hv with ⟨j, u, rfl, rfl⟩ | ⟨y, u, rfl, rfl⟩
      · rw [key_rl] at h; exact SeqAt.EqAt.str_int x t j u _ _ _ _ h
      · rw [key_rr] at h; exact wpAny_eqBool_str h
  «strs» := fun k x t v h => by
    rcases keyIs_shape h with ⟨i, u, rfl, e⟩ | ⟨y, u, rfl, e⟩
    · exact nomatch e
    · injection e with e1 _
      subst e1
      cases v <;> rfl

theorem mixKind_int (prog : Program) (w : World) (i : Int) (t : Tok) : (mixKind prog w).is (.inl i) (.int i t) = true := keyIs_int i t
theorem mixKind_str (prog : Program) (w : World) (x : Str) (t : Tok) : (mixKind prog w).is (.inr x) (.str x t) = true := keyIs_str x t
end L2

namespace L2
open PySem PySem.Spec PyProof.Rows

inductive V where
  | non | bl (b : Bool) | int (i : Int) | str (x : Str) | byt (b : Array UInt8) | flt (b : UInt64) | ref (a : Addr) | ty (n : String)
  deriving DecidableEq

def RelV : V → Value → Prop
  | .non, u => u = Value.none
  | .bl b, u => u = Value.bool b
  | .int i, u => ∃ t, u = Value.int i t
  | .str x, u => ∃ t, u = Value.str x t
  | .byt b, u => ∃ t, u = Value.bytes b t
  | .flt b, u => ∃ t, u = Value.float b t
  | .ref a, u => u = Value.ref a
  | .ty n, u => u = Value.type n

abbrev Vals : List V → List Value → Prop := Paired RelV
theorem Vals.length {xs : List V} {us : List Value} (r : Vals xs us) : xs.length = us.length := Paired.length r
theorem Vals.get : ∀ {xs : List V} {us : List Value} {i : Nat} {x : V}, Vals xs us → xs[i]? = some x → ∃ u, us[i]? = some u ∧ RelV x u
  | _, _, _, _, .nil, e => by simp at e
  | _, _, 0, _, .cons r _, e => by simp at e; subst e; exact ⟨_, rfl, r⟩
  | _, _, i + 1, x, .cons _ t, e => by
    obtain ⟨u, h1, h2⟩ := Vals.get (i := i) (x := x) t (by simpa using e)
    exact ⟨u, by simpa using h1, h2⟩
theorem Vals.set {x : V} {u : Value} (r : RelV x u) : ∀ {xs : List V} {us : List Value} (i : Nat), Vals xs us → Vals (xs.set i x) (us.set i u)
  | _, _, _, .nil => .nil
  | _, _, 0, .cons _ t => .cons r t
  | _, _, i + 1, .cons q t => .cons q (Vals.set r i t)
theorem Vals.append : ∀ {xs ys : List V} {us ws : List Value}, Vals xs us → Vals ys ws → Vals (xs ++ ys) (us ++ ws)
  | _, _, _, _, .nil, s => s
  | _, _, _, _, .cons r t, s => .cons r (Vals.append t s)
theorem Vals.take : ∀ {xs : List V} {us : List Value} (n : Nat), Vals xs us → Vals (xs.take n) (us.take n)
  | _, _, 0, _ => .nil
  | _, _, _ + 1, .nil => .nil
  | _, _, n + 1, .cons r t => .cons r (Vals.take n t)
theorem Vals.drop : ∀ {xs : List V} {us : List Value} (n : Nat), Vals xs us → Vals (xs.drop n) (us.drop n)
  | _, _, 0, r => r
  | _, _, _ + 1, .nil => .nil
  | _, _, n + 1, .cons _ t => Vals.drop n t
theorem Vals.none_of : ∀ {xs : List V} {us : List Value} {i : Nat}, Vals xs us → xs[i]? = none → us[i]? = none := fun {xs us i} r e => by
  have h1 := r.length
  have h2 : xs.length ≤ i := List.getElem?_eq_none_iff.mp e
  exact List.getElem?_eq_none_iff.mpr (by omega)

def RelO : Option V → Option Value → Prop
  | some v, some u => RelV v u
  | none, none => True
  | _, _ => False
def KV {κ : Type} : List (κ × V) → List (κ × Value) → Prop := Paired fun (p : κ × V) (q : κ × Value) => p.1 = q.1 ∧ RelV p.2 q.2

def kV : Key → V
  | .inl i => .int i
  | .inr x => .str x

inductive HO where
  /-- a list -/
  | lst (xs : List V)
  /-- a tuple (never changes) -/
  | tup (xs : List V)
  /-- a dict whose keys are ints and texts; one whose keys are tuples of ints and texts (the empty one is both) -/
  | dK (kvs : List (Key × V)) | dT (kvs : List (List Key × V))
  /-- a set of ints: its members, its size -/
  | set (S : Int → Bool) (n : Nat)
  /-- an instance of the class at C, its dict at dx, its attributes -/
  | ins (C dx : Addr) (fs : List (Str × V))
  /-- the dict of the instance at x -/
  | own (x : Addr)
  /-- the dict of an exception -/
  | xd (fs : List (Str × V))
  /-- a bound method, f of x -/
  | met (f x : Addr)
  /-- a range object lo, lo + 1, .. below hi -/
  | rng (lo hi : Int)
  /-- a thing that is known to the object (the script; a dict while a loop walks it): read, never written while it is so -/
  | frz (o : Obj) (u : HO)
  /-- a code object's table -/
  | tbl (ps : Array Value)
  /-- any other thing, by what is true of its one object (a def of one's own: SetO a S n := HO.ext fun h => ..) -/
  | ext (φ : Heap → Prop)

abbrev Hp := Addr → Option HO
def upd (H : Hp) (a : Addr) (o : HO) : Hp := fun b => if b = a then some o else H b
theorem upd_same {H : Hp} {a : Addr} {o : HO} : upd H a o a = some o := by unfold upd; rw [if_pos rfl]
theorem upd_ne {H : Hp} {a b : Addr} {o : HO} (h : b ≠ a) : upd H a o b = H b := by unfold upd; rw [if_neg h]
theorem upd_upd {H : Hp} {a : Addr} {o u : HO} : upd (upd H a o) a u = upd H a u := by
  funext b; unfold upd; split <;> rfl
theorem ne_of {H : Hp} {a b : Addr} {o u : HO} (h : H a = some o) (h' : H b = some u) (d : o ≠ u) : a ≠ b := by
  intro e; subst e; rw [h] at h'; exact d (Option.some.inj h')
theorem ne_of_none {H : Hp} {a b : Addr} {o : HO} (h : H a = some o) (h' : H b = none) : a ≠ b := by
  intro e; subst e; rw [h] at h'; cases h'

section
variable (P : Program) (w : World)
def ObjOk (H : Hp) (h : Heap) (a : Addr) : HO → Prop
  | .lst xs => xs.length ≤ sizeLine ∧ ∃ (its : List Value) (n : Nat), Vals xs its ∧ h.get? a = some { cls := .type "list", data := .seq its.toArray n }
  | .tup xs => xs.length ≤ sizeLine ∧ ∃ its : List Value, Vals xs its ∧ IsTup h a its.toArray
  | .dK kvs => kvs.length ≤ sizeLine ∧ (a == sysModules) = false ∧ ∃ vs, KV kvs vs ∧ h.DictOf (mixKind P w) a vs
  | .dT kvs => kvs.length ≤ sizeLine ∧ (a == sysModules) = false ∧ ∃ xs : List (List Key × Addr × Value),
      Paired (fun (p : List Key × V) (q : List Key × Addr × Value) => p.1 = q.1 ∧ H q.2.1 = some (.tup (p.1.map kV)) ∧ RelV p.2 q.2.2) kvs xs ∧
      ∃ o es ep, h.get? a = some o ∧ o.ExactDict ∧ o.data = .dict es ep ∧ es.toList = xs.map (entryOfKey (tupleKind (mixKind P w))) ∧ (xs.map (·.1)).Nodup
  | .set S n => h.SetOf (intKind P w) a S n
  | .ins C dx fs => H dx = some (.own a) ∧ fs.length ≤ 1000 ∧ dx ≠ a ∧ h.get? a = some (PySem.W.instObj C dx) ∧
      ∃ mA, h.Ns1 dx mA ∧ (∀ f, RelO (fs.lookup f) (mA f)) ∧ PySem.Within mA (fs.map (·.1))
  | .own _ => ∃ o, h.get? a = some o
  | .xd fs => ∃ mA, h.Ns1 a mA ∧ ∀ f, RelO (fs.lookup f) (mA f)
  | .rng lo hi => ∃ t u v, h.get? a = some { cls := .type "range", data := .fields #[.int lo t, .int hi u, .int 1 v] }
  | .frz o u => h.get? a = some o ∧ ObjOk H h a u
  | .tbl ps => h.get? a = some { cls := .none, data := .fields ps }
  | .met f x => h.get? a = some (PySem.W.methodObj (.ref f) (.ref x))
  | .ext φ => φ h ∧ (∃ o, h.get? a = some o) ∧ ∀ h1 h2 : Heap, φ h1 → (∀ o, h1.get? a = some o → h2.get? a = some o) → φ h2
def HOk (H : Hp) (h : Heap) : Prop := ∀ a o, H a = some o → ObjOk P w H h a o
end

section
variable {P : Program} {w : World} {H H' : Hp} {h h' : Heap} {a : Addr} {o : HO}
theorem ObjOk.lt (x : ObjOk P w H h a o) : a < h.objs.size := by
  cases o with
  | lst xs => obtain ⟨_, _, _, _, e⟩ := x; exact Heap.lt_size e
  | tup xs => obtain ⟨_, _, _, p⟩ := x; exact p.lt
  | dK kvs => obtain ⟨_, _, _, _, o, _, _, e, _⟩ := x; exact Heap.lt_size e
  | dT kvs => obtain ⟨_, _, _, _, o, _, _, e, _⟩ := x; exact Heap.lt_size e
  | set S n => obtain ⟨o, _, _, _, e, _⟩ := x; exact Heap.lt_size e
  | ins C dx fs => obtain ⟨_, _, _, e, _⟩ := x; exact Heap.lt_size e
  | own y => obtain ⟨_, e⟩ := x; exact Heap.lt_size e
  | xd fs => obtain ⟨_, ⟨_, _, _, e, _⟩, _⟩ := x; exact Heap.lt_size e
  | rng lo hi => obtain ⟨_, _, _, e⟩ := x; exact Heap.lt_size e
  | frz ob u => obtain ⟨e, _⟩ := x; exact Heap.lt_size e
  | tbl ps => exact Heap.lt_size (show h.get? a = some _ from x)
  | met f y => exact Heap.lt_size (show h.get? a = some _ from x)
  | ext φ => obtain ⟨_, ⟨_, e⟩, _⟩ := x; exact Heap.lt_size e
theorem Paired.mapP {α β : Type} {F G : α → β → Prop} : ∀ {l₁ : List α} {l₂ : List β}, Paired F l₁ l₂ → (∀ a b, F a b → G a b) → Paired G l₁ l₂
  | _, _, .nil, _ => .nil
  | _, _, .cons r t, f => .cons (f _ _ r) (Paired.mapP t f)
theorem ObjOk.stay (x : ObjOk P w H h a o) (k : ∀ b u, (b = a ∨ H b = some (.own a)) → h.get? b = some u → h'.get? b = some u)
    (ho : ∀ b, H b = some (.own a) → H' b = some (.own a)) (ht : ∀ b xs, H b = some (.tup xs) → H' b = some (.tup xs)) : ObjOk P w H' h' a o := by
  induction o with
  | lst xs => obtain ⟨z, its, n, r, e⟩ := x; exact ⟨z, its, n, r, k _ _ (.inl rfl) e⟩
  | tup xs => obtain ⟨z, its, r, ob, e, c⟩ := x; exact ⟨z, its, r, ob, k _ _ (.inl rfl) e, c⟩
  | dK kvs => obtain ⟨z, y, vs, r, ob, es, ep, e, c⟩ := x; exact ⟨z, y, vs, r, ob, es, ep, k _ _ (.inl rfl) e, c⟩
  | dT kvs =>
    obtain ⟨z, y, xs, r, ob, es, ep, e, c⟩ := x
    exact ⟨z, y, xs, Paired.mapP r fun p q z => ⟨z.1, ht _ _ z.2.1, z.2.2⟩, ob, es, ep, k _ _ (.inl rfl) e, c⟩
  | set S n => obtain ⟨ob, es, ep, t, e, c⟩ := x; exact ⟨ob, es, ep, t, k _ _ (.inl rfl) e, c⟩
  | ins C dx fs =>
    obtain ⟨d, z, ne, e, mA, ⟨od, es, ep, e2, c⟩, r⟩ := x
    exact ⟨ho _ d, z, ne, k _ _ (.inl rfl) e, mA, ⟨od, es, ep, k _ _ (.inr d) e2, c⟩, r⟩
  | own y => obtain ⟨ob, e⟩ := x; exact ⟨ob, k _ _ (.inl rfl) e⟩
  | xd fs => obtain ⟨mA, ⟨od, es, ep, e, c⟩, r⟩ := x; exact ⟨mA, ⟨od, es, ep, k _ _ (.inl rfl) e, c⟩, r⟩
  | rng lo hi => obtain ⟨t, u, v, e⟩ := x; exact ⟨t, u, v, k _ _ (.inl rfl) e⟩
  | frz ob u ih => obtain ⟨e, q⟩ := x; exact ⟨k _ _ (.inl rfl) e, ih q⟩
  | tbl ps =>
    have e : h.get? a = some { cls := .none, data := .fields ps } := x
    show h'.get? a = some { cls := .none, data := .fields ps }
    exact k a _ (.inl rfl) e
  | met f y =>
    have e : h.get? a = some (PySem.W.methodObj (.ref f) (.ref y)) := x
    show h'.get? a = some (PySem.W.methodObj (.ref f) (.ref y))
    exact k a _ (.inl rfl) e
  | ext φ => obtain ⟨p, ⟨o, e⟩, st⟩ := x; exact ⟨st _ _ p fun o q => k _ _ (.inl rfl) q, ⟨o, k _ _ (.inl rfl) e⟩, st⟩
theorem HOk.lt (x : HOk P w H h) (e : H a = some o) : a < h.objs.size := (x a o e).lt
theorem HOk.fresh (x : HOk P w H h) (e : h.objs.size ≤ a) : H a = none := by
  cases q : H a with
  | none => rfl
  | some u => exact absurd (Nat.lt_of_lt_of_le (x.lt q) e) (Nat.lt_irrefl _)
theorem HOk.kept (x : HOk P w H h) (k : ∀ b u, h.get? b = some u → h'.get? b = some u) : HOk P w H h' := fun a o e =>
  (x a o e).stay (fun b u _ q => k b u q) (fun _ q => q) fun _ _ q => q
theorem HOk.laid (x : HOk P w H h) (k : ∀ b u, h.get? b = some u → h'.get? b = some u) (hp : h.objs.size ≤ a) (new : ObjOk P w (upd H a o) h' a o) : HOk P w (upd H a o) h' := fun b u e => by
  have hn := x.fresh hp
  by_cases hb : b = a
  · subst hb; rw [upd_same] at e; cases e; exact new
  · rw [upd_ne hb] at e
    exact (x b u e).stay (fun c v _ q => k c v q) (fun c q => by rw [upd_ne (ne_of_none q hn)]; exact q) fun c xs q => by rw [upd_ne (ne_of_none q hn)]; exact q
end

def Rd (H : Hp) (a : Addr) (u : HO) : Prop := H a = some u ∨ ∃ o, H a = some (.frz o u)
theorem Rd.of {H : Hp} {a : Addr} {u : HO} (h : H a = some u) : Rd H a u := .inl h
theorem Rd.ok {P : Program} {w : World} {H : Hp} {h : Heap} {a : Addr} {u : HO} (r : Rd H a u) (x : HOk P w H h) : ObjOk P w H h a u := by
  rcases r with r | ⟨o, r⟩
  · exact x a u r
  · obtain ⟨_, q⟩ := x a _ r
    exact q
def Mut : Option HO → Prop
  | some (.lst _) => True
  | some (.dK _) => True
  | some (.dT _) => True
  | some (.set _ _) => True
  | some (.ins _ _ _) => True
  | some (.ext _) => True
  | _ => False
section
variable {P : Program} {w : World} {H : Hp} {h h' : Heap} {x e : Addr} {o' : HO}
theorem HOk.write (ok : HOk P w H h) (mu : Mut (H x)) (he : e = x ∨ H e = some (.own x)) (k : ∀ b u, b ≠ e → h.get? b = some u → h'.get? b = some u) (heo : ∃ u, h'.get? e = some u)
    (new : ObjOk P w (upd H x o') h' x o') : HOk P w (upd H x o') h' := fun b u q => by
  have nown : ∀ c y, H c = some (.own y) → c ≠ x := fun c y r z => by subst z; rw [r] at mu; exact mu
  have ntup : ∀ c xs, H c = some (.tup xs) → c ≠ x := fun c xs r z => by subst z; rw [r] at mu; exact mu
  by_cases hb : b = x
  · subst hb; rw [upd_same] at q; cases q; exact new
  · rw [upd_ne hb] at q
    by_cases hbe : b = e
    · have q' : H b = some (.own x) := by
        rcases he with z | z
        · exact absurd (hbe.trans z) hb
        · rw [hbe]; exact z
      rw [q] at q'; cases q'
      obtain ⟨v, hv⟩ := heo
      exact ⟨v, by rw [hbe]; exact hv⟩
    · refine (ok b u q).stay (fun c v hc r => k c v ?_ r) (fun c r => by rw [upd_ne (nown c b r)]; exact r) fun c xs r => by rw [upd_ne (ntup c xs r)]; exact r
      rcases hc with rfl | hc
      · exact hbe
      · rintro rfl
        rcases he with z | z
        · exact nown c b hc z
        · rw [hc] at z; cases z; exact hb rfl
end

structure Un (fs ex : List Addr) (H H' : Hp) (h h' : Heap) : Prop where
  keep : ∀ b o, h.get? b = some o → H b = none → b ∉ fs → b ∉ ex → h'.get? b = some o
  slot : ∀ b o, h.get? b = some o → H b = none → b ∈ fs → b ∉ ex → ∃ sl, h'.get? b = some { o with slots := sl }
  free : ∀ b o, h.get? b = some o → H b = none → b ∉ ex → H' b = none
  there : ∀ b o, h.get? b = some o → b ∉ ex → ∃ o', h'.get? b = some o'
  tups : ∀ b xs, H b = some (.tup xs) → H' b = some (.tup xs)
  frzs : ∀ b o u, H b = some (.frz o u) → H' b = some (.frz o u)
  tbls : ∀ b ps, H b = some (.tbl ps) → ∃ more, H' b = some (.tbl (ps ++ more))
section
variable {fs fs' ex ex' : List Addr} {H H1 H2 : Hp} {h h1 h2 h' : Heap} {a x e : Addr} {o : HO}
theorem Un.any (u : Un fs ex H H1 h h1) {b : Addr} {ob : Obj} (q : h.get? b = some ob) (n : H b = none) (hx : b ∉ ex) : ∃ sl, h1.get? b = some { ob with slots := sl } := by
  by_cases hb : b ∈ fs
  · exact u.slot b ob q n hb hx
  · exact ⟨ob.slots, u.keep b ob q n hb hx⟩
theorem Un.trans (a : Un fs ex H H1 h h1) (b : Un fs ex H1 H2 h1 h2) : Un fs ex H H2 h h2 where
  keep := fun c ob q n hc hx => b.keep c ob (a.keep c ob q n hc hx) (a.free c ob q n hx) hc hx
  slot := fun c ob q n hc hx => by
    obtain ⟨sl, e1⟩ := a.slot c ob q n hc hx
    obtain ⟨sl', e2⟩ := b.slot c _ e1 (a.free c ob q n hx) hc hx
    exact ⟨sl', e2⟩
  free := fun c ob q n hx => by
    obtain ⟨o', e1⟩ := a.there c ob q hx
    exact b.free c o' e1 (a.free c ob q n hx) hx
  there := fun c ob q hx => by
    obtain ⟨o', e1⟩ := a.there c ob q hx
    exact b.there c o' e1 hx
  tups := fun c xs q => b.tups c xs (a.tups c xs q)
  frzs := fun c ob xs q => b.frzs c ob xs (a.frzs c ob xs q)
  tbls := fun c ps q => by
    obtain ⟨m1, e1⟩ := a.tbls c ps q
    obtain ⟨m2, e2⟩ := b.tbls c _ e1
    exact ⟨m1 ++ m2, by rw [e2, Array.append_assoc]⟩
theorem Un.kept (k : ∀ b u, h.get? b = some u → h'.get? b = some u) : Un fs ex H H h h' :=
  ⟨fun b ob q _ _ _ => k b ob q, fun b ob q _ _ _ => ⟨ob.slots, k b ob q⟩, fun _ _ _ n _ => n, fun b ob q _ => ⟨ob, k b ob q⟩, fun _ _ q => q, fun _ _ _ q => q, fun _ ps q => ⟨#[], by rw [q]; simp⟩⟩
theorem Un.refl : Un fs ex H H h h := Un.kept fun _ _ q => q
theorem Un.laid (k : ∀ b u, h.get? b = some u → h'.get? b = some u) (hp : h.objs.size ≤ a) (hn : H a = none) : Un fs ex H (upd H a o) h h' where
  keep := fun b u q _ _ _ => k b u q
  slot := fun b u q _ _ _ => ⟨u.slots, k b u q⟩
  free := fun b u q n _ => by rw [upd_ne (Nat.ne_of_lt (Nat.lt_of_lt_of_le (Heap.lt_size q) hp))]; exact n
  there := fun b u q _ => ⟨u, k b u q⟩
  tups := fun b xs q => by rw [upd_ne (ne_of_none q hn)]; exact q
  frzs := fun b u xs q => by rw [upd_ne (ne_of_none q hn)]; exact q
  tbls := fun b ps q => ⟨#[], by rw [upd_ne (ne_of_none q hn), q]; simp⟩
theorem Un.write (mu : Mut (H x)) (he : e = x ∨ H e = some (.own x)) (k : ∀ b u, b ≠ e → h.get? b = some u → h'.get? b = some u) (heo : ∃ u, h'.get? e = some u) : Un fs ex H (upd H x o) h h' := by
  have hx : ∀ b, H b = none → b ≠ x := fun b n z => by subst z; rw [n] at mu; exact mu
  have hb : ∀ b, H b = none → b ≠ e := fun b n z => by
    subst z
    rcases he with r | r
    · exact hx b n r
    · rw [n] at r; cases r
  have hm : ∀ b u, H b = some u → ¬ Mut (some u) → b ≠ x := fun b u q nm z => by subst z; rw [q] at mu; exact nm mu
  refine ⟨fun b u q n _ _ => k b u (hb b n) q, fun b u q n _ _ => ⟨u.slots, k b u (hb b n) q⟩, fun b u q n _ => by rw [upd_ne (hx b n)]; exact n, fun b u q _ => ?_,
    fun b xs q => by rw [upd_ne (hm b _ q fun z => z)]; exact q, fun b u xs q => by rw [upd_ne (hm b _ q fun z => z)]; exact q, fun b ps q => ⟨#[], by rw [upd_ne (hm b _ q fun z => z), q]; simp⟩⟩
  by_cases hbe : b = e
  · subst hbe; exact heo
  · exact ⟨u, k b u hbe q⟩
theorem Un.mono (u : Un fs ex H H1 h h1) (hs : ∀ b ∈ fs, b ∈ fs') (hx : ∀ b ∈ ex, b ∈ ex') : Un fs' ex' H H1 h h1 :=
  ⟨fun b ob q n hb he => u.keep b ob q n (fun z => hb (hs b z)) fun z => he (hx b z), fun _ _ q n _ he => u.any q n fun z => he (hx _ z), fun b ob q n he => u.free b ob q n fun z => he (hx b z), fun b ob q he => u.there b ob q fun z => he (hx b z), u.tups, u.frzs, u.tbls⟩
end

def trk (h : Heap) (H : Hp) : List Addr := (List.range h.objs.size).filter fun a => (H a).isSome
def hidT (h : Heap) (H : Hp) : Heap := PySem.W.hideAll h (trk h H)
theorem hidT_size (h : Heap) (H : Hp) : (hidT h H).objs.size = h.objs.size := PySem.W.hideAll_size _ _
theorem hidT_get {h : Heap} {H : Hp} {b : Addr} {o : Obj} (e : h.get? b = some o) (n : H b = none) : (hidT h H).get? b = some o :=
  PySem.W.hideAll_get _ e fun hm => by
    have q : (H b).isSome = true := (List.mem_filter.mp hm).2
    rw [n] at q; simp at q
theorem of_hidT {h : Heap} {H : Hp} {b : Addr} {o : Obj} (e : (hidT h H).get? b = some o) : h.get? b = some o ∧ H b = none := by
  have e' : h.get? b = some o := PySem.W.of_hideAll (trk h H) e
  refine ⟨e', ?_⟩
  cases q : H b with
  | none => rfl
  | some x =>
    have hm : b ∈ trk h H := List.mem_filter.mpr ⟨List.mem_range.mpr (Heap.lt_size e'), by simp [q]⟩
    have z : (hidT h H).get? b = none := PySem.W.hideAll_none (trk h H) hm
    rw [z] at e; cases e

def allNews (g h : Heap) (L : Addr) : List (Addr × Obj) := (List.range h.objs.size).filterMap fun a => if a = L ∨ (g.get? a).isSome = true then none else (h.get? a).map fun o => (a, o)
def rest (g h : Heap) (L d : Addr) : List (Addr × Obj) := (allNews g h L).filter fun p => decide (p.1 ≠ d)
end L2

namespace L2
open PySem PySem.Spec PyProof.Rows

structure Mod (K : PySem.W.Frag) (mg : Str → Option Value) (base : Heap) : Prop where
  kin : K.In base
  glob : base.Ns mainGlobals mg
  blt : ∃ mb, base.Ns builtinsNs mb ∧ ∀ x : Str, x ≠ "__name__" → mb x = bootBuiltins x
  nolimit : base.NoLimit

structure Cx where
  prog : Program
  w : World
  K : PySem.W.Frag
  mg : Str → Option Value
  base : Heap
  A : Around
  N : List Str
  s_0 : Shared
  H_0 : Hp
  env : Env
  outer : List Env
  stack : List Env
  ex : List Addr
  fn : Str → Bool
  calm : Bool
  pn : List (Addr × Obj)
  xe : Value → Shared → Prop
def frs (l : List Env) : List Addr := l.filterMap (·.frame)
abbrev Cx.fs (X : Cx) : List Addr := frs X.outer

def Vis (sc : Scope) (x : Str) : Prop := sc.names.lookup x = some .local ∨ sc.names.lookup x = some .cell ∨ sc.names.lookup x = some .free
def Loc (sc : Scope) (x : Str) : Prop := sc.names.lookup x = some .local ∨ sc.names.lookup x = some .cell
def Look (env : Env) (h : Heap) (m : Str → Option Value) (x : Str) (u : Value) : Prop :=
  (env.kindOf x = some .local ∧ m x = some u) ∨ ((env.kindOf x = some .cell ∨ env.kindOf x = some .free) ∧ ∃ c, env.cells.lookup x = some c ∧ h.IsCell c (some u))

structure Cx.Ok (X : Cx) : Prop where
  mod : Mod X.K X.mg X.base
  kind : X.env.scope.kind = .function
  glob : X.env.globals = mainGlobals
  blt : X.env.builtins = builtinsNs
  above : X.s_0.heap.objs.size ≤ X.env.locals
  inj : ∀ x y c, X.env.cells.lookup x = some c → X.env.cells.lookup y = some c → x = y
  has : ∀ x, (X.env.kindOf x = some .cell ∨ X.env.kindOf x = some .free) → ∃ c, X.env.cells.lookup x = some c
  cab : ∀ x c, X.fn x = true → X.env.cells.lookup x = some c → X.s_0.heap.objs.size ≤ c
  hd : X.calm = true → X.A.handled = none
  frames : X.A.frames = some X.stack
  stk : X.stack = X.outer ∨ (X.stack = X.env :: X.outer ∧ X.env.frame = some X.env.locals)
  exf : ∀ b ∈ X.ex, b ≠ X.env.locals ∧ ∀ x c, X.env.cells.lookup x = some c → c ≠ b
  bs : ∀ b o, X.base.get? b = some o → X.s_0.heap.get? b = some o ∧ X.H_0 b = none
  bsz : X.base.objs.size ≤ X.s_0.heap.objs.size
  noex : ∀ b o, X.base.get? b = some o → b ∉ X.ex
  exfs : ∀ b ∈ X.ex, b ∉ X.fs
  funs : X.s_0.heap.FunFrames X.base X.outer
  frf : ∀ b ∈ X.fs, X.H_0 b = none

structure Inv (X : Cx) (pins : List (Addr × Obj)) (σ : List (Option V)) (H : Hp) (s : Shared) : Prop where
  ok : X.Ok
  os : s.os = X.s_0.os
  bare : AllBare s.gens
  base : Un X.fs X.ex X.H_0 H X.s_0.heap s.heap
  loc : ∃ m, s.heap.Ns X.env.locals m ∧ ∀ (i : Nat) (x : Str) (v : V), X.N[i]? = some x → σ[i]? = some (some v) → Vis X.env.scope x → ∃ u, RelV v u ∧ Look X.env s.heap m x u
  cell : ∀ x c, X.env.cells.lookup x = some c → ∃ v, s.heap.IsCell c v
  free : H X.env.locals = none
  freeC : ∀ x c, X.env.cells.lookup x = some c → H c = none
  pin : ∀ p ∈ X.pn ++ pins, s.heap.get? p.1 = some p.2 ∧ H p.1 = none ∧ p.1 ≠ X.env.locals ∧ p.1 ∉ X.fs ∧ ∀ v, p.2.data ≠ .cell v
  hok : HOk X.prog X.w H s.heap
  len : σ.length = X.N.length

section
variable {X : Cx} {pins : List (Addr × Obj)} {σ : List (Option V)} {H H' : Hp} {s : Shared} {h' : Heap}

theorem Cx.Ok.nofr (ok : X.Ok) {b : Addr} {o : Obj} (e : X.base.get? b = some o) : b ∉ X.fs := fun hb => by
  have := (ok.funs.mem hb).1
  rw [e] at this; cases this
theorem Inv.bs (I : Inv X pins σ H s) : ∀ b o, X.base.get? b = some o → s.heap.get? b = some o ∧ H b = none := fun b o e =>
  ⟨I.base.keep b o (I.ok.bs b o e).1 (I.ok.bs b o e).2 (I.ok.nofr e) (I.ok.noex b o e), I.base.free b o (I.ok.bs b o e).1 (I.ok.bs b o e).2 (I.ok.noex b o e)⟩
theorem Inv.bk (I : Inv X pins σ H s) : ∀ b o, X.base.get? b = some o → s.heap.get? b = some o := fun b o e => (I.bs b o e).1
theorem Inv.mod (I : Inv X pins σ H s) : Mod X.K X.mg X.base := I.ok.mod
theorem Inv.kIn (I : Inv X pins σ H s) : X.K.In s.heap := I.ok.mod.kin.keeps I.bk
theorem Inv.nolimit (I : Inv X pins σ H s) : s.heap.NoLimit := I.ok.mod.nolimit.keeps I.bk
theorem Inv.lt (I : Inv X pins σ H s) : X.env.locals < s.heap.objs.size := let ⟨_, hn, _⟩ := I.loc; hn.lt
theorem Inv.sz (I : Inv X pins σ H s) : X.s_0.heap.objs.size ≤ s.heap.objs.size := Nat.le_trans I.ok.above (Nat.le_of_lt I.lt)
theorem Inv.nofs (I : Inv X pins σ H s) {a : Addr} (h : s.heap.objs.size ≤ a) : a ∉ X.fs := fun hb => by
  obtain ⟨_, o, ho, _⟩ := I.ok.funs.mem hb
  exact absurd (Nat.lt_of_lt_of_le (Heap.lt_size ho) (Nat.le_trans I.sz h)) (Nat.lt_irrefl _)
theorem Inv.cne (I : Inv X pins σ H s) : ∀ x c, X.env.cells.lookup x = some c → c ≠ X.env.locals := fun x c e z => by
  obtain ⟨v, o, ho, hd⟩ := I.cell x c e
  obtain ⟨m, ⟨o', es, ep, ho', hd', _⟩, _⟩ := I.loc
  rw [z, ho'] at ho; cases ho; rw [hd'] at hd; cases hd
theorem Inv.funs (I : Inv X pins σ H s) : s.heap.FunFrames X.base X.outer := by
  have all : ∀ (l : List Env), (∀ b ∈ frs l, b ∈ X.fs) → X.s_0.heap.FunFrames X.base l → s.heap.FunFrames X.base l := by
    intro l
    induction l with
    | nil => intro _ _; trivial
    | cons env r ih =>
      intro hs hl
      obtain ⟨hk, ⟨L, o, hf, hn, ho, hd⟩, hr⟩ := hl
      have hL : L ∈ X.fs := hs L (by unfold frs; rw [List.filterMap_cons, hf]; exact List.mem_cons_self)
      obtain ⟨sl, e⟩ := I.base.slot L o ho (I.ok.frf L hL) hL fun z => I.ok.exfs L z hL
      exact ⟨hk, ⟨L, _, hf, hn, e, hd⟩, ih (fun b hb => hs b (by unfold frs; rw [List.filterMap_cons, hf]; exact List.mem_cons_of_mem _ hb)) hr⟩
  exact all X.outer (fun _ hb => hb) I.ok.funs

theorem Inv.stack (I : Inv X pins σ H s) : s.heap.FunFrames X.base X.stack := by
  rcases I.ok.stk with e | ⟨e, hf⟩
  · rw [e]; exact I.funs
  · rw [e]
    obtain ⟨m, hn, _⟩ := I.loc
    refine .cons (by rw [I.ok.kind]; decide) hf hn ?_ I.funs
    exact Heap.get?_none_of_le (Nat.le_trans I.ok.bsz I.ok.above)
theorem Inv.stkSub (I : Inv X pins σ H s) : ∀ b ∈ frs X.stack, b ∈ X.env.locals :: X.fs := fun b hb => by
  rcases I.ok.stk with e | ⟨e, hf⟩
  · rw [e] at hb; exact List.mem_cons_of_mem _ hb
  · rw [e] at hb
    unfold frs at hb
    rw [List.filterMap_cons, hf] at hb
    exact hb
theorem Inv.stkFree (I : Inv X pins σ H s) : ∀ b ∈ frs X.stack, H b = none := fun b hb => by
  rcases List.mem_cons.mp (I.stkSub b hb) with e | hb
  · rw [e]; exact I.free
  · obtain ⟨_, o, ho, _⟩ := I.ok.funs.mem hb
    exact I.base.free b o ho (I.ok.frf b hb) fun z => I.ok.exfs b z hb

theorem Inv.step {g' : Array GenState} {t' : Nat} {d' : Drawn} {ch : List Addr} (I : Inv X pins σ H s)
    (hch : ∀ b ∈ ch, (b ∈ X.ex ∨ X.s_0.heap.objs.size ≤ b) ∧ b ≠ X.env.locals ∧ (∀ x c, X.env.cells.lookup x = some c → c ≠ b) ∧ ∀ p ∈ X.pn ++ pins, p.1 ≠ b)
    (keep : ∀ b o, b ≠ X.env.locals → b ∉ X.fs → b ∉ ch → s.heap.get? b = some o → H b = none → h'.get? b = some o)
    (slot : ∀ b o, b ≠ X.env.locals → b ∈ X.fs → b ∉ ch → s.heap.get? b = some o → H b = none → ∃ sl, h'.get? b = some { o with slots := sl }) (free : ∀ b o, b ∉ ch → s.heap.get? b = some o → H b = none → H' b = none)
    (there : ∀ b o, b ∉ ch → s.heap.get? b = some o → ∃ o', h'.get? b = some o')
    (tups : ∀ b xs, H b = some (.tup xs) → H' b = some (.tup xs)) (frzs : ∀ b o u, H b = some (.frz o u) → H' b = some (.frz o u)) (tbls : ∀ b ps, H b = some (.tbl ps) → ∃ more, H' b = some (.tbl (ps ++ more)))
    (ns : ∀ m, s.heap.Ns X.env.locals m → h'.Ns X.env.locals m) (hok : HOk X.prog X.w H' h') (hg : AllBare g') :
    Inv X pins σ H' { s with heap := h', gens := g', drawn := d', toks := t' } := by
  have neL : ∀ b o, X.s_0.heap.get? b = some o → b ≠ X.env.locals := fun b o e => Nat.ne_of_lt (Nat.lt_of_lt_of_le (Heap.lt_size e) I.ok.above)
  have neC : ∀ b o, X.s_0.heap.get? b = some o → b ∉ X.ex → b ∉ ch := fun b o e hx hb => by
    rcases (hch b hb).1 with z | z
    · exact hx z
    · exact absurd (Nat.lt_of_lt_of_le (Heap.lt_size e) z) (Nat.lt_irrefl _)
  have cellK : ∀ x c, X.env.cells.lookup x = some c → ∀ v, s.heap.IsCell c v → h'.IsCell c v := fun x c e v ⟨o, ho, hd⟩ => by
    have nch : c ∉ ch := fun z => (hch c z).2.2.1 x c e rfl
    by_cases hc : c ∈ X.fs
    · obtain ⟨sl, q⟩ := slot c o (I.cne x c e) hc nch ho (I.freeC x c e)
      exact ⟨_, q, hd⟩
    · exact ⟨o, keep c o (I.cne x c e) hc nch ho (I.freeC x c e), hd⟩
  refine ⟨I.ok, I.os, hg, ⟨fun b o e n hb hx => ?_, fun b o e n hb hx => ?_, fun b o e n hx => ?_, fun b o e hx => ?_, fun b xs e => tups b xs (I.base.tups b xs e), fun b o xs e => frzs b o xs (I.base.frzs b o xs e), fun b ps e => ?_⟩, ?_, fun x c e => ?_, ?_, fun x c e => ?_, fun p hp => ?_, hok, I.len⟩
  · exact keep b o (neL b o e) hb (neC b o e hx) (I.base.keep b o e n hb hx) (I.base.free b o e n hx)
  · obtain ⟨sl, e1⟩ := I.base.slot b o e n hb hx
    obtain ⟨sl', e2⟩ := slot b _ (neL b o e) hb (neC b o e hx) e1 (I.base.free b o e n hx)
    exact ⟨sl', e2⟩
  · obtain ⟨o', e1⟩ := I.base.there b o e hx
    exact free b o' (neC b o e hx) e1 (I.base.free b o e n hx)
  · obtain ⟨o', e1⟩ := I.base.there b o e hx
    exact there b o' (neC b o e hx) e1
  · obtain ⟨m1, e1⟩ := I.base.tbls b ps e
    obtain ⟨m2, e2⟩ := tbls b _ e1
    exact ⟨m1 ++ m2, by rw [e2, Array.append_assoc]⟩
  · obtain ⟨m, hn, hl⟩ := I.loc
    refine ⟨m, ns m hn, fun i x v e1 e2 e3 => ?_⟩
    obtain ⟨u, r, l⟩ := hl i x v e1 e2 e3
    refine ⟨u, r, ?_⟩
    rcases l with l | ⟨k, c, e, z⟩
    · exact .inl l
    · exact .inr ⟨k, c, e, cellK x c e _ z⟩
  · obtain ⟨v, z⟩ := I.cell x c e
    exact ⟨v, cellK x c e v z⟩
  · obtain ⟨m, ⟨o, _, _, ho, _⟩, _⟩ := I.loc
    exact free _ o (fun z => (hch _ z).2.1 rfl) ho I.free
  · obtain ⟨v, o, ho, hd⟩ := I.cell x c e
    exact free c o (fun z => (hch c z).2.2.1 x c e rfl) ho (I.freeC x c e)
  · obtain ⟨e, n, ne, nf, d⟩ := I.pin p hp
    have nch : p.1 ∉ ch := fun z => (hch p.1 z).2.2.2 p hp rfl
    exact ⟨keep p.1 p.2 ne nf nch e n, free p.1 p.2 nch e n, ne, nf, d⟩
theorem Inv.un {t' : Nat} (I : Inv X pins σ H s) (u : Un X.fs [] H H' s.heap h') (hok : HOk X.prog X.w H' h') : Inv X pins σ H' { s with heap := h', toks := t' } := by
  obtain ⟨m, ⟨o, es, ep, ho, r⟩, _⟩ := id I.loc
  obtain ⟨sl, hL⟩ := u.any ho I.free (by simp)
  exact I.step (g' := s.gens) (d' := s.drawn) (ch := []) (fun _ z => nomatch z) (fun b o _ hb _ e n => u.keep b o e n hb (by simp)) (fun b o _ hb _ e n => u.slot b o e n hb (by simp)) (fun b o _ e n => u.free b o e n (by simp)) (fun b o _ e => u.there b o e (by simp)) u.tups u.frzs u.tbls (fun m' hm => by
    obtain ⟨o', es', ep', ho', r'⟩ := hm
    rw [ho] at ho'; cases ho'
    exact ⟨_, es', ep', hL, r'⟩) hok I.bare
theorem Inv.call {g' : Array GenState} {t' : Nat} {d' : Drawn} {ch : List Addr} (I : Inv X pins σ H s) (u : Un (frs X.stack) ch H H' s.heap h') (hok : HOk X.prog X.w H' h') (hg : AllBare g')
    (hch : ∀ b ∈ ch, (b ∈ X.ex ∨ X.s_0.heap.objs.size ≤ b) ∧ b ≠ X.env.locals ∧ (∀ x c, X.env.cells.lookup x = some c → c ≠ b) ∧ ∀ p ∈ X.pn ++ pins, p.1 ≠ b) :
    Inv X pins σ H' { s with heap := h', gens := g', drawn := d', toks := t' } := by
  obtain ⟨m, ⟨o, es, ep, ho, r⟩, _⟩ := id I.loc
  obtain ⟨sl, hL⟩ := u.any ho I.free fun z => (hch _ z).2.1 rfl
  exact I.step (ch := ch) hch (fun b o hL hb hc e n => u.keep b o e n (fun z => (List.mem_cons.mp (I.stkSub b z)).elim hL hb) hc) (fun b o _ _ hc e n => u.any e n hc) (fun b o hc e n => u.free b o e n hc) (fun b o hc e => u.there b o e hc) u.tups u.frzs u.tbls (fun m' hm => by
    obtain ⟨o', es', ep', ho', r'⟩ := hm
    rw [ho] at ho'; cases ho'
    exact ⟨_, es', ep', hL, r'⟩) hok hg
theorem Inv.turned {t' : Nat} {it : Addr} (I : Inv X pins σ H s) (k : ∀ b o, b ≠ it → s.heap.get? b = some o → h'.get? b = some o) (hn : H it = none) (hL : it ≠ X.env.locals)
    (h1 : it ∈ X.ex ∨ X.s_0.heap.objs.size ≤ it) (h2 : ∀ x c, X.env.cells.lookup x = some c → c ≠ it) (h3 : ∀ p ∈ X.pn ++ pins, p.1 ≠ it) : Inv X pins σ H { s with heap := h', toks := t' } := by
  have nit : ∀ b u, H b = some u → b ≠ it := fun b u e z => by rw [z, hn] at e; cases e
  refine I.step (g' := s.gens) (d' := s.drawn) (ch := [it]) (fun b hb => ?_) (fun b o _ _ hc e _ => k b o (fun z => hc (by simp [z])) e) (fun b o _ _ hc e _ => ⟨o.slots, k b o (fun z => hc (by simp [z])) e⟩) (fun _ _ _ _ n => n)
    (fun b o hc e => ⟨o, k b o (fun z => hc (by simp [z])) e⟩) (fun _ _ e => e) (fun _ _ _ e => e) (fun b ps e => ⟨#[], by rw [e]; simp⟩) (fun m hm => ?_) (fun b u e => ?_) I.bare
  · have e : b = it := by simpa using hb
    subst e
    exact ⟨h1, hL, h2, h3⟩
  · obtain ⟨o, es, ep, ho, r⟩ := hm
    exact ⟨o, es, ep, k _ o (Ne.symm hL) ho, r⟩
  · refine (I.hok b u e).stay (fun c v hc q => k c v ?_ q) (fun _ q => q) fun _ _ q => q
    rcases hc with z | z
    · rw [z]; exact nit b u e
    · exact nit c _ z
theorem Inv.tok (I : Inv X pins σ H s) (t : Nat) : Inv X pins σ H { s with toks := t } := I.un (h' := s.heap) (t' := t) Un.refl I.hok
theorem Inv.kept {t' : Nat} (I : Inv X pins σ H s) (k : ∀ b u, s.heap.get? b = some u → h'.get? b = some u) : Inv X pins σ H { s with heap := h', toks := t' } := I.un (Un.kept k) (I.hok.kept k)
theorem Inv.laid {a : Addr} {o : HO} {t' : Nat} (I : Inv X pins σ H s) (k : ∀ b u, s.heap.get? b = some u → h'.get? b = some u) (hp : s.heap.objs.size ≤ a) (new : ObjOk X.prog X.w (upd H a o) h' a o) :
    Inv X pins σ (upd H a o) { s with heap := h', toks := t' } := I.un (Un.laid k hp (I.hok.fresh hp)) (I.hok.laid k hp new)
theorem Inv.write {x e : Addr} {o : HO} {t' : Nat} (I : Inv X pins σ H s) (mu : Mut (H x)) (he : e = x ∨ H e = some (.own x)) (k : ∀ b u, b ≠ e → s.heap.get? b = some u → h'.get? b = some u) (heo : ∃ u, h'.get? e = some u)
    (new : ObjOk X.prog X.w (upd H x o) h' x o) : Inv X pins σ (upd H x o) { s with heap := h', toks := t' } := I.un (Un.write mu he k heo) (I.hok.write mu he k heo new)
theorem Inv.weak {σ' : List (Option V)} (I : Inv X pins σ H s) (hl : σ'.length = σ.length) (w : ∀ (i : Nat) v, σ'[i]? = some (some v) → σ[i]? = some (some v)) : Inv X pins σ' H s :=
  ⟨I.ok, I.os, I.bare, I.base, let ⟨m, hn, hl'⟩ := I.loc; ⟨m, hn, fun i x v e1 e2 e3 => hl' i x v e1 (w i v e2) e3⟩, I.cell, I.free, I.freeC, I.pin, I.hok, hl.trans I.len⟩
theorem Inv.pins_of {pins' : List (Addr × Obj)} (I : Inv X pins σ H s) (h : ∀ p ∈ pins', s.heap.get? p.1 = some p.2 ∧ H p.1 = none ∧ p.1 ≠ X.env.locals ∧ p.1 ∉ X.fs ∧ ∀ v, p.2.data ≠ .cell v) : Inv X pins' σ H s :=
  ⟨I.ok, I.os, I.bare, I.base, I.loc, I.cell, I.free, I.freeC, fun p hp => (List.mem_append.mp hp).elim (fun z => I.pin p (List.mem_append_left _ z)) (h p), I.hok, I.len⟩

theorem nodup_ix {N : List Str} (hN : N.Nodup) {i j : Nat} {x : Str} (a : N[i]? = some x) (b : N[j]? = some x) : i = j := by
  obtain ⟨h1, e1⟩ := List.getElem?_eq_some_iff.mp a
  obtain ⟨h2, e2⟩ := List.getElem?_eq_some_iff.mp b
  exact (List.getElem_inj hN).mp (e1.trans e2.symm)

theorem store_ok2 {M : Model} {A : Around} {E : Value → Shared → Prop} {i : Nat} {x : Str} {v : V} {u : Value} {Q : Unit → Shared → Prop} (I : Inv X pins σ H s) (hN : X.N.Nodup) (hi : X.N[i]? = some x) (hx : Loc X.env.scope x) (r : RelV v u)
    (h : ∀ s', Inv X pins (σ.set i (some v)) H s' → (∃ a, Heap.SameBut a s.heap s'.heap ∧ (a = X.env.locals ∨ X.env.cells.lookup x = some a)) → Q () s') (hf : X.fn x = true ∨ X.env.scope.names.lookup x = some .local := by first | exact .inl rfl | exact .inr rfl | assumption) : wpAny M A (storeName X.env x u) Q E s := by
  obtain ⟨m, hn, hl⟩ := id I.loc
  have hcls : (X.env.scope.kind == .class || (X.env.scope.kind == .module && X.env.locals != X.env.globals)) = false := by rw [I.ok.kind]; rfl
  have hiσ : i < σ.length := by rw [I.len]; exact (List.getElem?_eq_some_iff.mp hi).1
  have cne := I.cne
  have tracked : ∀ {a : Addr} {h' : Heap}, (∃ o, s.heap.get? a = some o ∧ H a = none) → Heap.SameBut a s.heap h' → HOk X.prog X.w H h' := fun {a h'} ha hs b ob e => by
    obtain ⟨_, _, hfree⟩ := ha
    refine (I.hok b ob e).stay (fun c w' hc q => (hs.2 c ?_).trans q) (fun _ q => q) fun _ _ q => q
    rintro rfl
    rcases hc with rfl | hc
    · rw [hfree] at e; cases e
    · rw [hfree] at hc; cases hc
  rcases hx with hk | hk
  · refine wpAny_storeName_local hk hn (fun h' hn' hs => ?_) hcls
    obtain ⟨oL, _, _, hoL, _⟩ := id hn
    refine h _ ⟨I.ok, I.os, I.bare, ⟨fun b o e n hb hx => ?_, fun b o e n hb hx => ?_, I.base.free, fun b o e hx => ?_, I.base.tups, I.base.frzs, I.base.tbls⟩, ⟨_, hn', fun j y v' e1 e2 e3 => ?_⟩, fun y c e => ?_, I.free, I.freeC, fun p hp => ?_, tracked ⟨oL, hoL, I.free⟩ hs, by simpa using I.len⟩ ⟨_, hs, .inl rfl⟩
    · exact (hs.2 b (Nat.ne_of_lt (Nat.lt_of_lt_of_le (Heap.lt_size e) I.ok.above))).trans (I.base.keep b o e n hb hx)
    · obtain ⟨sl, e1⟩ := I.base.slot b o e n hb hx
      exact ⟨sl, (hs.2 b (Nat.ne_of_lt (Nat.lt_of_lt_of_le (Heap.lt_size e) I.ok.above))).trans e1⟩
    · obtain ⟨o', e1⟩ := I.base.there b o e hx
      exact ⟨o', (hs.2 b (Nat.ne_of_lt (Nat.lt_of_lt_of_le (Heap.lt_size e) I.ok.above))).trans e1⟩
    · by_cases hj : j = i
      · subst hj
        rw [hi] at e1; cases e1
        rw [List.getElem?_set_self hiσ] at e2
        cases e2
        exact ⟨u, r, .inl ⟨hk, by simp⟩⟩
      · rw [List.getElem?_set_ne (Ne.symm hj)] at e2
        obtain ⟨u', r', q⟩ := hl j y v' e1 e2 e3
        refine ⟨u', r', ?_⟩
        rcases q with ⟨k, e⟩ | ⟨k, c, e, z⟩
        · refine .inl ⟨k, ?_⟩
          have : y ≠ x := fun e => hj (nodup_ix hN e1 (e ▸ hi))
          simp [this, e]
        · exact .inr ⟨k, c, e, z.sameBut hs (cne y c e)⟩
    · obtain ⟨w', z⟩ := I.cell y c e
      exact ⟨w', z.sameBut hs (cne y c e)⟩
    · obtain ⟨e, n, ne, nf, d⟩ := I.pin p hp
      exact ⟨(hs.2 p.1 ne).trans e, n, ne, nf, d⟩
  · have hfn : X.fn x = true := by
      rcases hf with z | z
      · exact z
      · rw [z] at hk; cases hk
    obtain ⟨c, hc⟩ := I.ok.has x (.inl hk)
    obtain ⟨w', z⟩ := I.cell x c hc
    refine wpAny_storeName_cell I.ok.kind hk hc z (fun h' hc' hs => ?_)
    obtain ⟨oc, hoc, hocd⟩ := id z
    refine h { s with heap := h' } ⟨I.ok, I.os, I.bare, ⟨fun b o e n hb hx => ?_, fun b o e n hb hx => ?_, I.base.free, fun b o e hx => ?_, I.base.tups, I.base.frzs, I.base.tbls⟩, ⟨m, hn.sameBut hs (Ne.symm (cne x c hc)), fun j y v' e1 e2 e3 => ?_⟩, fun y c' e => ?_, I.free, I.freeC, fun p hp => ?_, tracked ⟨oc, hoc, I.freeC x c hc⟩ hs, by simpa using I.len⟩ ⟨c, hs, .inr hc⟩
    · exact (hs.2 b (Nat.ne_of_lt (Nat.lt_of_lt_of_le (Heap.lt_size e) (I.ok.cab x c hfn hc)))).trans (I.base.keep b o e n hb hx)
    · obtain ⟨sl, e1⟩ := I.base.slot b o e n hb hx
      exact ⟨sl, (hs.2 b (Nat.ne_of_lt (Nat.lt_of_lt_of_le (Heap.lt_size e) (I.ok.cab x c hfn hc)))).trans e1⟩
    · obtain ⟨o', e1⟩ := I.base.there b o e hx
      exact ⟨o', (hs.2 b (Nat.ne_of_lt (Nat.lt_of_lt_of_le (Heap.lt_size e) (I.ok.cab x c hfn hc)))).trans e1⟩
    · by_cases hj : j = i
      · subst hj
        rw [hi] at e1; cases e1
        rw [List.getElem?_set_self hiσ] at e2
        cases e2
        exact ⟨u, r, .inr ⟨.inl hk, c, hc, hc'⟩⟩
      · rw [List.getElem?_set_ne (Ne.symm hj)] at e2
        obtain ⟨u', r', q⟩ := hl j y v' e1 e2 e3
        refine ⟨u', r', ?_⟩
        rcases q with q | ⟨k, c', e, z'⟩
        · exact .inl q
        · refine .inr ⟨k, c', e, z'.sameBut hs ?_⟩
          rintro rfl
          exact hj (nodup_ix hN e1 (I.ok.inj _ _ _ e hc ▸ hi))
    · by_cases hcc : c' = c
      · subst hcc; exact ⟨_, hc'⟩
      · obtain ⟨w2, z2⟩ := I.cell y c' e
        exact ⟨w2, z2.sameBut hs hcc⟩
    · obtain ⟨e, n, ne, nf, d⟩ := I.pin p hp
      refine ⟨(hs.2 p.1 ?_).trans e, n, ne, nf, d⟩
      intro q
      rw [q, hoc] at e
      have q' : oc = p.2 := Option.some.inj e
      exact d w' (by rw [← q']; exact hocd)
theorem store_ok {M : Model} {A : Around} {E : Value → Shared → Prop} {i : Nat} {x : Str} {v : V} {u : Value} {Q : Unit → Shared → Prop} (I : Inv X pins σ H s) (hN : X.N.Nodup) (hi : X.N[i]? = some x) (hx : Loc X.env.scope x) (r : RelV v u)
    (h : ∀ s', Inv X pins (σ.set i (some v)) H s' → Q () s') (hf : X.fn x = true ∨ X.env.scope.names.lookup x = some .local := by first | exact .inl rfl | exact .inr rfl | assumption) : wpAny M A (storeName X.env x u) Q E s :=
  store_ok2 I hN hi hx r (fun s' I' _ => h s' I') hf
theorem Inv.call' {s' : Shared} {ch : List Addr} (I : Inv X pins σ H s) (ho : s'.os = s.os) (u : Un (frs X.stack) ch H H' s.heap s'.heap) (hok : HOk X.prog X.w H' s'.heap) (hg : AllBare s'.gens)
    (hch : ∀ b ∈ ch, (b ∈ X.ex ∨ X.s_0.heap.objs.size ≤ b) ∧ b ≠ X.env.locals ∧ (∀ x c, X.env.cells.lookup x = some c → c ≠ b) ∧ ∀ p ∈ X.pn ++ pins, p.1 ≠ b) : Inv X pins σ H' s' := by
  obtain ⟨h', g', d', t', o'⟩ := s'
  have e : o' = s.os := ho
  subst e
  exact I.call (g' := g') (t' := t') (d' := d') u hok hg hch
end

abbrev XK := Value → Option Addr → Hp → Prop
abbrev St := List (Option V)
abbrev VK := V → Hp → Prop
abbrev TE := St → Hp → VK → Prop
abbrev TT := St → Hp → (Bool → Hp → Prop) → Prop
abbrev TA := St → Hp → (List V → Hp → Prop) → Prop
structure Ends where
  nx : St → Hp → Prop
  rt : VK
  bk : St → Hp → Prop := fun _ _ => False
  ct : St → Hp → Prop := fun _ _ => False
abbrev TS := Ends → St → Hp → Prop

def EP (X : Cx) (pins : List (Addr × Obj)) (σ : St) (Q : VK) (u : Value) (s' : Shared) : Prop := ∃ v H', Inv X pins σ H' s' ∧ RelV v u ∧ Q v H'
def TP (X : Cx) (pins : List (Addr × Obj)) (σ : St) (Q : Bool → Hp → Prop) (b : Bool) (s' : Shared) : Prop := ∃ H', Inv X pins σ H' s' ∧ Q b H'
def AP (X : Cx) (pins : List (Addr × Obj)) (σ : St) (Q : List V → Hp → Prop) (us : List Value) (s' : Shared) : Prop := ∃ vs H', Inv X pins σ H' s' ∧ Vals vs us ∧ Q vs H'
def SP (X : Cx) (pins : List (Addr × Obj)) (D : Ends) (f : Flow) (s' : Shared) : Prop :=
  match f with
  | .next => ∃ σ' H', Inv X pins σ' H' s' ∧ D.nx σ' H'
  | .brk => ∃ σ' H', Inv X pins σ' H' s' ∧ D.bk σ' H'
  | .cont => ∃ σ' H', Inv X pins σ' H' s' ∧ D.ct σ' H'
  | .ret u => ∃ v σ' H', Inv X pins σ' H' s' ∧ RelV v u ∧ D.rt v H'

def PE (X : Cx) (e : Expr) (t : TE) : Prop :=
  ∀ (pins : List (Addr × Obj)) (s : Shared) (σ : St) (H : Hp) (Q : VK), Inv X pins σ H s → t σ H Q → wpAny (model X.prog X.w) X.A (eval e X.env) (EP X pins σ Q) X.xe s
def PT (X : Cx) (e : Expr) (t : TT) : Prop :=
  ∀ (pins : List (Addr × Obj)) (s : Shared) (σ : St) (H : Hp) (Q : Bool → Hp → Prop), Inv X pins σ H s → t σ H Q → wpAny (model X.prog X.w) X.A (isTrue e X.env (eval e X.env)) (TP X pins σ Q) X.xe s
def PW (X : Cx) (e : Expr) (t : TT) : Prop :=
  ∀ (whole : Sem Value) (pins : List (Addr × Obj)) (s : Shared) (σ : St) (H : Hp) (Q : Bool → Hp → Prop), Inv X pins σ H s → t σ H Q → wpAny (model X.prog X.w) X.A (isTrue e X.env whole) (TP X pins σ Q) X.xe s
theorem PW.pt {X : Cx} {e : Expr} {t : TT} (h : PW X e t) : PT X e t := h _
def PA (X : Cx) (es : List Expr) (t : TA) : Prop :=
  ∀ (pos : Pos) (pins : List (Addr × Obj)) (s : Shared) (σ : St) (H : Hp) (Q : List V → Hp → Prop), Inv X pins σ H s → t σ H Q → wpAny (model X.prog X.w) X.A (spliced (backTo pos (starEach es X.env))) (AP X pins σ Q) X.xe s
def PS (X : Cx) (st : Stmt) (t : TS) : Prop :=
  ∀ (pins : List (Addr × Obj)) (s : Shared) (σ : St) (H : Hp) (D : Ends), Inv X pins σ H s → t D σ H → wpAny (model X.prog X.w) X.A (exec st X.env) (SP X pins D) X.xe s
def PSs (X : Cx) (st : List Stmt) (t : TS) : Prop :=
  ∀ (pins : List (Addr × Obj)) (s : Shared) (σ : St) (H : Hp) (D : Ends), Inv X pins σ H s → t D σ H → wpAny (model X.prog X.w) X.A (execs st X.env) (SP X pins D) X.xe s
theorem thn {α : Type} {t : Sem α} {Q Q' : α → Shared → Prop} {M : Model} {A : Around} {E : Value → Shared → Prop} {s : Shared} (h : wpAny M A t Q E s) (hQ : ∀ a s, Q a s → Q' a s) : wpAny M A t Q' E s := wpAny_mono h hQ fun _ _ x => x
end L2

namespace L2
open PySem PySem.Spec PyProof.Rows
section
variable {X : Cx}

def tVar (i : Nat) : TE := fun σ H Q => ∃ v, σ[i]? = some (some v) ∧ Q v H
def tC (v : V) : TE := fun _ H Q => Q v H
theorem pe_var {i : Nat} {x : Str} {pos : Pos} (hN : X.N[i]? = some x) (hv : Vis X.env.scope x) (hd : (x == ("__debug__" : Str)) = false := by decide) (hcd : (x == ("__classdict__" : Str)) = false := by decide) : PE X (.Name x pos) (tVar i) := by
  intro pins s σ H Q I h
  obtain ⟨v, e, h⟩ := h
  obtain ⟨m, hn, hl⟩ := I.loc
  obtain ⟨u, r, l⟩ := hl i x v hN e hv
  have fin : EP X pins σ Q u s := ⟨v, H, I, r, h⟩
  rcases l with ⟨hk, hm⟩ | ⟨hk, c, hc, hcell⟩
  · exact wpAny_Name (wpAny_loadName_local I.ok.kind hk hn hm fin) hd
  · rcases hk with hk | hk
    · exact wpAny_Name (wpAny_loadName_cell I.ok.kind hk hc hcell fin) hd
    · exact wpAny_Name (wpAny_loadName_free I.ok.kind hk hc hcell fin hcd) hd
theorem pe_int {i j pos} : PE X (.Constant (.int i) j pos) (tC (.int i)) := fun _ _ _ H _ I h => wpAny_Constant_int ⟨.int i, H, I.tok _, ⟨_, rfl⟩, h⟩
theorem pe_non {j pos} : PE X (.Constant .none j pos) (tC .non) := fun _ _ _ H _ I h => Constant_none ⟨.non, H, I, rfl, h⟩
def Gl (X : Cx) (x : Str) : Prop := X.env.kindOf x = some .globalImplicit
theorem ld_glob {E : Value → Shared → Prop} {pins : List (Addr × Obj)} {s : Shared} {σ : St} {H : Hp} {x : Str} {u : Value} {pos : Pos} {Q : Value → Shared → Prop} (I : Inv X pins σ H s) (hg : Gl X x) (hm : X.mg x = some u) (h : Q u s)
    (hd : (x == ("__debug__" : Str)) = false := by decide) : wpAny (model X.prog X.w) X.A (eval (.Name x pos) X.env) Q E s :=
  Calls.Name_function_global I.ok.kind hg (Calls.loadGlobal_global (by rw [I.ok.glob]; exact I.mod.glob.keeps I.bk) hm h) hd
theorem ld_blt {E : Value → Shared → Prop} {pins : List (Addr × Obj)} {s : Shared} {σ : St} {H : Hp} {x : Str} {u : Value} {pos : Pos} {Q : Value → Shared → Prop} (I : Inv X pins σ H s) (hg : Gl X x) (hm : X.mg x = none) (hv : bootBuiltins x = some u) (h : Q u s)
    (hn : x ≠ "__name__" := by decide) (hd : (x == ("__debug__" : Str)) = false := by decide) : wpAny (model X.prog X.w) X.A (eval (.Name x pos) X.env) Q E s := by
  obtain ⟨mb, h1, h2⟩ := I.mod.blt
  exact Calls.Name_function_global I.ok.kind hg (Calls.loadGlobal_builtin (by rw [I.ok.glob]; exact I.mod.glob.keeps I.bk) hm (by rw [I.ok.blt]; exact h1.keeps I.bk) ((h2 x hn).trans hv) h) hd
theorem pe_glob {x : Str} {v : V} {u : Value} {pos : Pos} (hg : Gl X x) (hm : X.mg x = some u) (r : RelV v u) (hd : (x == ("__debug__" : Str)) = false := by decide) : PE X (.Name x pos) (tC v) :=
  fun _ _ _ H _ I h => ld_glob I hg hm ⟨v, H, I, r, h⟩ hd
variable {a b : Expr} {ta tb : TE} {pos : Pos}
def tB (t : TE) : TT := fun σ H Q => t σ H fun x H1 => ∃ c, x = .bl c ∧ Q c H1
theorem pt_val {e : Expr} {t : TE} (h : PE X e t) (he : ∀ whole, isTrue e X.env whole = (do let v ← whole; standAt e.pos; holding [v] (truthy v)) := by intro _; rfl) : PT X e (tB t) := by
  intro pins s σ H Q I hw
  refine isTrue_plain (thn (h pins s σ H _ I hw) fun v s1 ⟨x, H1, I1, r1, q1⟩ => ?_) (he _)
  obtain ⟨d, rfl, q⟩ := q1
  cases r1
  exact wpAny_truthy_bool ⟨H1, I1, q⟩

variable {tA tB' : TT} {rest : List Expr}
def tAnd (t u : TT) : TT := fun σ H Q => t σ H fun c H1 => if c = true then u σ H1 Q else Q false H1
def tOr (t u : TT) : TT := fun σ H Q => t σ H fun c H1 => if c = true then Q true H1 else u σ H1 Q
def tNot (t : TT) : TT := fun σ H Q => t σ H fun c H1 => Q (!c) H1
theorem pw_and1 (ha : PT X a tA) : PW X (.BoolOp .And [a] pos) tA := by
  intro wh pins s σ H Q I h
  refine isTrue_and (thn (ha pins s σ H Q I h) fun c s1 e => ?_)
  cases c with
  | true => exact isTrue_and_nil e
  | false => exact e
theorem pw_or1 (ha : PT X a tA) : PW X (.BoolOp .Or [a] pos) tA := by
  intro wh pins s σ H Q I h
  refine isTrue_or (thn (ha pins s σ H Q I h) fun c s1 e => ?_)
  cases c with
  | false => exact isTrue_or_nil e
  | true => exact e
theorem pw_and (ha : PT X a tA) (hb : PW X (.BoolOp .And (b :: rest) pos) tB') : PW X (.BoolOp .And (a :: b :: rest) pos) (tAnd tA tB') := by
  intro wh pins s σ H Q I h
  refine isTrue_and (thn (ha pins s σ H _ I h) fun c s1 ⟨H1, I1, q1⟩ => ?_)
  cases c with
  | true => exact hb wh pins s1 σ H1 Q I1 q1
  | false => exact ⟨H1, I1, q1⟩
theorem pw_or (ha : PT X a tA) (hb : PW X (.BoolOp .Or (b :: rest) pos) tB') : PW X (.BoolOp .Or (a :: b :: rest) pos) (tOr tA tB') := by
  intro wh pins s σ H Q I h
  refine isTrue_or (thn (ha pins s σ H _ I h) fun c s1 ⟨H1, I1, q1⟩ => ?_)
  cases c with
  | true => exact ⟨H1, I1, q1⟩
  | false => exact hb wh pins s1 σ H1 Q I1 q1
theorem pt_not (ha : PT X a tA) : PT X (.UnaryOp .Not a pos) (tNot tA) := by
  intro pins s σ H Q I h
  exact isTrue_not (ha pins s σ H (fun c H1 => Q (!c) H1) I h)
def tAndV (ta tb : TE) : TE := fun σ H Q => ta σ H fun x H1 => ∃ c, x = .bl c ∧ if c = true then tb σ H1 Q else Q (.bl false) H1
theorem pe_one {op} {t : TE} (h : PE X a t) : PE X (.BoolOp op [a] pos) t := fun pins s σ H Q I hw => BoolOp_one (h pins s σ H Q I hw)
theorem pe_and (ha : PE X a ta) (hb : PE X (.BoolOp .And (b :: rest) pos) tb) : PE X (.BoolOp .And (a :: b :: rest) pos) (tAndV ta tb) := by
  intro pins s σ H Q I h
  refine BoolOp_and (thn (ha pins s σ H _ I h) fun v s1 ⟨x, H1, I1, r1, q1⟩ => ?_)
  obtain ⟨c, rfl, q1⟩ := q1
  cases r1
  refine wpAny_truthy_bool ?_
  cases c with
  | true => exact hb pins s1 σ H1 Q I1 q1
  | false => exact ⟨.bl false, H1, I1, rfl, q1⟩
def tIf (t : TT) (ta tb : TE) : TE := fun σ H Q => t σ H fun c H1 => if c = true then ta σ H1 Q else tb σ H1 Q
theorem pe_ifExp {c : Expr} (hc : PT X c tA) (ha : PE X a ta) (hb : PE X b tb) : PE X (.IfExp c a b pos) (tIf tA ta tb) := by
  intro pins s σ H Q I h
  refine wpAny_IfExp (thn (hc pins s σ H _ I h) fun d s1 ⟨H1, I1, q1⟩ => ?_)
  cases d with
  | true => exact ha pins s1 σ H1 Q I1 q1
  | false => exact hb pins s1 σ H1 Q I1 q1
end
end L2

namespace L2
open PySem PySem.Spec PyProof.Rows

def SqL (K : PySem.W.Frag) (H : Hp) (a : Addr) (xs : List V) : Prop :=
  Rd H a (.lst xs) ∨
    ∃ (o : Obj) (its : Array Value) (n : Nat), K.lookup a = some o ∧ o.cls = .type "list" ∧ o.dict = none ∧ o.data = .seq its n ∧ its.size ≤ sizeLine ∧ Vals xs its.toList
def SqT (K : PySem.W.Frag) (H : Hp) (a : Addr) (xs : List V) : Prop :=
  Rd H a (.tup xs) ∨
    ∃ (o : Obj) (its : Array Value) (n : Nat), K.lookup a = some o ∧ o.cls = .type "tuple" ∧ o.data = .seq its n ∧ its.size ≤ sizeLine ∧ Vals xs its.toList
def absV : Value → Option V
  | .none => some .non
  | .bool b => some (.bl b)
  | .int i _ => some (.int i)
  | .str x _ => some (.str x)
  | .bytes b _ => some (.byt b)
  | .float b _ => some (.flt b)
  | .ref a => some (.ref a)
  | .type n => some (.ty n)
  | _ => none
theorem RelV.abs {x : V} {u : Value} (r : RelV x u) : absV u = some x := by
  cases x with
  | non => cases r; rfl
  | bl _ => cases r; rfl
  | int _ => obtain ⟨t, rfl⟩ := r; rfl
  | str _ => obtain ⟨t, rfl⟩ := r; rfl
  | byt _ => obtain ⟨t, rfl⟩ := r; rfl
  | flt _ => obtain ⟨t, rfl⟩ := r; rfl
  | ref _ => cases r; rfl
  | ty _ => cases r; rfl
theorem RelV.inj {x y : V} {u : Value} (r : RelV x u) (q : RelV y u) : x = y := Option.some.inj (r.abs.symm.trans q.abs)
theorem Vals.inj : ∀ {xs ys : List V} {us : List Value}, Vals xs us → Vals ys us → xs = ys
  | _, _, _, .nil, .nil => rfl
  | _, _, _, .cons r t, .cons r' t' => by rw [r.inj r', Vals.inj t t']
section
variable {X : Cx} {pins : List (Addr × Obj)} {σ : St} {H : Hp} {s : Shared} {a : Addr} {xs ys : List V}
theorem SqL.of {K : PySem.W.Frag} (h : H a = some (.lst xs)) : SqL K H a xs := .inl (.inl h)
theorem SqT.of {K : PySem.W.Frag} (h : H a = some (.tup xs)) : SqT K H a xs := .inl (.inl h)
theorem Inv.list (I : Inv X pins σ H s) (h : SqL X.K H a xs) : ∃ its : List Value, Vals xs its ∧ PlainL s.heap a its.toArray ∧ xs.length ≤ sizeLine := by
  rcases h with h | ⟨o, its, n, hk, hc, hd, hs, hz, r⟩
  · obtain ⟨z, its, n, r, e⟩ := h.ok I.hok
    exact ⟨its, r, ⟨_, n, e, rfl, rfl, rfl⟩, z⟩
  · refine ⟨its.toList, r, ⟨o, n, I.kIn a o hk, hc, hd, by simpa using hs⟩, ?_⟩
    have e := r.length
    simp only [Array.length_toList] at e
    omega
theorem Inv.tuple (I : Inv X pins σ H s) (h : SqT X.K H a xs) : ∃ its : List Value, Vals xs its ∧ IsTup s.heap a its.toArray ∧ xs.length ≤ sizeLine := by
  rcases h with h | ⟨o, its, n, hk, hc, hs, hz, r⟩
  · obtain ⟨z, its, r, p⟩ := h.ok I.hok
    exact ⟨its, r, p, z⟩
  · refine ⟨its.toList, r, ⟨o, I.kIn a o hk, hc, n, by simpa using hs⟩, ?_⟩
    have e := r.length
    simp only [Array.length_toList] at e
    omega
theorem Inv.list_inj (I : Inv X pins σ H s) (h : SqL X.K H a xs) (h' : SqL X.K H a ys) : xs = ys := by
  obtain ⟨its, r, ⟨o, n, e, _, _, d⟩, _⟩ := I.list h
  obtain ⟨its', r', ⟨o', n', e', _, _, d'⟩, _⟩ := I.list h'
  rw [e] at e'; cases e'
  rw [d] at d'
  injection d' with d1 _
  have : its = its' := by simpa using congrArg Array.toList d1
  subst this
  exact r.inj r'
end

abbrev Cx.wish (X : Cx) (E : Value → Shared → Prop) : Cx := { X with xe := E }
abbrev Cx.nox (X : Cx) : Cx := X.wish fun _ _ => False
theorem Cx.Ok.wish {X : Cx} (ok : X.Ok) (E : Value → Shared → Prop) : (X.wish E).Ok :=
  ⟨ok.mod, ok.kind, ok.glob, ok.blt, ok.above, ok.inj, ok.has, ok.cab, ok.hd, ok.frames, ok.stk, ok.exf, ok.bs, ok.bsz, ok.noex, ok.exfs, ok.funs, ok.frf⟩
theorem Cx.Ok.unwish {X : Cx} {E : Value → Shared → Prop} (ok : (X.wish E).Ok) : X.Ok :=
  ⟨ok.mod, ok.kind, ok.glob, ok.blt, ok.above, ok.inj, ok.has, ok.cab, ok.hd, ok.frames, ok.stk, ok.exf, ok.bs, ok.bsz, ok.noex, ok.exfs, ok.funs, ok.frf⟩
section
variable {X : Cx} {pins : List (Addr × Obj)} {σ : St} {H : Hp} {s : Shared} {E : Value → Shared → Prop}
theorem Inv.wish (I : Inv X pins σ H s) (E : Value → Shared → Prop) : Inv (X.wish E) pins σ H s := ⟨I.ok.wish E, I.os, I.bare, I.base, I.loc, I.cell, I.free, I.freeC, I.pin, I.hok, I.len⟩
theorem Inv.unwish (I : Inv (X.wish E) pins σ H s) : Inv X pins σ H s := ⟨I.ok.unwish, I.os, I.bare, I.base, I.loc, I.cell, I.free, I.freeC, I.pin, I.hok, I.len⟩
theorem SP.unwish {D : Ends} {f : Flow} {s' : Shared} (h : SP (X.wish E) pins D f s') : SP X pins D f s' := by
  cases f with
  | next => obtain ⟨σ', H', I, q⟩ := h; exact ⟨σ', H', I.unwish, q⟩
  | brk => obtain ⟨σ', H', I, q⟩ := h; exact ⟨σ', H', I.unwish, q⟩
  | cont => obtain ⟨σ', H', I, q⟩ := h; exact ⟨σ', H', I.unwish, q⟩
  | ret u => obtain ⟨v, σ', H', I, r, q⟩ := h; exact ⟨v, σ', H', I.unwish, r, q⟩
theorem PE.nox {e : Expr} {t : TE} (h : PE X.nox e t) : PE X e t := fun pins s σ H Q I hw =>
  wpAny_mono (h pins s σ H Q (I.wish _) hw) (fun _ _ ⟨v, H', I', r, q⟩ => ⟨v, H', I'.unwish, r, q⟩) fun _ _ z => False.elim z
theorem PT.nox {e : Expr} {t : TT} (h : PT X.nox e t) : PT X e t := fun pins s σ H Q I hw =>
  wpAny_mono (h pins s σ H Q (I.wish _) hw) (fun _ _ ⟨H', I', q⟩ => ⟨H', I'.unwish, q⟩) fun _ _ z => False.elim z
theorem PSs.nox {st : List Stmt} {t : TS} (h : PSs X.nox st t) : PSs X st t := fun pins s σ H D I hw =>
  wpAny_mono (h pins s σ H D (I.wish _) hw) (fun _ _ q => q.unwish) fun _ _ z => False.elim z
end

section
variable {X : Cx} {st : Stmt} {rest : List Stmt} {t u : TS} {e : Expr} {te : TE} {pos : Pos}
def tNext : TS := fun D σ H => D.nx σ H
def tSeq (t u : TS) : TS := fun D σ H => t { D with nx := u D } σ H
theorem pss_nil : PSs X [] tNext := fun _ _ σ H _ I h => wpAny_execs_nil ⟨σ, H, I, h⟩
theorem pss_cons (h1 : PS X st t) (h2 : PSs X rest u) : PSs X (st :: rest) (tSeq t u) := by
  intro pins s σ H D I h
  refine wpAny_execs_cons (thn (h1 pins s σ H { D with nx := u D } I h) fun f s1 q => ?_)
  cases f with
  | next =>
    obtain ⟨σ', H', I', q⟩ := q
    exact h2 pins s1 σ' H' D I' q
  | ret v => exact q
  | brk => exact q
  | cont => exact q
theorem pss_one (h1 : PS X st t) : PSs X [st] t := by
  intro pins s σ H D I h
  refine wpAny_execs_cons (thn (h1 pins s σ H D I h) fun f s1 q => ?_)
  cases f with
  | next => exact wpAny_execs_nil q
  | ret v => exact q
  | brk => exact q
  | cont => exact q
theorem Inv.quiet {pins : List (Addr × Obj)} {σ : St} {H : Hp} {s : Shared} (I : Inv X pins σ H s) : interactive X.env = false := by simp [interactive, I.ok.kind]
def tDrop (te : TE) : TS := fun D σ H => te σ H fun _ H1 => D.nx σ H1
theorem ps_expr (he : PE X e te) (hs : swapsWith e none pos.line X.env = pure false := by rfl) : PS X (.Expr e pos) (tDrop te) := by
  intro pins s σ H D I h
  exact wpAny_Expr_any (thn (he pins s σ H _ I h) fun v s1 ⟨x, H1, I1, r1, q1⟩ => ⟨σ, H1, I1, q1⟩) I.quiet hs
def tRet (te : TE) : TS := fun D σ H => te σ H D.rt
theorem ps_ret (he : PE X e te) : PS X (.Return (some e) pos) (tRet te) := by
  intro pins s σ H D I h
  exact wpAny_Return_some (thn (he pins s σ H _ I h) fun v s1 ⟨x, H1, I1, r1, q1⟩ => ⟨x, σ, H1, I1, r1, q1⟩)
def tIfS (c : TT) (t u : TS) : TS := fun D σ H => c σ H fun b H1 => if b = true then t D σ H1 else u D σ H1
theorem ps_if {c : Expr} {a b : List Stmt} {tc : TT} (hc : PT X c tc) (ha : PSs X a t) (hb : PSs X b u) : PS X (.If c a b pos) (tIfS tc t u) := by
  intro pins s σ H D I h
  refine wpAny_If (thn (hc pins s σ H _ I h) fun d s1 ⟨H1, I1, q1⟩ => ?_)
  cases d with
  | true => exact ha pins s1 σ H1 D I1 q1
  | false => exact hb pins s1 σ H1 D I1 q1
end

abbrev TG := V → St → Hp → (St → Hp → Prop) → Prop
abbrev TGs := List V → St → Hp → (St → Hp → Prop) → Prop
def PG (X : Cx) (target : Expr) (t : TG) : Prop :=
  ∀ (pins : List (Addr × Obj)) (s : Shared) (σ : St) (H : Hp) (v : V) (u : Value) (Q : St → Hp → Prop), Inv X pins σ H s → RelV v u → t v σ H Q →
    wpAny (model X.prog X.w) X.A (assign target X.env u) (fun _ s' => ∃ σ' H', Inv X pins σ' H' s' ∧ Q σ' H') X.xe s
def PGs (X : Cx) (ts : List Expr) (t : TGs) : Prop :=
  ∀ (pins : List (Addr × Obj)) (s : Shared) (σ : St) (H : Hp) (vs : List V) (us : List Value) (Q : St → Hp → Prop), Inv X pins σ H s → Vals vs us → t vs σ H Q →
    wpAny (model X.prog X.w) X.A (assignInOrder ((assignEach ts X.env).map (·.2)) us) (fun _ s' => ∃ σ' H', Inv X pins σ' H' s' ∧ Q σ' H') X.xe s
abbrev TSet := V → V → V → Hp → (Hp → Prop) → Prop
def PSet (X : Cx) (t : TSet) : Prop :=
  ∀ (pins : List (Addr × Obj)) (s : Shared) (σ : St) (H : Hp) (o i v : V) (ov iv u : Value) (Q : Hp → Prop), Inv X pins σ H s → RelV o ov → RelV i iv → RelV v u → t o i v H Q →
    wpAny (model X.prog X.w) X.A (setItem ov iv u) (fun _ s' => ∃ H', Inv X pins σ H' s' ∧ Q H') X.xe s
section
variable {X : Cx} {pos : Pos}
def gName (i : Nat) : TG := fun v σ H Q => Q (σ.set i (some v)) H
theorem pg_name {i : Nat} {x : Str} (hN : X.N.Nodup) (hi : X.N[i]? = some x) (hx : Loc X.env.scope x) (hf : X.fn x = true ∨ X.env.scope.names.lookup x = some .local := by first | exact .inl rfl | exact .inr rfl | assumption) : PG X (.Name x pos) (gName i) := by
  intro pins s σ H v u Q I r h
  exact wpAny_assign_Name (store_ok I hN hi hx r (fun s' I' => ⟨_, H, I', h⟩) hf)
def gNil : TGs := fun vs σ H Q => vs = [] ∧ Q σ H
def gCons (t : TG) (u : TGs) : TGs := fun vs σ H Q => ∃ v r, vs = v :: r ∧ t v σ H fun σ' H' => u r σ' H' Q
theorem pgs_nil : PGs X [] gNil := by
  intro pins s σ H vs us Q I r h
  obtain ⟨e, h⟩ := h
  subst e
  cases r
  exact assignInOrder_nil ⟨σ, H, I, h⟩
theorem pgs_cons {e : Expr} {es : List Expr} {t : TG} {u : TGs} (h1 : PG X e t) (h2 : PGs X es u)
    (hs : (assignEach (e :: es) X.env).map (·.2) = assign e X.env :: (assignEach es X.env).map (·.2) := by rfl) : PGs X (e :: es) (gCons t u) := by
  intro pins s σ H vs us Q I r h
  obtain ⟨v, vr, e1, h⟩ := h
  subst e1
  cases r with
  | cons r rr =>
    rw [hs]
    refine assignInOrder_cons (thn (h1 pins s σ H _ _ _ I r h) fun _ s1 ⟨σ1, H1, I1, q1⟩ => ?_)
    exact h2 pins s1 σ1 H1 _ _ Q I1 rr q1
def gTup (K : PySem.W.Frag) (n : Nat) (t : TGs) : TG := fun v σ H Q => ∃ a xs, v = .ref a ∧ SqT K H a xs ∧ xs.length = n ∧ t xs σ H Q
theorem pg_tup {es : List Expr} {k : Nat} {t : TGs} {n : Nat} (hc : X.calm = true) (h : PGs X es t)
    (hn : (assignEach es X.env).length = n := by rfl) (hst : (assignEach es X.env).findIdx? (·.1) = none := by rfl) : PG X (.Tuple es k pos) (gTup X.K n t) := by
  intro pins s σ H v u Q I r hw
  obtain ⟨a, xs, e1, hq, hl, hw⟩ := hw
  subst e1
  cases r
  obtain ⟨its, rv, ht, hz⟩ := I.tuple hq
  refine assign_Tuple_tuple (I.ok.hd hc) ht (by simp [hn, ← hl, rv.length]) hst fun h' hx => ?_
  have I1 : Inv X pins σ H { s with heap := h' } := I.kept (t' := s.toks) fun b o e => hx b o (Nat.ne_of_lt (Heap.lt_size e)) e
  exact h pins _ σ H xs _ Q I1 (by simpa using rv) hw
def gSub (to ti : TE) (t : TSet) : TG := fun v σ H Q => to σ H fun o H1 => ti σ H1 fun i H2 => t o i v H2 fun H3 => Q σ H3
theorem pg_sub {o i : Expr} {to ti : TE} {t : TSet} (ho : PE X o to) (hi : PE X i ti) (hs : PSet X t)
    (ha : ∀ v, assign (.Subscript o i pos) X.env v = (do
      let ov ← holding [v] (eval o X.env)
      let iv ← holding [v, ov] (eval i X.env)
      standAt pos
      holding [v, ov, iv] (setItem ov iv v)
      release [v, ov, iv] []) := by intro _; rfl) : PG X (.Subscript o i pos) (gSub to ti t) := by
  intro pins s σ H v u Q I r h
  rw [ha]
  refine wpAny_bind (wpAny_holding (thn (ho pins s σ H _ I h) fun ov s1 ⟨x, H1, I1, r1, q1⟩ => ?_))
  refine wpAny_bind (wpAny_holding (thn (hi pins s1 σ H1 _ I1 q1) fun iv s2 ⟨y, H2, I2, r2, q2⟩ => ?_))
  refine wpAny_bind (wpAny_standAt (wpAny_bind (wpAny_holding (thn (hs pins s2 σ H2 x y v ov iv u _ I2 r1 r2 r q2) fun _ s3 ⟨H3, I3, q3⟩ => ?_))))
  exact wpAny_release ⟨σ, H3, I3, q3⟩
def tAsg (te : TE) (g : TG) : TS := fun D σ H => te σ H fun x H1 => g x σ H1 D.nx
theorem ps_asg {tg e : Expr} {te : TE} {g : TG} (he : PE X e te) (hg : PG X tg g) (hs : swapsWithSole [tg] e pos.line X.env = pure false := by rfl) (hw : swappedStores [tg] e X.env = pure none := by rfl)
    (h1 : (assignEach [tg] X.env).map (·.2) = [assign tg X.env] := by rfl) : PS X (.Assign [tg] e pos) (tAsg te g) := by
  intro pins s σ H D I h
  refine wpAny_Assign_stores (thn (he pins s σ H _ I h) fun v s1 ⟨x, H1, I1, r1, q1⟩ => ?_) hs hw
  rw [h1]
  exact thn (hg pins s1 σ H1 x v _ I1 r1 q1) fun _ s2 q => q
theorem ps_set {i : Nat} {x : Str} {e : Expr} {te : TE} {pos' : Pos} (hN : X.N.Nodup) (hi : X.N[i]? = some x) (hx : Loc X.env.scope x) (he : PE X e te) (hs : swapsWith e (some (.Name x pos')) pos.line X.env = pure false := by rfl) (hf : X.fn x = true ∨ X.env.scope.names.lookup x = some .local := by first | exact .inl rfl | exact .inr rfl | assumption) :
    PS X (.Assign [.Name x pos'] e pos) (tAsg te (gName i)) := by
  intro pins s σ H D I h
  refine wpAny_Assign_Name (thn (he pins s σ H _ I h) fun v s1 ⟨y, H1, I1, r1, q1⟩ => ?_) hs
  exact store_ok I1 hN hi hx r1 (fun s2 I2 => ⟨_, H1, I2, q1⟩) hf
end

section
variable {X : Cx} {pos : Pos}
def tWhile (c : TT) (tb : TS) : TS := fun D σ H => ∃ W : Nat → St → Hp → Prop, (∃ m, W m σ H) ∧ ∀ m σ H, W m σ H →
  c σ H fun b H1 => if b = true then ∃ N : St → Hp → Prop, (∀ σ' H', N σ' H' → ∃ m', m' < m ∧ W m' σ' H') ∧ tb { D with nx := N, ct := N, bk := D.nx } σ H1 else D.nx σ H1
theorem ps_while {c : Expr} {body : List Stmt} {tc : TT} {tb : TS} (hp : PassesOwn (model X.prog X.w) X.A X.env X.xe) (hc : PT X c tc) (hb : PSs X body tb) : PS X (.While c body [] pos) (tWhile tc tb) := by
  intro pins s σ H D I h
  obtain ⟨W, ⟨m0, w0⟩, turn⟩ := h
  refine wpAny_While (codeAny_whileLoop (fun n s' => ∃ σ' H', Inv X pins σ' H' s' ∧ W n σ' H') ?_ m0 ⟨σ, H, I, w0⟩)
  rintro n s1 ⟨σ1, H1, I1, w1⟩
  refine wpAny_passesOwn hp (thn (hc pins s1 σ1 H1 _ I1 (turn n σ1 H1 w1)) fun b s2 ⟨H2, I2, q2⟩ => ?_)
  cases b with
  | true =>
    obtain ⟨N, hN, q2⟩ := q2
    rw [if_pos rfl]
    refine wpAny_passesOwn hp (thn (hb pins s2 σ1 H2 _ I2 q2) fun f s3 q3 => ?_)
    cases f with
    | next =>
      obtain ⟨σ3, H3, I3, n3⟩ := q3
      obtain ⟨m', hm, w3⟩ := hN σ3 H3 n3
      exact ⟨m', hm, σ3, H3, I3, w3⟩
    | cont =>
      obtain ⟨σ3, H3, I3, n3⟩ := q3
      obtain ⟨m', hm, w3⟩ := hN σ3 H3 n3
      exact ⟨m', hm, σ3, H3, I3, w3⟩
    | brk => exact q3
    | ret v => exact q3
  | false =>
    rw [if_neg Bool.false_ne_true]
    exact wpAny_execs_nil ⟨σ1, H2, I2, q2⟩
end

structure It where
  go : Nat → Hp → Prop
  yld : Nat → Hp → V → Hp → Prop
  stop : Nat → Hp → Prop
def FpOk (X : Cx) (pins : List (Addr × Obj)) (H : Hp) (b : Addr) : Prop :=
  H b = none ∧ b ≠ X.env.locals ∧ b ∉ X.fs ∧ (b ∈ X.ex ∨ X.s_0.heap.objs.size ≤ b) ∧ (∀ x c, X.env.cells.lookup x = some c → c ≠ b) ∧ ∀ p ∈ X.pn ++ pins, p.1 ≠ b
theorem Inv.fpOk {X : Cx} {pins : List (Addr × Obj)} {σ : St} {H H' : Hp} {s : Shared} {b : Addr} (I : Inv X pins σ H s) (hb : s.heap.objs.size ≤ b) (hn : H' b = none) : FpOk X pins H' b := by
  refine ⟨hn, Nat.ne_of_gt (Nat.lt_of_lt_of_le I.lt hb), I.nofs hb, .inr (Nat.le_trans I.sz hb), fun x c e z => ?_, fun p hp z => ?_⟩
  · obtain ⟨v, q⟩ := I.cell x c e
    exact absurd (Nat.lt_of_lt_of_le q.lt (by rw [z]; exact hb)) (Nat.lt_irrefl _)
  · exact absurd (Nat.lt_of_lt_of_le (Heap.lt_size (I.pin p hp).1) (by rw [z]; exact hb)) (Nat.lt_irrefl _)
structure Turn (P : Program) (w : World) (K : PySem.W.Frag) (tg : Expr) (J : It) (fp : List Addr) (it : Addr) (tn : Nat → Heap → Prop) : Prop where
  mem : it ∈ fp
  obj : ∀ i h, tn i h → ∀ b ∈ fp, ∃ o, h.get? b = some o ∧ ∀ v, o.data ≠ .cell v
  keep : ∀ i h h', tn i h → (∀ b ∈ fp, ∀ o, h.get? b = some o → h'.get? b = some o) → tn i h'
  item : ∀ (X : Cx), X.prog = P → X.w = w → X.K = K → X.calm = true → ∀ (i : Nat) (pins : List (Addr × Obj)) (s : Shared) (σ : St) (H : Hp) (E : Value → Shared → Prop), Inv X pins σ H s → (∀ b ∈ fp, FpOk X pins H b) → tn i s.heap → J.go i H →
    wpAny (model P w) X.A (pyNext (.ref it)) (fun r s1 => ∃ u, r = some u ∧
      wpAny (model P w) X.A (letOwnedTupleGo tg (.ref it) u) (fun _ s2 => ∃ x H', Inv X pins σ H' s2 ∧ RelV x u ∧ J.yld i H x H' ∧ tn (i + 1) s2.heap ∧ ∀ b ∈ fp, H' b = none) E s1) E s
  done : ∀ (X : Cx), X.prog = P → X.w = w → X.K = K → X.calm = true → ∀ (i : Nat) (pins : List (Addr × Obj)) (s : Shared) (σ : St) (H : Hp) (E : Value → Shared → Prop), Inv X pins σ H s → (∀ b ∈ fp, FpOk X pins H b) → tn i s.heap → J.stop i H →
    wpAny (model P w) X.A (pyNext (.ref it)) (fun r s1 => r = none ∧ Inv X pins σ H s1) E s
  self : ∀ (A : Around) (i : Nat) (s : Shared) (Q : Value → Shared → Prop) (E : Value → Shared → Prop), tn i s.heap → Q (.ref it) s → wpAny (model P w) A (pyIter (.ref it)) Q E s
abbrev TI := St → Hp → (It → Hp → Prop) → Prop
def PIE (X : Cx) (pins : List (Addr × Obj)) (σ : St) (tg : Expr) (R : It → Hp → Prop) (itv : Value) (s2 : Shared) : Prop :=
  ∃ (it : Addr) (fp : List Addr) (tn : Nat → Heap → Prop) (J : It) (H' : Hp), itv = .ref it ∧ Inv X pins σ H' s2 ∧ Turn X.prog X.w X.K tg J fp it tn ∧ tn 0 s2.heap ∧ (∀ b ∈ fp, FpOk X pins H' b) ∧ R J H'
def PI (X : Cx) (tg iter : Expr) (wi : TI) : Prop :=
  ∀ (pins : List (Addr × Obj)) (s : Shared) (σ : St) (H : Hp) (R : It → Hp → Prop), Inv X pins σ H s → wi σ H R →
    wpAny (model X.prog X.w) X.A (eval iter X.env) (fun v s1 => wpAny (model X.prog X.w) X.A (pyIter v) (PIE X pins σ tg R) X.xe s1) X.xe s

theorem go_of {M : Model} {A : Around} {E : Value → Shared → Prop} {s : Shared} {tg : Expr} {it : Addr} {u : Value} {o : Obj} {n : String} {vs : Array Value} {Q : Unit → Shared → Prop} (ho : s.heap.get? it = some o) (hc : o.cls = .type n) (hd : o.data = .fields vs)
    (hn : ["enumerate", "zip", "dict_itemiterator", "dict_reverseitemiterator", "odict_iterator", "itertools.zip_longest", "itertools.pairwise"].contains n = false) (hQ : Q () s) : wpAny M A (letOwnedTupleGo tg (.ref it) u) Q E s := by
  unfold letOwnedTupleGo
  cases tg <;> first
    | exact wpAny_pure hQ
    | (cases u <;> first
        | exact wpAny_pure hQ
        | (refine wpAny_bind (wpAny_load ho ?_)
           rw [hc, hd]
           show wpAny M A (if (["enumerate", "zip", "dict_itemiterator", "dict_reverseitemiterator", "odict_iterator", "itertools.zip_longest", "itertools.pairwise"].contains n && vs[0]? == some (rawInt _)) = true then _ else _) Q E s
           rw [if_neg (by intro h; rw [hn, Bool.false_and] at h; cases h)]
           exact wpAny_pure hQ))

def Itl (K : PySem.W.Frag) (a : Addr) : It :=
  ⟨fun i H => ∃ xs x, SqL K H a xs ∧ xs[i]? = some x, fun i H x H' => H' = H ∧ ∀ xs, SqL K H a xs → xs[i]? = some x, fun i H => ∃ xs, SqL K H a xs ∧ xs.length ≤ i⟩
def Itr (lo : Int) (n : Nat) : It := ⟨fun i _ => i < n, fun i H x H' => H' = H ∧ x = .int (lo + i), fun i _ => n ≤ i⟩
theorem turn_list {P : Program} {w : World} {K : PySem.W.Frag} {tg : Expr} (a it : Addr) : Turn P w K tg (Itl K a) [it] it (fun i h => h.IsListIter it a i) where
  mem := by simp
  obj := fun i h st b hb => by
    have e : b = it := by simpa using hb
    subst e
    obtain ⟨o, e, c, d⟩ := st
    exact ⟨o, e, fun v z => by rw [d] at z; cases z⟩
  keep := fun i h h' st k => st.at fun o e => k it (by simp) o e
  item := by
    intro X hP hw hK hc i pins s σ H E I hf st hg
    subst hP hw hK
    obtain ⟨xs, x, hq, hx⟩ := hg
    obtain ⟨its, rv, p, hz⟩ := I.list hq
    obtain ⟨u, hu, ru⟩ := rv.get hx
    obtain ⟨f0, f1, f2, f3, f4, f5⟩ := hf it (by simp)
    refine wpAny_pyNext_list_item st p.isList (x := u) (by simpa using hu) fun h' st' sb => ?_
    have I1 : Inv X pins σ H { s with heap := h' } := I.turned (t' := s.toks) (fun b o hb e => (sb.2 b hb).trans e) f0 f1 f3 f4 f5
    obtain ⟨o, e, c, d⟩ := id st'
    exact ⟨u, rfl, go_of (s := { s with heap := h' }) e c d (by decide) ⟨x, H, I1, ru, ⟨rfl, fun ys hy => by rw [I.list_inj hy hq]; exact hx⟩, st', fun b hb => (hf b hb).1⟩⟩
  done := by
    intro X hP hw hK hc i pins s σ H E I hf st hg
    subst hP hw hK
    obtain ⟨xs, hq, hx⟩ := hg
    obtain ⟨its, rv, p, hz⟩ := I.list hq
    obtain ⟨f0, f1, f2, f3, f4, f5⟩ := hf it (by simp)
    have hl := rv.length
    exact wpAny_pyNext_list_end (I.ok.hd hc) st p.isList (by simp; omega) fun h' eb => ⟨rfl, I.turned (t' := s.toks) (fun b o hb e => eb b o hb e) f0 f1 f3 f4 f5⟩
  self := fun _ _ _ _ _ st h => wpAny_pyIter_listiter st h
theorem turn_range {P : Program} {w : World} {K : PySem.W.Frag} {tg : Expr} (it : Addr) (lo : Int) (n : Nat) : Turn P w K tg (Itr lo n) [it] it (fun i h => IsRangeIter h it (lo + (i : Nat) * 1) ((n : Int) - (i : Nat)) 1) where
  mem := by simp
  obj := fun i h st b hb => by
    have e : b = it := by simpa using hb
    subst e
    exact ⟨_, st, fun v z => by
      have z' : Data.fields _ = Data.cell v := z
      cases z'⟩
  keep := fun i h h' st k => k it (by simp) _ st
  item := by
    intro X hP hw hK hc i pins s σ H E I hf st hg
    subst hP hw hK
    obtain ⟨f0, f1, f2, f3, f4, f5⟩ := hf it (by simp)
    have W := Walks.range (prog := X.prog) (w := X.w) (I.ok.hd hc) it lo 1 n
    refine W.item i s _ _ hg st fun v h' tk hv st' kk => ?_
    obtain ⟨t, rfl⟩ := hv
    have I1 : Inv X pins σ H { s with heap := h', toks := tk } := I.turned (fun b o hb e => kk b o (by simpa using hb) e) f0 f1 f3 f4 f5
    refine ⟨_, rfl, go_of (s := { s with heap := h', toks := tk }) (n := "range_iterator") st' rfl rfl (by decide) ⟨.int (lo + i), H, I1, ⟨t, ?_⟩, ⟨rfl, rfl⟩, st', fun b hb => (hf b hb).1⟩⟩
    rw [Int.mul_one]
  done := by
    intro X hP hw hK hc i pins s σ H E I hf st hg
    subst hP hw hK
    obtain ⟨f0, f1, f2, f3, f4, f5⟩ := hf it (by simp)
    exact wpAny_pyNext_range_end (I.ok.hd hc) st (by have : n ≤ i := hg; omega) fun h' eb => ⟨rfl, I.turned (t' := s.toks) (fun b o hb e => eb b o hb e) f0 f1 f3 f4 f5⟩
  self := fun _ _ _ _ _ st h => wpAny_pyIter_rangeiter st h
end L2

namespace L2
open PySem PySem.Spec PyProof.Rows
section
variable {X : Cx} {tg : Expr}
def iList (K : PySem.W.Frag) (tl : TE) : TI := fun σ H R => tl σ H fun x H1 => ∃ a, x = .ref a ∧ (∃ xs, SqL K H1 a xs) ∧ R (Itl K a) H1
theorem pi_list {l : Expr} {tl : TE} (hl : PE X l tl) : PI X tg l (iList X.K tl) := by
  intro pins s σ H R I h
  refine thn (hl pins s σ H _ I h) fun v s1 ⟨x, H1, I1, r1, q1⟩ => ?_
  obtain ⟨a, e, ⟨xs, hq⟩, q⟩ := q1
  subst e
  cases r1
  obtain ⟨its, rv, p, hz⟩ := I1.list hq
  refine wpAny_pyIter_list p.isList ?_
  refine ⟨s1.heap.objs.size, [s1.heap.objs.size], _, _, H1, rfl, I1.kept (t' := s1.toks) fun b o e => Heap.get?_push_of_some _ e, turn_list a _, ⟨_, Heap.get?_push_size _ rfl, rfl, rfl⟩, fun b hb => ?_, q⟩
  have e : b = s1.heap.objs.size := by simpa using hb
  subst e
  exact I1.fpOk (Nat.le_refl _) (I1.hok.fresh (Nat.le_refl _))
theorem range_it {pins : List (Addr × Obj)} {σ : St} {H : Hp} {s : Shared} {R : It → Hp → Prop} {E : Value → Shared → Prop} {lo hi : Int} {t u v : Tok} {tk : Nat} (I : Inv X pins σ H s) (h1 : -(2 ^ 62) ≤ lo) (h2 : lo < 2 ^ 62) (h3 : -(2 ^ 62) ≤ hi) (h4 : hi < 2 ^ 62)
    (q : R (Itr lo (hi - lo).toNat) H) : wpAny (model X.prog X.w) X.A (pyIter (.ref s.heap.objs.size)) (PIE X pins σ tg R) E { s with heap := s.heap.push { cls := .type "range", data := .fields #[.int lo t, .int hi u, .int 1 v] }, toks := tk } := by
  refine wpAny_pyIter_range (IsRange.new ..) (small_one h1 h2 h3 h4) ?_
  have I1 : Inv X pins σ H { s with heap := s.heap.push { cls := .type "range", data := .fields #[.int lo t, .int hi u, .int 1 v] }, toks := tk } := I.kept fun b o e => Heap.get?_push_of_some _ e
  refine ⟨(s.heap.push { cls := .type "range", data := .fields #[.int lo t, .int hi u, .int 1 v] }).objs.size, [(s.heap.push { cls := .type "range", data := .fields #[.int lo t, .int hi u, .int 1 v] }).objs.size], _, _, H, rfl,
    I1.kept (t' := tk) fun b o e => Heap.get?_push_of_some _ e, turn_range _ lo (hi - lo).toNat, ?_, fun b hb => ?_, q⟩
  · have e1 : lo + ((0 : Nat) : Int) * 1 = lo := by simp
    have e2 : (((hi - lo).toNat : Nat) : Int) - ((0 : Nat) : Int) = Builtin.Range.rangeSize lo hi 1 := by rw [rangeSize_one]; split <;> omega
    show IsRangeIter _ _ (lo + ((0 : Nat) : Int) * 1) ((((hi - lo).toNat : Nat) : Int) - ((0 : Nat) : Int)) 1
    rw [e1, e2]
    exact Heap.get?_push_size _ rfl
  · have e : b = (s.heap.push { cls := .type "range", data := .fields #[.int lo t, .int hi u, .int 1 v] }).objs.size := by simpa using hb
    subst e
    exact I1.fpOk (Nat.le_refl _) (I1.hok.fresh (Nat.le_refl _))
def iRng1 (ta : TA) : TI := fun σ H R => ta σ H fun vs H1 => ∃ j : Int, vs = [.int j] ∧ -(2 ^ 62) ≤ j ∧ j < 2 ^ 62 ∧ R (Itr 0 j.toNat) H1
def iRng2 (ta : TA) : TI := fun σ H R => ta σ H fun vs H1 => ∃ i j : Int, vs = [.int i, .int j] ∧ (-(2 ^ 62) ≤ i ∧ i < 2 ^ 62 ∧ -(2 ^ 62) ≤ j ∧ j < 2 ^ 62) ∧ R (Itr i (j - i).toNat) H1
theorem pi_range1 {a : Expr} {ta : TA} {p pos : Pos} (hg : Gl X "range") (hm : X.mg "range" = none) (ha : PA X [a] ta) (hs : starEach [a] X.env = [(false, eval a X.env)] := by rfl) : PI X tg (.Call (.Name "range" p) [a] [] pos) (iRng1 ta) := by
  intro pins s σ H R I h
  refine Call_ (ld_blt I hg hm boot_range (PyProof.Rows.callWith_type1 (thn (ha pos pins s σ H _ I h) fun us s1 ⟨vs, H1, I1, r1, q1⟩ => ?_) hs rfl))
  obtain ⟨j, e, q1, q2, q⟩ := q1
  subst e
  cases r1 with
  | cons r rr =>
    cases rr
    obtain ⟨t, rfl⟩ := r
    exact call_range_1 (range_it I1 (by omega) (by omega) q1 q2 (by simpa using q))
theorem pi_range2 {a b : Expr} {ta : TA} {p pos : Pos} (hg : Gl X "range") (hm : X.mg "range" = none) (ha : PA X [a, b] ta) (hs : starEach [a, b] X.env = [(false, eval a X.env), (false, eval b X.env)] := by rfl) (hs2 : starEach [b] X.env = [(false, eval b X.env)] := by rfl) :
    PI X tg (.Call (.Name "range" p) [a, b] [] pos) (iRng2 ta) := by
  intro pins s σ H R I h
  refine Call_ (ld_blt I hg hm boot_range (PyProof.Rows.callWith_type1 (thn (ha pos pins s σ H _ I h) fun us s1 ⟨vs, H1, I1, r1, q1⟩ => ?_) (by rw [hs, hs2]) (by rw [hs2]; rfl)))
  obtain ⟨i, j, e, ⟨q1, q2, q3, q4⟩, q⟩ := q1
  subst e
  cases r1 with
  | cons r rr =>
    cases rr with
    | cons r' rr =>
      cases rr
      obtain ⟨t, rfl⟩ := r
      obtain ⟨t', rfl⟩ := r'
      exact call_range_2 (range_it I1 q1 q2 q3 q4 q)

def tFor (wi : TI) (g : TG) (tb : TS) : TS := fun D σ H => wi σ H fun J H1 => ∃ W : Nat → Nat → St → Hp → Prop, (∃ m, W 0 m σ H1) ∧ ∀ i m σ H, W i m σ H →
  (J.stop i H ∧ D.nx σ H) ∨ (J.go i H ∧ ∃ N : St → Hp → Prop, (∀ σ' H', N σ' H' → ∃ m', m' < m ∧ W (i + 1) m' σ' H') ∧ ∀ x H', J.yld i H x H' → g x σ H' fun σ2 H2 => tb { D with nx := N, ct := N, bk := D.nx } σ2 H2)
def pinsAt (fp : List Addr) (h : Heap) : List (Addr × Obj) := fp.filterMap fun b => (h.get? b).map fun o => (b, o)
theorem mem_pinsAt {fp : List Addr} {h : Heap} {b : Addr} {o : Obj} (hb : b ∈ fp) (e : h.get? b = some o) : (b, o) ∈ pinsAt fp h := List.mem_filterMap.mpr ⟨b, hb, by rw [e]; rfl⟩
theorem of_pinsAt {fp : List Addr} {h : Heap} {p : Addr × Obj} (hp : p ∈ pinsAt fp h) : p.1 ∈ fp ∧ h.get? p.1 = some p.2 := by
  obtain ⟨b, hb, e⟩ := List.mem_filterMap.mp hp
  cases q : h.get? b with
  | none => rw [q] at e; cases e
  | some o =>
    rw [q] at e
    have e' : (b, o) = p := Option.some.inj e
    subst e'
    exact ⟨hb, q⟩
theorem Inv.pinned {pins : List (Addr × Obj)} {σ : St} {H : Hp} {s : Shared} {fp : List Addr} (I : Inv X pins σ H s) (hf : ∀ b ∈ fp, FpOk X pins H b) (ho : ∀ b ∈ fp, ∃ o, s.heap.get? b = some o ∧ ∀ v, o.data ≠ .cell v) : Inv X (pins ++ pinsAt fp s.heap) σ H s :=
  I.pins_of fun p hp => (List.mem_append.mp hp).elim (fun z => I.pin p (List.mem_append_right _ z)) fun z => by
    obtain ⟨hb, e⟩ := of_pinsAt z
    obtain ⟨f0, f1, f2, _⟩ := hf p.1 hb
    obtain ⟨o, e', d⟩ := ho p.1 hb
    rw [e] at e'; cases e'
    exact ⟨e, f0, f1, f2, d⟩
theorem Inv.unpinned {pins pl : List (Addr × Obj)} {σ : St} {H : Hp} {s : Shared} (I : Inv X (pins ++ pl) σ H s) : Inv X pins σ H s := I.pins_of fun p hp => I.pin p (List.mem_append_right _ (List.mem_append_left _ hp))
theorem ps_for {iter : Expr} {body : List Stmt} {wi : TI} {g : TG} {tb : TS} {pos : Pos} (hp : PassesOwn (model X.prog X.w) X.A X.env X.xe) (hc : X.calm = true) (hi : PI X tg iter wi) (hg : PG X tg g) (hb : PSs X body tb)
    (hs : ∀ x, foldedSetIterable iter X.env x = pure x := by intro _; rfl) : PS X (.For tg iter body [] pos) (tFor wi g tb) := by
  intro pins s σ H D I h
  refine wpAny_For (thn (hi pins s σ H _ I h) fun v s1 h1 => thn h1 fun itv s2 h2 => ?_) hs
  obtain ⟨it, fp, tn, J, H2, e, I2, T, st2, f2, W, ⟨m0, w0⟩, turn⟩ := h2
  subst e
  -- what stays true of the iterator's objects through the loop
  have stat : ∀ {H' : Hp}, (∀ b ∈ fp, H' b = none) → ∀ b ∈ fp, FpOk X pins H' b := fun hn b hb => ⟨hn b hb, (f2 b hb).2⟩
  refine codeAny_forLoop_any (fun n s' => ∃ i σ' H', Inv X pins σ' H' s' ∧ tn i s'.heap ∧ (∀ b ∈ fp, H' b = none) ∧ W i n σ' H') ?_ m0 ⟨0, σ, H2, I2, st2, fun b hb => (f2 b hb).1, w0⟩
  rintro n s3 ⟨i, σ3, H3, I3, st3, fr3, w3⟩
  rcases turn i n σ3 H3 w3 with ⟨stop, qn⟩ | ⟨go, N, hN, step⟩
  · refine wpAny_passesOwn hp (thn (T.done X rfl rfl rfl hc i pins s3 σ3 H3 X.xe I3 (stat fr3) st3 stop) fun r s4 ⟨hr, I4⟩ => ?_)
    subst hr
    exact wpAny_execs_nil ⟨σ3, H3, I4, qn⟩
  · refine wpAny_passesOwn hp (thn (T.item X rfl rfl rfl hc i pins s3 σ3 H3 X.xe I3 (stat fr3) st3 go) fun r s4 ⟨u, hr, h4⟩ => ?_)
    subst hr
    refine wpAny_passesOwn hp (thn h4 fun _ s5 ⟨x, H5, I5, r5, y5, st5, fr5⟩ => ?_)
    have I5' := I5.pinned (stat fr5) (T.obj _ _ st5)
    refine wpAny_passesOwn hp (thn (hg _ s5 σ3 H5 x u _ I5' r5 (step x H5 y5)) fun _ s6 ⟨σ6, H6, I6, q6⟩ => ?_)
    refine wpAny_passesOwn hp (thn (hb _ s6 σ6 H6 _ I6 q6) fun f s7 q7 => ?_)
    have again : ∀ {σ7 : St} {H7 : Hp}, Inv X (pins ++ pinsAt fp s5.heap) σ7 H7 s7 → N σ7 H7 → ∃ m, m < n ∧ ∃ i σ' H', Inv X pins σ' H' s7 ∧ tn i s7.heap ∧ (∀ b ∈ fp, H' b = none) ∧ W i m σ' H' := fun {σ7 H7} I7 n7 => by
      obtain ⟨m', hm, w7⟩ := hN σ7 H7 n7
      refine ⟨m', hm, i + 1, σ7, H7, I7.unpinned, T.keep _ _ _ st5 fun b hb o e => (I7.pin (b, o) (List.mem_append_right _ (List.mem_append_right _ (mem_pinsAt hb e)))).1, fun b hb => ?_, w7⟩
      obtain ⟨o, e, d⟩ := T.obj _ _ st5 b hb
      exact (I7.pin (b, o) (List.mem_append_right _ (List.mem_append_right _ (mem_pinsAt hb e)))).2.1
    cases f with
    | next => obtain ⟨σ7, H7, I7, n7⟩ := q7; exact again I7 n7
    | cont => obtain ⟨σ7, H7, I7, n7⟩ := q7; exact again I7 n7
    | brk => obtain ⟨σ7, H7, I7, q7⟩ := q7; exact ⟨σ7, H7, I7.unpinned, q7⟩
    | ret v => obtain ⟨x7, σ7, H7, I7, r7, q7⟩ := q7; exact ⟨x7, σ7, H7, I7.unpinned, r7, q7⟩
end

theorem for_list {K : PySem.W.Frag} {a : Addr} {xs : List V} {g : TG} {tb : TS} {D : Ends} {σ : St} {H : Hp} (Pv : Nat → St → Hp → Prop) (h0 : Pv 0 σ H) (hl : ∀ i σ H, i ≤ xs.length → Pv i σ H → SqL K H a xs)
    (hs : ∀ i x σ H, xs[i]? = some x → Pv i σ H → g x σ H fun σ2 H2 => tb { D with nx := Pv (i + 1), ct := Pv (i + 1), bk := D.nx } σ2 H2) (hd : ∀ σ H, Pv xs.length σ H → D.nx σ H) :
    ∃ W : Nat → Nat → St → Hp → Prop, (∃ m, W 0 m σ H) ∧ ∀ i m σ H, W i m σ H →
      ((Itl K a).stop i H ∧ D.nx σ H) ∨ ((Itl K a).go i H ∧ ∃ N : St → Hp → Prop, (∀ σ' H', N σ' H' → ∃ m', m' < m ∧ W (i + 1) m' σ' H') ∧ ∀ x H', (Itl K a).yld i H x H' → g x σ H' fun σ2 H2 => tb { D with nx := N, ct := N, bk := D.nx } σ2 H2) := by
  refine ⟨fun i m σ H => m = xs.length - i ∧ i ≤ xs.length ∧ Pv i σ H, ⟨xs.length, by simp, Nat.zero_le _, h0⟩, ?_⟩
  rintro i m σ H ⟨rfl, hi, p⟩
  have q := hl i σ H hi p
  by_cases hlt : i < xs.length
  · refine .inr ⟨⟨xs, xs[i], q, by simp [hlt]⟩, Pv (i + 1), fun σ' H' p' => ⟨xs.length - (i + 1), by omega, rfl, hlt, p'⟩, fun x H' y => ?_⟩
    obtain ⟨e, y⟩ := y
    subst e
    exact hs i x σ _ (y xs q) p
  · have e : i = xs.length := by omega
    subst e
    exact .inl ⟨⟨xs, q, Nat.le_refl _⟩, hd σ H p⟩
theorem for_range {lo : Int} {n : Nat} {g : TG} {tb : TS} {D : Ends} {σ : St} {H : Hp} (Pv : Nat → St → Hp → Prop) (h0 : Pv 0 σ H)
    (hs : ∀ i σ H, i < n → Pv i σ H → g (.int (lo + i)) σ H fun σ2 H2 => tb { D with nx := Pv (i + 1), ct := Pv (i + 1), bk := D.nx } σ2 H2) (hd : ∀ σ H, Pv n σ H → D.nx σ H) :
    ∃ W : Nat → Nat → St → Hp → Prop, (∃ m, W 0 m σ H) ∧ ∀ i m σ H, W i m σ H →
      ((Itr lo n).stop i H ∧ D.nx σ H) ∨ ((Itr lo n).go i H ∧ ∃ N : St → Hp → Prop, (∀ σ' H', N σ' H' → ∃ m', m' < m ∧ W (i + 1) m' σ' H') ∧ ∀ x H', (Itr lo n).yld i H x H' → g x σ H' fun σ2 H2 => tb { D with nx := N, ct := N, bk := D.nx } σ2 H2) := by
  refine ⟨fun i m σ H => m = n - i ∧ i ≤ n ∧ Pv i σ H, ⟨n, by simp, Nat.zero_le _, h0⟩, ?_⟩
  rintro i m σ H ⟨rfl, hi, p⟩
  by_cases hlt : i < n
  · refine .inr ⟨hlt, Pv (i + 1), fun σ' H' p' => ⟨n - (i + 1), by omega, rfl, hlt, p'⟩, fun x H' y => ?_⟩
    obtain ⟨e, y⟩ := y
    subst e y
    exact hs i σ _ hlt p
  · have e : i = n := by omega
    subst e
    exact .inl ⟨Nat.le_refl _, hd σ H p⟩
end L2

namespace L2
open PySem PySem.Spec PyProof.Rows

abbrev R2 := V → V → Hp → VK → Prop
def OpR (X : Cx) (f : Value → Value → Sem Value) (r : R2) : Prop :=
  ∀ (pins : List (Addr × Obj)) (s : Shared) (σ : St) (H : Hp) (x y : V) (v u : Value) (Q : VK), Inv X pins σ H s → RelV x v → RelV y u → r x y H Q →
    wpAny (model X.prog X.w) X.A (f v u) (EP X pins σ Q) X.xe s
def UnR (X : Cx) (f : Value → Sem Value) (r : V → Hp → VK → Prop) : Prop :=
  ∀ (pins : List (Addr × Obj)) (s : Shared) (σ : St) (H : Hp) (x : V) (v : Value) (Q : VK), Inv X pins σ H s → RelV x v → r x H Q →
    wpAny (model X.prog X.w) X.A (f v) (EP X pins σ Q) X.xe s
def CallR (X : Cx) (f : Value) (r : List V → Hp → VK → Prop) : Prop :=
  ∀ (pins : List (Addr × Obj)) (s : Shared) (σ : St) (H : Hp) (xs : List V) (us : List Value) (Q : VK), Inv X pins σ H s → Vals xs us → r xs H Q →
    wpAny (model X.prog X.w) X.A (call f us) (EP X pins σ Q) X.xe s
def tOp (r : R2) (ta tb : TE) : TE := fun σ H Q => ta σ H fun x H1 => tb σ H1 fun y H2 => r x y H2 Q
def tUn (r : V → Hp → VK → Prop) (ta : TE) : TE := fun σ H Q => ta σ H fun x H1 => r x H1 Q
def rI (C : Int → Int → Prop) (g : Int → Int → V) : R2 := fun x y H Q => ∃ i j, x = .int i ∧ y = .int j ∧ C i j ∧ Q (g i j) H
def rI0 (g : Int → Int → V) : R2 := fun x y H Q => ∃ i j, x = .int i ∧ y = .int j ∧ Q (g i j) H
def rU (g : Int → V) : V → Hp → VK → Prop := fun x H Q => ∃ i, x = .int i ∧ Q (g i) H

section
variable {X : Cx} {a b c : Expr} {ta tb tc : TE} {pos : Pos}

theorem binT (ha : PE X a ta) (hb : PE X b tb) {pins : List (Addr × Obj)} {s : Shared} {σ : St} {H : Hp} {R : V → V → Hp → Prop} (I : Inv X pins σ H s)
    (h : ta σ H fun x H1 => tb σ H1 fun y H2 => R x y H2) {Q : Value → Shared → Prop} {f : Value → Value → Sem Value}
    (hf : ∀ v u s2 x y H2, Inv X pins σ H2 s2 → RelV x v → RelV y u → R x y H2 → wpAny (model X.prog X.w) X.A (f v u) Q X.xe s2) :
    wpAny (model X.prog X.w) X.A (eval a X.env) (fun v s₁ => wpAny (model X.prog X.w) X.A (eval b X.env) (fun u s₂ => wpAny (model X.prog X.w) X.A (f v u) Q X.xe s₂) X.xe s₁) X.xe s := by
  refine thn (ha pins s σ H _ I h) fun v s1 ⟨x, H1, I1, r1, q1⟩ => ?_
  refine thn (hb pins s1 σ H1 _ I1 q1) fun u s2 ⟨y, H2, I2, r2, q2⟩ => ?_
  exact hf v u s2 x y H2 I2 r1 r2 q2

theorem pe_op {op : Operator} {r : R2} (ho : OpR X (binaryOp op) r) (ha : PE X a ta) (hb : PE X b tb) : PE X (.BinOp a op b pos) (tOp r ta tb) := by
  intro pins s σ H Q I h
  exact wpAny_BinOp (binT ha hb I h fun v u s2 x y H2 I2 rx ry q => ho pins s2 σ H2 x y v u Q I2 rx ry q)
theorem pe_un {op : UnaryOp} {r : V → Hp → VK → Prop} (ho : UnR X (unaryOp op) r) (ha : PE X a ta) : PE X (.UnaryOp op a pos) (tUn r ta) := by
  intro pins s σ H Q I h
  exact UnaryOp_ (thn (ha pins s σ H _ I h) fun v s1 ⟨x, H1, I1, r1, q1⟩ => ho pins s1 σ H1 x v Q I1 r1 q1)
theorem opI {f : Value → Value → Sem Value} {C : Int → Int → Prop} {g : Int → Int → Int}
    (rule : ∀ (i j : Int) (t u : Tok) (s : Shared) (Q : Value → Shared → Prop) (E : Value → Shared → Prop), C i j → Q (.int (g i j) s.toks) { s with toks := s.toks + 1 } → wpAny (model X.prog X.w) X.A (f (.int i t) (.int j u)) Q E s) :
    OpR X f (rI C fun i j => .int (g i j)) := by
  intro pins s σ H x y v u Q I rx ry h
  obtain ⟨i, j, rfl, rfl, hc, q⟩ := h
  obtain ⟨t, rfl⟩ := rx
  obtain ⟨t', rfl⟩ := ry
  exact rule i j t t' s _ _ hc ⟨.int (g i j), H, I.tok _, ⟨_, rfl⟩, q⟩
theorem opI0 {f : Value → Value → Sem Value} {g : Int → Int → Int}
    (rule : ∀ (i j : Int) (t u : Tok) (s : Shared) (Q : Value → Shared → Prop) (E : Value → Shared → Prop), Q (.int (g i j) s.toks) { s with toks := s.toks + 1 } → wpAny (model X.prog X.w) X.A (f (.int i t) (.int j u)) Q E s) :
    OpR X f (rI0 fun i j => .int (g i j)) := by
  intro pins s σ H x y v u Q I rx ry h
  obtain ⟨i, j, rfl, rfl, q⟩ := h
  obtain ⟨t, rfl⟩ := rx
  obtain ⟨t', rfl⟩ := ry
  exact rule i j t t' s _ _ ⟨.int (g i j), H, I.tok _, ⟨_, rfl⟩, q⟩
theorem opB0 {f : Value → Value → Sem Value} {g : Int → Int → Bool}
    (rule : ∀ (i j : Int) (t u : Tok) (s : Shared) (Q : Value → Shared → Prop) (E : Value → Shared → Prop), Q (.bool (g i j)) s → wpAny (model X.prog X.w) X.A (f (.int i t) (.int j u)) Q E s) :
    OpR X f (rI0 fun i j => .bl (g i j)) := by
  intro pins s σ H x y v u Q I rx ry h
  obtain ⟨i, j, rfl, rfl, q⟩ := h
  obtain ⟨t, rfl⟩ := rx
  obtain ⟨t', rfl⟩ := ry
  exact rule i j t t' s _ _ ⟨.bl (g i j), H, I, rfl, q⟩

def CPow (i j : Int) : Prop := 0 ≤ j ∧ j ≤ 1000000 ∧ i.natAbs < 2 ^ 64
def CMul (i j : Int) : Prop := (-(2 ^ 64) < i ∧ i < 2 ^ 64) ∨ (-(2 ^ 64) < j ∧ j < 2 ^ 64)
theorem CMul.ok {i j : Int} (h : CMul i j) : IntMulOk i j := by
  rcases h with ⟨h1, h2⟩ | ⟨h1, h2⟩
  · exact .of_left (intBits_le_64 h1 h2)
  · exact .of_right (intBits_le_64 h1 h2)
theorem two_pow_nn (k : Nat) : (0 : Int) ≤ 2 ^ k := by
  rw [two_pow_cast]
  exact Int.natCast_nonneg _

theorem op_add : OpR X (binaryOp .Add) (rI0 fun i j => .int (i + j)) := opI0 fun _ _ _ _ _ _ _ q => add_int q
theorem op_sub : OpR X (binaryOp .Sub) (rI0 fun i j => .int (i - j)) := opI0 fun _ _ _ _ _ _ _ q => sub_int q
theorem op_mod : OpR X (binaryOp .Mod) (rI (fun _ j => 0 < j) fun i j => .int (i % j)) := opI fun i j _ _ _ _ _ hc q => by
  have h1 : (0 : Int) < j := hc
  exact mod_int' (by omega) (by rw [Int.fmod_eq_emod_of_nonneg i (by omega)]; exact q)
theorem op_shl : OpR X (binaryOp .LShift) (rI CPow fun i j => .int (i * 2 ^ j.toNat)) := opI fun _ _ _ _ _ _ _ hc q => lshift_int_small hc.1 hc.2.1 hc.2.2 q
theorem op_shr : OpR X (binaryOp .RShift) (rI (fun _ j => 0 ≤ j) fun i j => .int (i / 2 ^ j.toNat)) := opI fun i j _ _ _ _ _ hc q =>
  rshift_int hc (by rw [Int.fdiv_eq_ediv_of_nonneg i (two_pow_nn _)]; exact q)
theorem op_and : OpR X (binaryOp .BitAnd) (rI0 fun i j => .int (Builtin.bitAnd i j)) := opI0 fun _ _ _ _ _ _ _ q => and_int q
theorem unI {f : Value → Sem Value} {g : Int → Int}
    (rule : ∀ (i : Int) (t : Tok) (s : Shared) (Q : Value → Shared → Prop) (E : Value → Shared → Prop), Q (.int (g i) s.toks) { s with toks := s.toks + 1 } → wpAny (model X.prog X.w) X.A (f (.int i t)) Q E s) :
    UnR X f (rU fun i => .int (g i)) := by
  intro pins s σ H x v Q I rx h
  obtain ⟨i, rfl, q⟩ := h
  obtain ⟨t, rfl⟩ := rx
  exact rule i t s _ _ ⟨.int (g i), H, I.tok _, ⟨_, rfl⟩, q⟩
theorem un_neg : UnR X (unaryOp .USub) (rU fun i => .int (-i)) := unI fun _ _ _ _ _ q => neg_int q
end

def scal : V → V → Bool
  | .non, .non => true | .non, .int _ => true | .int _, .non => true | .non, .bl _ => true | .bl _, .non => true | .non, .str _ => true | .str _, .non => true
  | .int _, .int _ => true | .bl _, .bl _ => true | .str _, .str _ => true | .byt _, .byt _ => true
  | .int _, .str _ => true | .str _, .int _ => true | .bl _, .str _ => true | .str _, .bl _ => true
  | _, _ => false
def rEq : R2 := fun x y H Q => scal x y = true ∧ Q (.bl (decide (x = y))) H
def rNe : R2 := fun x y H Q => scal x y = true ∧ Q (.bl (!decide (x = y))) H

theorem dec_int {i j : Int} : decide (V.int i = V.int j) = (i == j) := by
  rw [Bool.eq_iff_iff]
  simp
theorem dec_bl {i j : Bool} : decide (V.bl i = V.bl j) = (i == j) := by
  rw [Bool.eq_iff_iff]
  simp
theorem dec_str {i j : Str} : decide (V.str i = V.str j) = (i == j) := by
  rw [Bool.eq_iff_iff]
  simp
theorem dec_byt {i j : Array UInt8} : decide (V.byt i = V.byt j) = (i.toList == j.toList) := by
  rw [Bool.eq_iff_iff]
  cases i
  cases j
  simp

section
variable {X : Cx} {a b c : Expr} {ta tb tc : TE} {pos : Pos}
theorem fin_bl {pins : List (Addr × Obj)} {σ : St} {H : Hp} {s : Shared} {Q : VK} {k k' : Bool} (I : Inv X pins σ H s) (q : Q (.bl k) H) (e : k = k') : EP X pins σ Q (.bool k') s := by
  subst e
  exact ⟨.bl k, H, I, rfl, q⟩
theorem op_eq : OpR X (compareOp .Eq) rEq := by
  intro pins s σ H x y v u Q I rx ry h
  obtain ⟨hs, q⟩ := h
  cases x with
  | non =>
    cases rx
    cases y with
    | non => cases ry; exact PySem.EqNone.eq_none_none (fin_bl I q (by simp))
    | bl j => cases ry; exact PySem.EqNone.eq_none_bool (fin_bl I q (by simp))
    | int j => obtain ⟨t', rfl⟩ := ry; exact PySem.EqNone.eq_none_int (fin_bl I q (by simp))
    | str j => obtain ⟨t', rfl⟩ := ry; exact PySem.EqNone.eq_none_str (fin_bl I q (by simp))
    | _ => exact absurd (show false = true from hs) Bool.false_ne_true
  | bl i =>
    cases rx
    cases y with
    | non => cases ry; exact PySem.EqNone.eq_bool_none (fin_bl I q (by simp))
    | bl j => cases ry; exact eq_bool (fin_bl I q dec_bl)
    | str j => obtain ⟨t', rfl⟩ := ry; exact PySem.EqMixed.eq_bool_str (fin_bl I q (by simp))
    | _ => exact absurd (show false = true from hs) Bool.false_ne_true
  | int i =>
    obtain ⟨t, rfl⟩ := rx
    cases y with
    | non => cases ry; exact PySem.EqNone.eq_int_none (fin_bl I q (by simp))
    | int j => obtain ⟨t', rfl⟩ := ry; exact eq_int (fin_bl I q dec_int)
    | str j => obtain ⟨t', rfl⟩ := ry; exact PySem.EqMixed.eq_int_str (fin_bl I q (by simp))
    | _ => exact absurd (show false = true from hs) Bool.false_ne_true
  | str i =>
    obtain ⟨t, rfl⟩ := rx
    cases y with
    | non => cases ry; exact PySem.EqNone.eq_str_none (fin_bl I q (by simp))
    | bl j => cases ry; exact PySem.EqMixed.eq_str_bool (fin_bl I q (by simp))
    | int j => obtain ⟨t', rfl⟩ := ry; exact PySem.EqMixed.eq_str_int (fin_bl I q (by simp))
    | str j => obtain ⟨t', rfl⟩ := ry; exact eq_str (fin_bl I q dec_str)
    | _ => exact absurd (show false = true from hs) Bool.false_ne_true
  | byt i =>
    obtain ⟨t, rfl⟩ := rx
    cases y with
    | byt j => obtain ⟨t', rfl⟩ := ry; exact PySem.W.eq_bytes (fin_bl I q dec_byt)
    | _ => exact absurd (show false = true from hs) Bool.false_ne_true
  | _ => cases y <;> exact absurd (show false = true from hs) Bool.false_ne_true
theorem op_ne : OpR X (compareOp .NotEq) rNe := by
  intro pins s σ H x y v u Q I rx ry h
  obtain ⟨hs, q⟩ := h
  cases x with
  | non =>
    cases rx
    cases y with
    | non => cases ry; exact PySem.EqNone.ne_none_none (fin_bl I q (by simp))
    | bl j => cases ry; exact PySem.EqNone.ne_none_bool (fin_bl I q (by simp))
    | int j => obtain ⟨t', rfl⟩ := ry; exact PySem.EqNone.ne_none_int (fin_bl I q (by simp))
    | str j => obtain ⟨t', rfl⟩ := ry; exact PySem.EqNone.ne_none_str (fin_bl I q (by simp))
    | _ => exact absurd (show false = true from hs) Bool.false_ne_true
  | bl i =>
    cases rx
    cases y with
    | non => cases ry; exact PySem.EqNone.ne_bool_none (fin_bl I q (by simp))
    | bl j => cases ry; exact ne_bool (fin_bl I q (congrArg not dec_bl))
    | str j => obtain ⟨t', rfl⟩ := ry; exact PySem.EqMixed.ne_bool_str (fin_bl I q (by simp))
    | _ => exact absurd (show false = true from hs) Bool.false_ne_true
  | int i =>
    obtain ⟨t, rfl⟩ := rx
    cases y with
    | non => cases ry; exact PySem.EqNone.ne_int_none (fin_bl I q (by simp))
    | int j => obtain ⟨t', rfl⟩ := ry; exact ne_int (fin_bl I q (congrArg not dec_int))
    | str j => obtain ⟨t', rfl⟩ := ry; exact PySem.EqMixed.ne_int_str (fin_bl I q (by simp))
    | _ => exact absurd (show false = true from hs) Bool.false_ne_true
  | str i =>
    obtain ⟨t, rfl⟩ := rx
    cases y with
    | non => cases ry; exact PySem.EqNone.ne_str_none (fin_bl I q (by simp))
    | bl j => cases ry; exact PySem.EqMixed.ne_str_bool (fin_bl I q (by simp))
    | int j => obtain ⟨t', rfl⟩ := ry; exact PySem.EqMixed.ne_str_int (fin_bl I q (by simp))
    | str j => obtain ⟨t', rfl⟩ := ry; exact ne_str (fin_bl I q (congrArg not dec_str))
    | _ => exact absurd (show false = true from hs) Bool.false_ne_true
  | byt i =>
    obtain ⟨t, rfl⟩ := rx
    cases y with
    | byt j => obtain ⟨t', rfl⟩ := ry; exact PySem.W.ne_bytes (fin_bl I q (congrArg not dec_byt))
    | _ => exact absurd (show false = true from hs) Bool.false_ne_true
  | _ => cases y <;> exact absurd (show false = true from hs) Bool.false_ne_true

theorem op_lt : OpR X (compareOp .Lt) (rI0 fun i j => .bl (decide (i < j))) := opB0 fun _ _ _ _ _ _ _ q => lt_int q
theorem op_le : OpR X (compareOp .LtE) (rI0 fun i j => .bl (decide (i ≤ j))) := opB0 fun _ _ _ _ _ _ _ q => le_int q
theorem op_gt : OpR X (compareOp .Gt) (rI0 fun i j => .bl (decide (j < i))) := opB0 fun _ _ _ _ _ _ _ q => gt_int q
theorem op_ge : OpR X (compareOp .GtE) (rI0 fun i j => .bl (decide (j ≤ i))) := opB0 fun _ _ _ _ _ _ _ q => ge_int q
theorem op_isN : OpR X (compareOp .Is) (fun x y H Q => y = .non ∧ Q (.bl (decide (x = .non))) H) := by
  intro pins s σ H x y v u Q I rx ry h
  obtain ⟨rfl, q⟩ := h
  cases ry
  refine is_none_gen (fin_bl I q ?_)
  cases x <;> first
    | (cases rx; rfl)
    | (obtain ⟨t, rfl⟩ := rx; rfl)
theorem op_notN : OpR X (compareOp .IsNot) (fun x y H Q => y = .non ∧ Q (.bl (!decide (x = .non))) H) := by
  intro pins s σ H x y v u Q I rx ry h
  obtain ⟨rfl, q⟩ := h
  cases ry
  refine isnot_none_gen (fin_bl I q ?_)
  cases x <;> first
    | (cases rx; rfl)
    | (obtain ⟨t, rfl⟩ := rx; rfl)

theorem OpR.or {f : Value → Value → Sem Value} {r r' : R2} (h : OpR X f r) (h' : OpR X f r') : OpR X f (fun x y H Q => r x y H Q ∨ r' x y H Q) := by
  intro pins s σ H x y v u Q I rx ry q
  rcases q with q | q
  · exact h pins s σ H x y v u Q I rx ry q
  · exact h' pins s σ H x y v u Q I rx ry q

theorem nomark (b : Expr) {op : CmpOp} (h : op ≠ .In := by decide) (h2 : op ≠ .NotIn := by decide) : behindInMarks op b = false := by
  have e1 : (op == CmpOp.In) = false := by cases op <;> first | rfl | exact absurd rfl h
  have e2 : (op == CmpOp.NotIn) = false := by cases op <;> first | rfl | exact absurd rfl h2
  cases b <;> simp [behindInMarks, e1, e2]
theorem pe_cmpR {op : CmpOp} {r : R2} (ho : OpR X (compareOp op) r) (ha : PE X a ta) (hb : PE X b tb) (hm : behindInMarks op b = false) : PE X (.Compare a [op] [b] pos) (tOp r ta tb) := by
  intro pins s σ H Q I h
  exact wpAny_Compare1 (binT ha hb I h fun v u s2 x y H2 I2 rx ry q => ho pins s2 σ H2 x y v u Q I2 rx ry q) hm
def tTest (t : TE) : TT := fun σ H Q => t σ H fun x H' => ∃ k, x = .bl k ∧ Q k H'
theorem pt_cmpR {op : CmpOp} {r : R2} (ho : OpR X (compareOp op) r) (ha : PE X a ta) (hb : PE X b tb) (hm : behindInMarks op b = false) : PT X (.Compare a [op] [b] pos) (tTest (tOp r ta tb)) := by
  intro pins s σ H Q I h
  refine wpAny_isTrue_Compare1 (thn (ha pins s σ H _ I h) fun v s1 ⟨x, H1, I1, r1, q1⟩ => thn (hb pins s1 σ H1 _ I1 q1) fun u s2 ⟨y, H2, I2, r2, q2⟩ =>
    thn (ho pins s2 σ H2 x y v u _ I2 r1 r2 q2) fun c s3 ⟨z, H3, I3, r3, k, e, q3⟩ => ?_) hm
  subst e
  cases r3
  exact wpAny_truthy_bool ⟨H3, I3, q3⟩
theorem line63 : (sizeLine : Nat) < 2 ^ 63 := by rw [sizeLine_eq]; decide
theorem vals1 {x : V} {us : List Value} (r : Vals [x] us) : ∃ u, us = [u] ∧ RelV x u := by
  cases r with
  | cons r1 r2 => cases r2; exact ⟨_, rfl, r1⟩
end
end L2

namespace L2
open PySem PySem.Spec PyProof.Rows

structure ObjM (h : Heap) (x dx C : Addr) (mA : Str → Option Value) : Prop where
  obj : h.get? x = some (PySem.W.instObj C dx)
  ns : h.Ns1 dx mA
  ne : dx ≠ x

theorem lookIn_ns {h : Heap} {dx : Addr} {mA : Str → Option Value} (n : h.Ns1 dx mA) : ∃ od, h.get? dx = some od ∧ ∀ name, PySem.W.lookIn name od = some (mA name) := by
  obtain ⟨o, es, ep, ho, hd, hk, _, hm⟩ := n
  refine ⟨o, ho, fun name => ?_⟩
  have e := hm name
  unfold nsFind findBy at e
  rw [← Array.find?_toList] at e
  unfold PySem.W.lookIn
  rw [hd]
  dsimp only
  split
  · rename_i y q
    rw [q] at e
    exact congrArg some e
  · rename_i q
    rw [q] at e
    have a : es.toList.any (·.refKey) = false := by
      rw [List.any_eq_false]
      intro y hy
      obtain ⟨z, t, hkey⟩ := hk y (Array.mem_toList_iff.mp hy)
      simp [DictEntry.refKey, hkey]
    have a' : ¬ es.toList.any (·.refKey) = true := by rw [a]; exact Bool.false_ne_true
    rw [if_neg a']
    exact congrArg some e

theorem ObjM.look {h : Heap} {x dx C : Addr} {mA : Str → Option Value} (I : ObjM h x dx C mA) : ∃ od, PySem.W.InstAt h x (PySem.W.instObj C dx) C (some od) ∧ ∀ name, PySem.W.lookIn name od = some (mA name) :=
  let ⟨od, ho, hl⟩ := lookIn_ns I.ns
  ⟨od, ⟨I.obj, rfl, rfl, ho⟩, hl⟩

section
variable {prog : Program} {w : World} {A : Around} {E : Value → Shared → Prop} {s : Shared} {K : PySem.W.Frag} {x dx C f : Addr} {mA : Str → Option Value} {name : Str} {v : Value}

theorem get_map {expr : Bool} {Q : Value → Shared → Prop} (X : K.In s.heap) (I : ObjM s.heap x dx C mA) (hg : PySem.W.plainGet K C name = true) (hh : PySem.W.hasDictIn K C = true)
    (ha : PySem.W.findIn K (.ref C) name = some none) (hv : mA name = some v) (hv' : PySem.W.handedIn v = true) (h : Q v { s with toks := s.toks + 1 }) :
    wpAny (model prog w) A (getAttr (.ref x) name expr) Q E s := by
  obtain ⟨od, J, hl⟩ := I.look
  exact PySem.W.get_value X J (PySem.W.plainGet_of hg).1 (PySem.W.findObj_own hh ha rfl (by rw [hl, hv])) hv' h

theorem get_meth {pl : Sem Bool} {Q : Value × List Value → Shared → Prop} (X : K.In s.heap) (I : ObjM s.heap x dx C mA) (hg : PySem.W.plainGet K C name = true)
    (hf : PySem.W.findIn K (.ref C) name = some (some (.ref f))) (ht : PySem.W.isFn K (.ref f) = true) (hv : mA name = none) (h : Q (.ref f, [.ref x]) s) :
    wpAny (model prog w) A (getMethod (.ref x) name pl) Q E s := by
  obtain ⟨od, J, hl⟩ := I.look
  exact PySem.W.method_fn X J (PySem.W.plainGet_of hg).1 (PySem.W.plainGet_of hg).2 hf (beq_iff_eq.mp ht) (by show (PySem.W.lookIn name od).map (·.isSome) = some false; rw [hl, hv]; rfl) h

theorem set_map {ns : List Str} {Q : Unit → Shared → Prop} (X : K.In s.heap) (I : ObjM s.heap x dx C mA)
    (hs : PySem.W.findIn K (.ref C) "__setattr__" = some (some (.builtin "object.__setattr__"))) (hp : PySem.W.plainOver K C = true) (ht : PySem.W.takerIn K C name = some none) (hh : PySem.W.hasDictIn K C = true)
    (hw : PySem.Within mA ns) (hsz : ns.length ≤ sizeLine)
    (h : ∀ h', ObjM h' x dx C (fun y => if y = name then some v else mA y) → Heap.SameBut dx s.heap h' → Q () { s with heap := h', toks := s.toks + 2 }) :
    wpAny (model prog w) A (setAttr (.ref x) name v) Q E s := by
  obtain ⟨od, J, hl⟩ := I.look
  refine PySem.W.set_plain X J hs (PySem.W.osa_open (s := { s with toks := s.toks + 1 }) (r := none) X J hp ht fun b => ?_)
  obtain ⟨cd, hc, hd'⟩ := PySem.W.any_some hh
  have hx : s.heap.get? x = some ⟨.ref C, some dx, .plain, #[]⟩ := I.obj
  refine wpAny_bind (wpAny_pure (wpAny_bind (wpAny_bind (wpAny_loadPart hx (wpAny_bind (PySem.W.Looks.here (s := { s with toks := s.toks + 1 }) (PySem.W.looks_clsIn X hc) ?_))))))
  rw [hd']
  refine wpAny_pure (a := some dx) (wpAny_bind (wpAny_pure (wpAny_bind ?_)))
  refine wpAny_nsSet1 (s := { s with toks := s.toks + 1 }) I.ns fun h' hn2 hs2 => ?_
  obtain ⟨oD, esD, epD, hoD, hdD, hcD⟩ := hn2.count (PySem.Within.cons name v hw)
  refine wpAny_bind (wpAny_lookBehind hoD (by rw [hdD]; exact pastItsLine_dict (Nat.le_trans hcD (by rw [List.length_cons]; omega))) ?_)
  exact wpAny_pure (h _ ⟨(hs2.2 _ (Ne.symm I.ne)).trans I.obj, hn2, I.ne⟩ hs2)

theorem make_map {R : Result → Shared → Prop} {vs : List Value} {kw : List (Str × Value)} (X : K.In s.heap) (hm : PySem.W.makesIn K C = true)
    (hi : PySem.W.findIn K (.ref C) "__init__" = some (some (.ref f))) (hf : PySem.W.typeIn K (.ref f) = some (.type "function"))
    (h : codeAny (model prog w) (A.under (.builtin "type.__call__" ⟨.ref C :: vs, kw⟩)) (.call (.ref f) ⟨.ref (s.heap.objs.size + 1) :: vs, kw⟩) (PySem.W.InitBack (s.heap.objs.size + 1) R)
      { s with heap := (s.heap.push PySem.W.emptyDict).push (PySem.W.instObj C s.heap.objs.size) }) :
    codeAny (model prog w) A (.call (.ref C) ⟨vs, kw⟩) R s := by
  obtain ⟨hh, g, d, t, os⟩ := s
  exact PySem.W.make_core (PySem.W.makes_of X hm) (PySem.W.looks_findIn X hi) (fun self => PySem.W.bind_fn X self hf) (.inl rfl) h
end

def putF (f : Str) (v : V) : List (Str × V) → List (Str × V)
  | [] => [(f, v)]
  | (g, x) :: r => if g = f then (g, v) :: r else (g, x) :: putF f v r
theorem lookup_putF (f g : Str) (v : V) : ∀ fs : List (Str × V), (putF f v fs).lookup g = if g = f then some v else fs.lookup g
  | [] => by
    show List.lookup g [(f, v)] = _
    by_cases h : g = f
    · have hb : (g == f) = true := beq_iff_eq.mpr h
      simp only [List.lookup, hb, if_pos h]
    · have hb : (g == f) = false := beq_eq_false_iff_ne.mpr h
      simp only [List.lookup, hb, if_neg h]
  | (k, x) :: r => by
    have ih := lookup_putF f g v r
    rw [show putF f v ((k, x) :: r) = (if k = f then (k, v) :: r else (k, x) :: putF f v r) from rfl]
    by_cases hk : k = f
    · rw [if_pos hk]
      by_cases h : g = k
      · have hb : (g == k) = true := beq_iff_eq.mpr h
        simp only [List.lookup, hb, if_pos (h.trans hk)]
      · have hb : (g == k) = false := beq_eq_false_iff_ne.mpr h
        simp only [List.lookup, hb, if_neg (fun e : g = f => h (e.trans hk.symm))]
    · rw [if_neg hk]
      by_cases h : g = k
      · have hb : (g == k) = true := beq_iff_eq.mpr h
        simp only [List.lookup, hb, if_neg (fun e : g = f => hk (h.symm.trans e))]
      · have hb : (g == k) = false := beq_eq_false_iff_ne.mpr h
        simp only [List.lookup, hb]
        exact ih
theorem keys_putF (f : Str) (v : V) : ∀ fs : List (Str × V), f ∈ (putF f v fs).map (·.1) ∧ ∀ g, g ∈ fs.map (·.1) → g ∈ (putF f v fs).map (·.1)
  | [] => ⟨by simp [putF], fun g h => by simp at h⟩
  | (k, x) :: r => by
    obtain ⟨i1, i2⟩ := keys_putF f v r
    rw [show putF f v ((k, x) :: r) = (if k = f then (k, v) :: r else (k, x) :: putF f v r) from rfl]
    by_cases hk : k = f
    · rw [if_pos hk]
      subst hk
      exact ⟨by simp, fun g h => by simpa using h⟩
    · rw [if_neg hk]
      refine ⟨?_, fun g h => ?_⟩
      · rw [List.map_cons]
        exact List.mem_cons_of_mem _ i1
      · rw [List.map_cons] at h ⊢
        rcases List.mem_cons.mp h with e | e
        · exact List.mem_cons.mpr (.inl e)
        · exact List.mem_cons_of_mem _ (i2 g e)
theorem length_putF (f : Str) (v : V) : ∀ fs : List (Str × V), (putF f v fs).length ≤ fs.length + 1
  | [] => by simp [putF]
  | (k, x) :: r => by
    have ih := length_putF f v r
    rw [show putF f v ((k, x) :: r) = (if k = f then (k, v) :: r else (k, x) :: putF f v r) from rfl]
    by_cases hk : k = f
    · rw [if_pos hk, List.length_cons, List.length_cons]; omega
    · rw [if_neg hk, List.length_cons, List.length_cons]; omega

theorem RelO.some_of {v : V} {o : Option Value} (r : RelO (some v) o) : ∃ u, o = some u ∧ RelV v u := by
  cases o with
  | none => exact (show False from r).elim
  | some u => exact ⟨u, rfl, r⟩
theorem RelO.none_of {o : Option Value} (r : RelO none o) : o = none := by
  cases o with
  | none => rfl
  | some u => exact (show False from r).elim
theorem handed_of {v : V} {u : Value} (r : RelV v u) : PySem.W.handedIn u = true := by
  cases v with
  | non => cases (show u = Value.none from r); rfl
  | bl b => cases (show u = Value.bool b from r); rfl
  | int i => obtain ⟨t, e⟩ := (show ∃ t, u = Value.int i t from r); cases e; rfl
  | str x => obtain ⟨t, e⟩ := (show ∃ t, u = Value.str x t from r); cases e; rfl
  | byt b => obtain ⟨t, e⟩ := (show ∃ t, u = Value.bytes b t from r); cases e; rfl
  | flt b => obtain ⟨t, e⟩ := (show ∃ t, u = Value.float b t from r); cases e; rfl
  | ref a => cases (show u = Value.ref a from r); rfl
  | ty n => cases (show u = Value.type n from r); rfl

section
variable {P : Program} {w : World} {H H' : Hp} {h h' : Heap} {a C dx : Addr} {fs fs' : List (Str × V)}
theorem ins_get (hok : HOk P w H h) (e : H a = some (.ins C dx fs)) : ∃ mA, ObjM h a dx C mA ∧ (∀ f, RelO (fs.lookup f) (mA f)) ∧ PySem.Within mA (fs.map (·.1)) ∧ fs.length ≤ 1000 ∧ H dx = some (.own a) := by
  obtain ⟨d, z, ne, ob, mA, n, r, q⟩ := (show ObjOk P w H h a (.ins C dx fs) from hok a _ e)
  exact ⟨mA, ⟨ob, n, ne⟩, r, q, z, d⟩
end

structure Cls (K : PySem.W.Frag) (C : Addr) : Prop where
  pg : PySem.W.plainGet K C Str.empty = true
  hd : PySem.W.hasDictIn K C = true
  po : PySem.W.plainOver K C = true
  sa : PySem.W.findIn K (.ref C) "__setattr__" = some (some (.builtin "object.__setattr__"))
theorem Cls.get {K : PySem.W.Frag} {C : Addr} (c : Cls K C) (f : Str) : PySem.W.plainGet K C f = true := c.pg
def NoAttr (K : PySem.W.Frag) (C : Addr) (f : Str) : Prop := PySem.W.findIn K (.ref C) f = some none
theorem NoAttr.taker {K : PySem.W.Frag} {C : Addr} {f : Str} (n : NoAttr K C f) : PySem.W.takerIn K C f = some none := by
  unfold PySem.W.takerIn
  rw [show PySem.W.findIn K (.ref C) f = some none from n]
  rfl
structure Meth (K : PySem.W.Frag) (C : Addr) (m : Str) (f : Addr) : Prop where
  at_ : PySem.W.findIn K (.ref C) m = some (some (.ref f))
  fn : PySem.W.isFn K (.ref f) = true
  kp : PySem.W.keepIn K (.ref f) = true

section
variable {X : Cx} {pins : List (Addr × Obj)} {σ : St} {H : Hp} {s : Shared} {a C dx : Addr} {fs : List (Str × V)} {f : Str} {v : V} {A : Around} {E : Value → Shared → Prop}

theorem getattr_ok {b : Bool} {Q : Value → Shared → Prop} (I : Inv X pins σ H s) (e : H a = some (.ins C dx fs)) (c : Cls X.K C) (n : NoAttr X.K C f) (l : fs.lookup f = some v)
    (h : ∀ u s', Inv X pins σ H s' → RelV v u → Q u s') : wpAny (model X.prog X.w) A (getAttr (.ref a) f b) Q E s := by
  obtain ⟨mA, O, r, _, _, _⟩ := ins_get I.hok e
  obtain ⟨u, hu, ru⟩ := RelO.some_of (v := v) (o := mA f) (by rw [← l]; exact r f)
  exact get_map I.kIn O (c.get f) c.hd n hu (handed_of ru) (h u _ (I.tok _) ru)

theorem getmeth_ok {m : Str} {g : Addr} {pl : Sem Bool} {Q : Value × List Value → Shared → Prop} (I : Inv X pins σ H s) (e : H a = some (.ins C dx fs)) (c : Cls X.K C) (k : Meth X.K C m g) (l : fs.lookup m = none)
    (h : Q (.ref g, [.ref a]) s) : wpAny (model X.prog X.w) A (getMethod (.ref a) m pl) Q E s := by
  obtain ⟨mA, O, r, _, _, _⟩ := ins_get I.hok e
  have hn : mA m = none := RelO.none_of (by rw [← l]; exact r m)
  exact get_meth I.kIn O (c.get m) k.at_ k.fn hn h

theorem setattr_ok {y : V} {u : Value} {Q : Unit → Shared → Prop} (I : Inv X pins σ H s) (e : H a = some (.ins C dx fs)) (c : Cls X.K C) (n : NoAttr X.K C f) (hl : fs.length < 1000) (ry : RelV y u)
    (h : ∀ s', Inv X pins σ (upd H a (.ins C dx (putF f y fs))) s' → Q () s') : wpAny (model X.prog X.w) A (setAttr (.ref a) f u) Q E s := by
  obtain ⟨mA, O, r, wi, _, ho⟩ := ins_get I.hok e
  have hz : (fs.map (·.1)).length ≤ sizeLine := by rw [List.length_map, sizeLine_eq]; omega
  refine set_map I.kIn O c.sa c.po n.taker c.hd wi hz fun h' O' sb => h _ ?_
  have hd : ∃ o, h'.get? dx = some o := let ⟨o, _, _, e', _⟩ := O'.ns; ⟨o, e'⟩
  refine I.write (x := a) (e := dx) (by rw [e]; exact True.intro) (.inr ho) (fun b q hb z => (sb.2 b hb).trans z) hd ?_
  refine ⟨by rw [upd_ne O.ne]; exact ho, ?_, O.ne, O'.obj, _, O'.ns, fun g => ?_, fun g hg => ?_⟩
  · have := length_putF f y fs; omega
  · show RelO ((putF f y fs).lookup g) (if g = f then some u else mA g)
    rw [lookup_putF]
    by_cases q : g = f
    · rw [if_pos q, if_pos q]; exact ry
    · rw [if_neg q, if_neg q]; exact r g
  · by_cases q : g = f
    · rw [q]; exact (keys_putF f y fs).1
    · refine (keys_putF f y fs).2 g (wi g fun z => hg ?_)
      show (if g = f then some u else mA g) = none
      rw [if_neg q]; exact z

theorem Inv.made (I : Inv X pins σ H s) : Inv X pins σ (upd (upd H s.heap.objs.size (.own (s.heap.objs.size + 1))) (s.heap.objs.size + 1) (.ins C s.heap.objs.size []))
    { s with heap := (s.heap.push PySem.W.emptyDict).push (PySem.W.instObj C s.heap.objs.size) } := by
  have e1 : (s.heap.push PySem.W.emptyDict).get? s.heap.objs.size = some PySem.W.emptyDict := Heap.get?_push_size s.heap rfl
  have e2 : ((s.heap.push PySem.W.emptyDict).push (PySem.W.instObj C s.heap.objs.size)).get? (s.heap.objs.size + 1) = some (PySem.W.instObj C s.heap.objs.size) := by
    have := Heap.get?_push_size (s.heap.push PySem.W.emptyDict) (o := PySem.W.instObj C s.heap.objs.size) rfl
    rwa [Heap.size_push] at this
  have e3 : (s.heap.push PySem.W.emptyDict).Ns s.heap.objs.size (fun _ => none) := ⟨PySem.W.emptyDict, #[], _, e1, rfl, (fun e he => absurd he (by simp)), fun _ => rfl⟩
  have I1 := I.laid (a := s.heap.objs.size) (o := .own (s.heap.objs.size + 1)) (h' := s.heap.push PySem.W.emptyDict) (t' := s.toks) (fun b u q => Heap.get?_push_of_some _ q) (Nat.le_refl _) ⟨_, e1⟩
  refine I1.laid (a := s.heap.objs.size + 1) (o := .ins C s.heap.objs.size []) (t' := s.toks) (fun b u q => Heap.get?_push_of_some _ q) (Nat.le_of_eq (Heap.size_push _ _)) ?_
  have ne : s.heap.objs.size ≠ s.heap.objs.size + 1 := Nat.ne_of_lt (Nat.lt_succ_self _)
  refine ⟨by rw [upd_ne ne, upd_same], Nat.zero_le _, ne, e2, fun _ => none, (Heap.Ns1.of_empty e3).at fun o q => Heap.get?_push_of_some _ q, fun _ => True.intro, fun y hy => absurd rfl hy⟩

theorem attr_of {prog : Program} {w : World} {env : Env} {e : Expr} {f : Str} {pos : Pos} {s : Shared} {Q : Value → Shared → Prop} (hb : attributeBase e f env (eval e env) = eval e env)
    (h : wpAny (model prog w) A (eval e env) (fun o s₁ => wpAny (model prog w) A (getAttr o f true) Q E s₁) E s) : wpAny (model prog w) A (eval (.Attribute e f pos) env) Q E s :=
  Attribute_any_ h (by rw [arm_eval_Attribute, hb])
end

def tFld (K : PySem.W.Frag) (ta : TE) (f : Str) : TE := fun σ H Q => ta σ H fun x H1 => ∃ a C dx fs v, x = .ref a ∧ H1 a = some (.ins C dx fs) ∧ Cls K C ∧ NoAttr K C f ∧ fs.lookup f = some v ∧ Q v H1
def sFld (K : PySem.W.Frag) (ta tv : TE) (f : Str) : TS := fun D σ H => tv σ H fun y H1 => ta σ H1 fun x H2 => ∃ a C dx fs, x = .ref a ∧ H2 a = some (.ins C dx fs) ∧ Cls K C ∧ NoAttr K C f ∧ fs.length < 1000 ∧
  D.nx σ (upd H2 a (.ins C dx (putF f y fs)))
section
variable {X : Cx} {o e value : Expr} {f : Str} {pos pos' tpos : Pos} {ta tv : TE}
theorem pe_fld (he : PE X e ta) (hb : attributeBase e f X.env (eval e X.env) = eval e X.env) : PE X (.Attribute e f pos) (tFld X.K ta f) := by
  intro pins s σ H Q I h
  refine attr_of hb (thn (he pins s σ H _ I h) fun u s1 ⟨x, H1, I1, rx, a, C, dx, fs, v, ex, ea, c, n, l, q⟩ => ?_)
  subst ex
  obtain rfl : u = Value.ref a := rx
  exact getattr_ok I1 ea c n l fun u' s2 I2 ru => ⟨v, H1, I2, ru, q⟩
theorem ps_fld (ha : PE X o ta) (hv : PE X value tv) (hs : swapsWith value (some (.Attribute o f pos')) pos.line X.env = pure false) : PS X (.Assign [.Attribute o f pos'] value pos) (sFld X.K ta tv f) := by
  intro pins s σ H D I h
  refine plainObj_wpAny_Assign_Attribute (thn (hv pins s σ H _ I h) fun u s1 ⟨y, H1, I1, ry, q⟩ => thn (ha pins s1 σ H1 _ I1 q) fun ov s2 ⟨x, H2, I2, rx, a, C, dx, fs, ex, ea, c, n, l, q2⟩ => ?_) hs
  subst ex
  obtain rfl : ov = Value.ref a := rx
  exact setattr_ok I2 ea c n l ry fun s3 I3 => ⟨σ, _, I3, q2⟩
end

section
variable {X : Cx} {pins : List (Addr × Obj)} {σ : St} {H : Hp} {s : Shared} {A : Around} {E : Value → Shared → Prop} {Q : Value → Shared → Prop} {c : Value} {b : Bool}
end
end L2

namespace L2
open PySem PySem.Spec PyProof.Rows

structure Room (k : Nat) (A : Around) : Prop where
  hd : A.handled = none
  dp : A.depth + 3 * k + 5 < recursionLimit
  un : A.units + 16 * k + 200 < cLine
theorem Room.mono {j k : Nat} {A : Around} (r : Room k A) (h : j ≤ k) : Room j A := ⟨r.hd, by have := r.dp; omega, by have := r.un; omega⟩
theorem Room.deeper {k : Nat} {A : Around} (r : Room (k + 1) A) (env : Env) : Room k (A.deeper env) :=
  ⟨r.hd, by have := r.dp; show A.depth + 1 + 3 * k + 5 < _; omega, by have := r.un; show A.units + 3 + 16 * k + 200 < _; omega⟩
theorem Room.in1 {k : Nat} {A : Around} (r : Room (k + 1) A) : Room k A.in1 :=
  ⟨r.hd, by have := r.dp; show A.depth + 3 * k + 5 < _; omega, by have := r.un; show A.units + 1 + 16 * k + 200 < _; omega⟩
theorem make_depth {A : Around} {C : Addr} {us : List Value} {kw : List (Str × Value)} : (A.under (.builtin "type.__call__" ⟨.ref C :: us, kw⟩)).depth = A.depth + 1 := by
  first | rfl | simp [Around.under, Code.weight, Code.isCreation, Code.isGuard, Code.isCaller, Code.frames, Code.isFrame, guardIds]
theorem make_units {A : Around} {C : Addr} {us : List Value} {kw : List (Str × Value)} : (A.under (.builtin "type.__call__" ⟨.ref C :: us, kw⟩)).units = A.units + 1 := by
  first | rfl | simp [Around.under, Code.cUnits, Code.frames, Code.isFrame]
theorem Room.make {k : Nat} {A : Around} (r : Room (k + 1) A) (C : Addr) (us : List Value) (kw : List (Str × Value)) : Room k (A.under (.builtin "type.__call__" ⟨.ref C :: us, kw⟩)) :=
  ⟨r.hd, by have := r.dp; rw [make_depth]; omega, by have := r.un; rw [make_units]; omega⟩
theorem Room.depth {k : Nat} {A : Around} (r : Room k A) : A.depth < recursionLimit := by have := r.dp; omega
theorem Room.units {k : Nat} {A : Around} (r : Room k A) : A.units + 64 < cLine := by have := r.un; omega
def tNil : TA := fun _ H Q => Q [] H
def tCons (ta : TE) (tr : TA) : TA := fun σ H Q => ta σ H fun x H1 => tr σ H1 fun xs H2 => Q (x :: xs) H2
section
variable {X : Cx} {e : Expr} {es : List Expr} {te : TE} {t : TA} {pos : Pos}
theorem pa_nil : PA X [] tNil := fun _ _ _ _ H Q I h => Calls.spliced_nil ⟨[], H, I, .nil, h⟩
theorem pa_cons (ha : PE X e te) (hr : PA X es t) (hs : starEach (e :: es) X.env = (false, eval e X.env) :: starEach es X.env := by rfl) : PA X (e :: es) (tCons te t) := by
  intro pos pins s σ H Q I h
  rw [hs]
  show wpAny _ _ (spliced ((false, eval e X.env) :: backTo pos (starEach es X.env))) _ _ s
  refine Calls.spliced_cons (thn (ha pins s σ H _ I h) fun u s1 ⟨x, H1, I1, r1, q1⟩ => ?_)
  exact thn (hr pos pins s1 σ H1 _ I1 q1) fun us s2 ⟨xs, H2, I2, r2, q2⟩ => ⟨x :: xs, H2, I2, .cons r1 r2, q2⟩

def tTup (t : TA) : TE := fun σ H Q => t σ H fun xs H1 => xs.length ≤ sizeLine ∧ ∀ p, H1 p = none → Q (.ref p) (upd H1 p (.tup xs))
def tLst (t : TA) : TE := fun σ H Q => t σ H fun xs H1 => xs.length ≤ sizeLine ∧ ∀ p, H1 p = none → Q (.ref p) (upd H1 p (.lst xs))
theorem pe_tup {x1} (h : PA X es t) : PE X (.Tuple es x1 pos) (tTup t) := by
  intro pins s σ H Q I hq
  refine wpAny_Tuple_spliced (thn (h pos pins s σ H _ I hq) fun us s1 ⟨xs, H1, I1, r, z, q⟩ => ⟨by rw [← r.length]; exact z, ?_⟩)
  have hf : H1 s1.heap.objs.size = none := I1.hok.fresh (Nat.le_refl _)
  refine ⟨.ref s1.heap.objs.size, upd H1 s1.heap.objs.size (.tup xs), I1.laid (t' := s1.toks) (fun b u e => Heap.get?_push_of_some _ e) (Nat.le_refl _) ?_, rfl, q _ hf⟩
  exact ⟨z, us, r, ⟨_, Heap.get?_push_size _ rfl, rfl, _, rfl⟩⟩
theorem pe_lst (h : PA X es t) : PE X (.List es pos) (tLst t) := by
  intro pins s σ H Q I hq
  refine wpAny_List_spliced (thn (h pos pins s σ H _ I hq) fun us s1 ⟨xs, H1, I1, r, z, q⟩ => ⟨by rw [← r.length]; exact z, ?_⟩)
  have hf : H1 s1.heap.objs.size = none := I1.hok.fresh (Nat.le_refl _)
  refine ⟨.ref s1.heap.objs.size, upd H1 s1.heap.objs.size (.lst xs), I1.laid (t' := s1.toks) (fun b u e => Heap.get?_push_of_some _ e) (Nat.le_refl _) ?_, rfl, q _ hf⟩
  exact ⟨z, us, 0, r, Heap.get?_push_size _ rfl⟩
end

abbrev Sp := List V → Hp → VK → XK → Prop
abbrev CXT := List Env → Hp → Shared → XK → Value → Shared → Prop

structure Env0 (P : Program) (w : World) (K : PySem.W.Frag) (mg : Str → Option Value) (base : Heap) (A : Around) (outer : List Env) (s : Shared) (H : Hp) : Prop where
  frames : A.frames = some outer
  mod : Mod K mg base
  bs : ∀ b o, base.get? b = some o → s.heap.get? b = some o ∧ H b = none
  bsz : base.objs.size ≤ s.heap.objs.size
  funs : s.heap.FunFrames base outer
  frf : ∀ b ∈ frs outer, H b = none
  hok : HOk P w H s.heap
  bare : AllBare s.gens
def CE (outer : List Env) (P : Program) (w : World) (H : Hp) (s : Shared) (Q : VK) (u : Value) (s' : Shared) : Prop :=
  ∃ v H', s'.os = s.os ∧ AllBare s'.gens ∧ Un (frs outer) [] H H' s.heap s'.heap ∧ HOk P w H' s'.heap ∧ RelV v u ∧ Q v H'
def CR (CX : CXT) (outer : List Env) (P : Program) (w : World) (H : Hp) (s : Shared) (Q : VK) (E : XK) (r : Result) (s' : Shared) : Prop :=
  match r with
  | .ok (.ret u) => CE outer P w H s Q u s'
  | .ok _ => False
  | .error e => CX outer H s E e s'
structure FnOk (P : Program) (w : World) (K : PySem.W.Frag) (mg : Str → Option Value) (base : Heap) (CX : CXT) (k : Nat) (f : Addr) (fd : FuncData) (ps : List Str) (sp : Sp) : Prop where
  len : ∀ vs H Q E, sp vs H Q E → vs.length = ps.length
  run : ∀ (A : Around) (outer : List Env) (s : Shared) (H : Hp) (args : Args) (us : List Value) (vs : List V) (Q : VK) (E : XK), Room k A → Env0 P w K mg base A outer s H → BindsTo s fd args (ps.zip us) → Vals vs us → sp vs H Q E →
    codeAny (model P w) A (.call (.ref f) args) (CR CX outer P w H s Q E) s
theorem FnOk.mono {P : Program} {w : World} {K : PySem.W.Frag} {mg : Str → Option Value} {base : Heap} {CX : CXT} {j k : Nat} {f : Addr} {fd : FuncData} {ps : List Str} {sp : Sp} (F : FnOk P w K mg base CX j f fd ps sp) (h : j ≤ k) :
    FnOk P w K mg base CX k f fd ps sp := ⟨F.len, fun A outer s H args us vs Q E hr => F.run A outer s H args us vs Q E (hr.mono h)⟩
theorem FnOk.imp {P : Program} {w : World} {K : PySem.W.Frag} {mg : Str → Option Value} {base : Heap} {CX : CXT} {k : Nat} {f : Addr} {fd : FuncData} {ps : List Str} {sp sp' : Sp} (F : FnOk P w K mg base CX k f fd ps sp)
    (h : ∀ vs H Q E, sp' vs H Q E → sp vs H Q E) : FnOk P w K mg base CX k f fd ps sp' :=
  ⟨fun vs H Q E q => F.len vs H Q E (h _ _ _ _ q), fun A outer s H args us vs Q E hr he hb hv hs => F.run A outer s H args us vs Q E hr he hb hv (h _ _ _ _ hs)⟩

theorem Env0.make {P : Program} {w : World} {K : PySem.W.Frag} {mg : Str → Option Value} {base : Heap} {A : Around} {outer : List Env} {s : Shared} {H : Hp} (e : Env0 P w K mg base A outer s H) (C : Addr) (us : List Value) (kw : List (Str × Value)) :
    Env0 P w K mg base (A.under (.builtin "type.__call__" ⟨.ref C :: us, kw⟩)) outer s H := ⟨by first | exact e.frames | (simpa [Around.under, Code.envs, Code.isFrame, pushEnvs] using e.frames), e.mod, e.bs, e.bsz, e.funs, e.frf, e.hok, e.bare⟩
theorem Env0.in1 {P : Program} {w : World} {K : PySem.W.Frag} {mg : Str → Option Value} {base : Heap} {A : Around} {outer : List Env} {s : Shared} {H : Hp} (e : Env0 P w K mg base A outer s H) :
    Env0 P w K mg base A.in1 outer s H := ⟨e.frames, e.mod, e.bs, e.bsz, e.funs, e.frf, e.hok, e.bare⟩

section
variable {X : Cx} {pins : List (Addr × Obj)} {σ : St} {H : Hp} {s s' : Shared}
theorem Inv.env0 (I : Inv X pins σ H s) : Env0 X.prog X.w X.K X.mg X.base X.A X.stack s H :=
  ⟨I.ok.frames, I.ok.mod, I.bs, Nat.le_trans I.ok.bsz I.sz, I.stack, I.stkFree, I.hok, I.bare⟩
theorem Inv.after {Q : VK} {u : Value} (I : Inv X pins σ H s) (h : CE X.stack X.prog X.w H s Q u s') : EP X pins σ Q u s' := by
  obtain ⟨v, H', os, bare, un, hok, r, q⟩ := h
  obtain ⟨hh, g, d, t, os'⟩ := s'
  obtain rfl : os' = s.os := os
  exact ⟨v, H', I.call (h' := hh) (g' := g) (d' := d) (t' := t) (ch := []) un hok bare (fun b z => absurd z (by simp)), r, q⟩
end

def tCall (sp : Sp) (dvs : List V) (E : XK) (t : TA) : TE := fun σ H Q => t σ H fun vs H1 => sp (vs ++ dvs) H1 Q E
def tMeth (C : Addr) (m : Str) (sp : Sp) (dvs : List V) (E : XK) (ta : TE) (t : TA) : TE := fun σ H Q => ta σ H fun x H1 => ∃ a dx fs, x = .ref a ∧ H1 a = some (.ins C dx fs) ∧ fs.lookup m = none ∧
  t σ H1 fun vs H2 => sp (x :: (vs ++ dvs)) H2 Q E
def tMake (C : Addr) (sp : Sp) (dvs : List V) (E : XK) (t : TA) : TE := fun σ H Q => t σ H fun vs H1 => ∀ x dx, H1 x = none → H1 dx = none → dx ≠ x →
  sp (.ref x :: (vs ++ dvs)) (upd (upd H1 dx (.own x)) x (.ins C dx [])) (fun v H2 => v = .non ∧ Q (.ref x) H2) E

def Binds (K : PySem.W.Frag) (fd : FuncData) (ps : List Str) (ds : List Value) : Prop :=
  ∀ (s : Shared) (us : List Value), K.In s.heap → (us ++ ds).length = ps.length → BindsTo s fd ⟨us, []⟩ (ps.zip (us ++ ds))
theorem Binds.all {K : PySem.W.Frag} {fd : FuncData} {ps : List Str} (h : ∀ us : List Value, us.length = ps.length → bindArgs fd ⟨us, []⟩ = pure (ps.zip us)) : Binds K fd ps [] := fun s us _ hl => by
  rw [List.append_nil] at hl ⊢
  exact .of_eq (h us hl)

def Passes (CX : CXT) (X : Cx) (E : XK) : Prop := ∀ (pins : List (Addr × Obj)) (σ : St) (H : Hp) (s : Shared) (e : Value) (s' : Shared), Inv X pins σ H s → CX X.stack H s E e s' → X.xe e s'

section
variable {X : Cx} {CX : CXT} {k : Nat} {f C : Addr} {fd : FuncData} {ps : List Str} {sp : Sp} {dvs : List V} {ds : List Value} {E : XK} {x m : Str} {p pos apos : Pos} {e o : Expr} {es : List Expr} {ta : TE} {t : TA}

theorem run_fn {pins : List (Addr × Obj)} {σ : St} {H : Hp} {s : Shared} {Q : VK} {us : List Value} {vs : List V} (F : FnOk X.prog X.w X.K X.mg X.base CX k f fd ps sp) (hr : Room k X.A) (hb : Binds X.K fd ps ds) (hd : Vals dvs ds) (hx : Passes CX X E)
    (I : Inv X pins σ H s) (r : Vals vs us) (h : sp (vs ++ dvs) H Q E) : wpAny (model X.prog X.w) X.A (call (.ref f) us) (EP X pins σ Q) X.xe s := by
  have r2 : Vals (vs ++ dvs) (us ++ ds) := r.append hd
  have hl : (us ++ ds).length = ps.length := by rw [← r2.length]; exact F.len _ _ _ _ h
  refine wpAny_call (codeAny_mono (F.run X.A X.stack s H ⟨us, []⟩ (us ++ ds) (vs ++ dvs) Q E hr I.env0 (hb s us I.kIn hl) r2 h) fun r s' hq => ?_)
  cases r with
  | error e => exact hx pins σ H s e s' I hq
  | ok fl =>
    cases fl with
    | ret u => exact I.after hq
    | next => exact False.elim hq
    | brk => exact False.elim hq
    | cont => exact False.elim hq

theorem pe_call (F : FnOk X.prog X.w X.K X.mg X.base CX k f fd ps sp) (hr : Room k X.A) (hg : Gl X x) (hm : X.mg x = some (.ref f)) (hk : PySem.W.keepIn X.K (.ref f) = true) (hb : Binds X.K fd ps ds) (hd : Vals dvs ds) (hx : Passes CX X E)
    (ha : PA X (e :: es) t) (hdb : (x == ("__debug__" : Str)) = false := by decide) (he : starEach (e :: es) X.env = (false, eval e X.env) :: starEach es X.env := by rfl) (hpl : (backTo pos (starEach es X.env)).any (·.1) = false := by rfl) :
    PE X (.Call (.Name x p) (e :: es) [] pos) (tCall sp dvs E t) := by
  intro pins s σ H Q I h
  refine wpAny_Call_Name_kw (ld_glob I hg hm ?_ hdb)
  refine PySem.W.callWith_K (h₀ := X.base) I.ok.mod.kin hk (thn (ha pos pins s σ H _ I h) fun us s1 ⟨vs, H1, I1, r, q⟩ => ⟨I1.kIn, ?_⟩) he hpl
  exact run_fn F hr hb hd hx I1 r q
theorem pe_meth {pl : Sem Bool} (he : PE X o ta) (c : Cls X.K C) (hm : Meth X.K C m f) (F : FnOk X.prog X.w X.K X.mg X.base CX k f fd ps sp) (hr : Room k X.A) (hb : Binds X.K fd ps ds) (hd : Vals dvs ds) (hx : Passes CX X E) (ha : PA X (e :: es) t)
    (hst : starEach (e :: es) X.env = (false, eval e X.env) :: starEach es X.env := by rfl) (hpl : (backTo pos (starEach es X.env)).any (·.1) = false := by rfl)
    (ht : eval (.Call (.Attribute o m apos) (e :: es) [] pos) X.env = (do
      let ov ← eval o X.env
      standAt apos.atName
      let (f, first) ← holding [ov] (getMethod ov m pl)
      callWith pos f first (backTo pos (starEach (e :: es) X.env)) (backToKw pos (keywordEach [] X.env))) := by rfl) :
    PE X (.Call (.Attribute o m apos) (e :: es) [] pos) (tMeth C m sp dvs E ta t) := by
  intro pins s σ H Q I h
  refine PySem.W.methodCall_KW (pl := pl) (thn (he pins s σ H _ I h) fun u s1 ⟨x, H1, I1, rx, a, dx, fs, ex, ea, l, q⟩ => ?_) ht
  subst ex
  obtain rfl : u = Value.ref a := rx
  refine getmeth_ok I1 ea c hm l ?_
  refine PySem.W.callWith_K (first := [.ref a]) (h₀ := X.base) I.ok.mod.kin hm.kp (thn (ha pos pins s1 σ H1 _ I1 q) fun us s2 ⟨vs, H2, I2, r, q2⟩ => ⟨I2.kIn, ?_⟩) hst hpl
  exact run_fn (us := .ref a :: us) (vs := .ref a :: vs) F hr hb hd hx I2 (.cons rfl r) q2
theorem pe_meth0 {pl : Sem Bool} (he : PE X o ta) (c : Cls X.K C) (hm : Meth X.K C m f) (F : FnOk X.prog X.w X.K X.mg X.base CX k f fd ps sp) (hr : Room k X.A) (hb : Binds X.K fd ps ds) (hd : Vals dvs ds) (hx : Passes CX X E)
    (ht : eval (.Call (.Attribute o m apos) [] [] pos) X.env = (do
      let ov ← eval o X.env
      standAt apos.atName
      let (f, first) ← holding [ov] (getMethod ov m pl)
      callWith pos f first (backTo pos (starEach [] X.env)) (backToKw pos (keywordEach [] X.env))) := by rfl) :
    PE X (.Call (.Attribute o m apos) [] [] pos) (tMeth C m sp dvs E ta tNil) := by
  intro pins s σ H Q I h
  refine PySem.W.methodCall_KW (pl := pl) (thn (he pins s σ H _ I h) fun u s1 ⟨x, H1, I1, rx, a, dx, fs, ex, ea, l, q⟩ => ?_) ht
  subst ex
  obtain rfl : u = Value.ref a := rx
  refine getmeth_ok I1 ea c hm l ?_
  exact PySem.W.callWith_K0 (first := [.ref a]) I1.kIn hm.kp (run_fn (us := [.ref a]) (vs := [.ref a]) F hr hb hd hx I1 (.cons rfl .nil) q)

structure Mk (K : PySem.W.Frag) (C f : Addr) : Prop where
  makes : PySem.W.makesIn K C = true
  init : PySem.W.findIn K (.ref C) "__init__" = some (some (.ref f))
  fn : PySem.W.isFn K (.ref f) = true
  kp : PySem.W.keepIn K (.ref C) = true

theorem run_make {pins : List (Addr × Obj)} {σ : St} {H : Hp} {s : Shared} {Q : VK} {us : List Value} {vs : List V} (M : Mk X.K C f) (F : FnOk X.prog X.w X.K X.mg X.base CX k f fd ps sp) (hr : Room (k + 1) X.A) (hb : Binds X.K fd ps ds) (hd : Vals dvs ds)
    (hx : Passes CX X E) (I : Inv X pins σ H s) (r : Vals vs us)
    (h : ∀ x dx, H x = none → H dx = none → dx ≠ x → sp (.ref x :: (vs ++ dvs)) (upd (upd H dx (.own x)) x (.ins C dx [])) (fun v H2 => v = .non ∧ Q (.ref x) H2) E) :
    wpAny (model X.prog X.w) X.A (call (.ref C) us) (EP X pins σ Q) X.xe s := by
  have hq := h (s.heap.objs.size + 1) s.heap.objs.size (I.hok.fresh (Nat.le_succ _)) (I.hok.fresh (Nat.le_refl _)) (Nat.ne_of_lt (Nat.lt_succ_self _))
  have I2 := Inv.made (C := C) I
  have r2 : Vals (V.ref (s.heap.objs.size + 1) :: (vs ++ dvs)) (Value.ref (s.heap.objs.size + 1) :: (us ++ ds)) := .cons rfl (r.append hd)
  have hl : (Value.ref (s.heap.objs.size + 1) :: us ++ ds).length = ps.length := by
    have e := r2.length
    rw [F.len _ _ _ _ hq] at e
    exact e.symm
  refine wpAny_call (make_map (f := f) I.kIn M.makes M.init (beq_iff_eq.mp M.fn) (codeAny_mono (F.run _ X.stack _ _ ⟨Value.ref (s.heap.objs.size + 1) :: us, []⟩ (Value.ref (s.heap.objs.size + 1) :: (us ++ ds)) _ _ E (hr.make C us [])
    (I2.env0.make C us []) (hb _ (Value.ref (s.heap.objs.size + 1) :: us) I2.kIn hl) r2 hq) fun r s' hq' => ?_))
  cases r with
  | error e => exact hx pins σ _ _ e s' I2 hq'
  | ok fl =>
    cases fl with
    | ret u =>
      obtain ⟨v, H', I3, rv, ev, q3⟩ := I2.after hq'
      subst ev
      exact ⟨rv, ⟨V.ref (s.heap.objs.size + 1), H', I3, rfl, q3⟩⟩
    | next => exact False.elim hq'
    | brk => exact False.elim hq'
    | cont => exact False.elim hq'
theorem pe_make (M : Mk X.K C f) (F : FnOk X.prog X.w X.K X.mg X.base CX k f fd ps sp) (hr : Room (k + 1) X.A) (hg : Gl X x) (hm : X.mg x = some (.ref C)) (hb : Binds X.K fd ps ds) (hd : Vals dvs ds) (hx : Passes CX X E)
    (ha : PA X (e :: es) t) (hdb : (x == ("__debug__" : Str)) = false := by decide) (he : starEach (e :: es) X.env = (false, eval e X.env) :: starEach es X.env := by rfl) (hpl : (backTo pos (starEach es X.env)).any (·.1) = false := by rfl) :
    PE X (.Call (.Name x p) (e :: es) [] pos) (tMake C sp dvs E t) := by
  intro pins s σ H Q I h
  refine wpAny_Call_Name_kw (ld_glob I hg hm ?_ hdb)
  refine PySem.W.callWith_K (h₀ := X.base) I.ok.mod.kin M.kp (thn (ha pos pins s σ H _ I h) fun us s1 ⟨vs, H1, I1, r, q⟩ => ⟨I1.kIn, ?_⟩) he hpl
  exact run_make M F hr hb hd hx I1 r q
theorem pe_make0 (M : Mk X.K C f) (F : FnOk X.prog X.w X.K X.mg X.base CX k f fd ps sp) (hr : Room (k + 1) X.A) (hg : Gl X x) (hm : X.mg x = some (.ref C)) (hb : Binds X.K fd ps ds) (hd : Vals dvs ds) (hx : Passes CX X E)
    (hdb : (x == ("__debug__" : Str)) = false := by decide) : PE X (.Call (.Name x p) [] [] pos) (tMake C sp dvs E tNil) := by
  intro pins s σ H Q I h
  refine wpAny_Call_Name_kw (ld_glob I hg hm ?_ hdb)
  exact PySem.W.callWith_K0 I.kIn M.kp (run_make (us := []) M F hr hb hd hx I .nil h)
end

def PK (X : Cx) (kws : List Keyword) (t : TA) : Prop :=
  ∀ (pos : Pos) (pins : List (Addr × Obj)) (s : Shared) (σ : St) (H : Hp) (Q : List V → Hp → Prop), Inv X pins σ H s → t σ H Q → wpAny (model X.prog X.w) X.A (evalAll ((backToKw pos (keywordEach kws X.env)).map (·.2))) (AP X pins σ Q) X.xe s
section
variable {X : Cx} {CX : CXT} {k : Nat} {f C : Addr} {fd : FuncData} {ps ks : List Str} {sp : Sp} {E : XK} {x m : Str} {p pos apos kpos : Pos} {e o : Expr} {es : List Expr} {kws : List Keyword} {te ta : TE} {t tk : TA} {nm : Option Str}
theorem pk_nil : PK X [] tNil := fun _ _ _ _ H Q I h => wpAny_evalAll_nil ⟨[], H, I, .nil, h⟩
theorem pk_cons (ha : PE X e te) (hr : PK X kws t) : PK X (⟨nm, e, kpos⟩ :: kws) (tCons te t) := by
  intro pos pins s σ H Q I h
  show wpAny _ _ (evalAll ((do let v ← eval e X.env; standAt pos; pure v) :: (backToKw pos (keywordEach kws X.env)).map (·.2))) _ _ s
  refine wpAny_evalAll_cons (wpAny_bind (thn (ha pins s σ H _ I h) fun u s1 ⟨x, H1, I1, r1, q1⟩ => wpAny_bind (wpAny_standAt (wpAny_pure ?_))))
  exact thn (hr pos pins s1 σ H1 _ I1 q1) fun us s2 ⟨xs, H2, I2, r2, q2⟩ => ⟨x :: xs, H2, I2, .cons r1 r2, q2⟩

variable {g : List Value → List Value → List Value} {gV : List V → List V → List V}
end

structure FnScope (N P : List Str) (sc : Scope) : Prop where
  kind : sc.kind = .function
  co : sc.isCoroutine = false
  gen : sc.isGenerator = false
  nd : N.Nodup
  pre : N.take P.length = P
  par : ∀ x ∈ P, sc.names.lookup x = some .local ∨ sc.names.lookup x = some .cell
  nofree : ∀ y ∈ sc.names, y.2 ≠ .free

theorem bindL_out {kindOf : Str → Option NameKind} {x : Str} : ∀ {binds : List (Str × Value)} {m : Str → Option Value}, (∀ v, (x, v) ∉ binds) → bindL kindOf binds m x = m x
  | [], _, _ => rfl
  | (n, v) :: r, m, h => by
    unfold bindL
    rw [bindL_out fun w hw => h w (List.mem_cons_of_mem _ hw)]
    split
    · have : x ≠ n := by rintro rfl; exact h v List.mem_cons_self
      simp [this]
    · rfl
theorem bindC_out {kindOf : Str → Option NameKind} {x : Str} : ∀ {binds : List (Str × Value)} {m : Str → Option Value}, (∀ v, (x, v) ∉ binds) → bindC kindOf binds m x = m x
  | [], _, _ => rfl
  | (n, v) :: r, m, h => by
    unfold bindC
    rw [bindC_out fun w hw => h w (List.mem_cons_of_mem _ hw)]
    split
    · rfl
    · have : x ≠ n := by rintro rfl; exact h v List.mem_cons_self
      simp [this]
theorem bindL_get {kindOf : Str → Option NameKind} {x : Str} {v : Value} : ∀ {P : List Str} {vs : List Value} {i : Nat} {m : Str → Option Value}, P.Nodup → P[i]? = some x → vs[i]? = some v → kindOf x = some .local →
    bindL kindOf (P.zip vs) m x = some v
  | [], _, _, _, _, h, _, _ => by simp at h
  | _ :: _, [], _, _, _, _, h, _ => by simp at h
  | p :: P, w :: vs, 0, m, nd, h1, h2, hk => by
    simp at h1 h2; subst h1; subst h2
    show bindL kindOf ((p, w) :: P.zip vs) m p = _
    unfold bindL
    rw [bindL_out fun v hv => (List.nodup_cons.mp nd).1 (List.of_mem_zip hv).1, if_pos hk]
    simp
  | p :: P, w :: vs, i + 1, m, nd, h1, h2, hk => by
    show bindL kindOf ((p, w) :: P.zip vs) m x = _
    unfold bindL
    exact bindL_get (i := i) (List.nodup_cons.mp nd).2 (by simpa using h1) (by simpa using h2) hk
theorem bindC_get {kindOf : Str → Option NameKind} {x : Str} {v : Value} : ∀ {P : List Str} {vs : List Value} {i : Nat} {m : Str → Option Value}, P.Nodup → P[i]? = some x → vs[i]? = some v → kindOf x ≠ some .local →
    bindC kindOf (P.zip vs) m x = some v
  | [], _, _, _, _, h, _, _ => by simp at h
  | _ :: _, [], _, _, _, _, h, _ => by simp at h
  | p :: P, w :: vs, 0, m, nd, h1, h2, hk => by
    simp at h1 h2; subst h1; subst h2
    show bindC kindOf ((p, w) :: P.zip vs) m p = _
    unfold bindC
    rw [bindC_out fun v hv => (List.nodup_cons.mp nd).1 (List.of_mem_zip hv).1, if_neg hk]
    simp
  | p :: P, w :: vs, i + 1, m, nd, h1, h2, hk => by
    show bindC kindOf ((p, w) :: P.zip vs) m x = _
    unfold bindC
    exact bindC_get (i := i) (List.nodup_cons.mp nd).2 (by simpa using h1) (by simpa using h2) hk

def start (N : List Str) (vs : List V) : St := vs.map some ++ List.replicate (N.length - vs.length) none

def cxOf (CX : CXT) (P : Program) (w : World) (K : PySem.W.Frag) (mg : Str → Option Value) (base : Heap) (N : List Str) (qual : Str) (scope : Scope) (f : Addr) (cd : Value) (A : Around) (outer : List Env) (s : Shared) (H : Hp) (E : XK) : Cx where
  prog := P
  w := w
  K := K
  mg := mg
  base := base
  A := A.deeper (envOfC qual scope s.heap.objs.size f cd)
  N := N
  s_0 := s
  H_0 := H
  env := envOfC qual scope s.heap.objs.size f cd
  outer := outer
  stack := envOfC qual scope s.heap.objs.size f cd :: outer
  ex := []
  calm := true
  fn := fun _ => true
  pn := []
  xe := fun e s' => wpAny (model P w) (A.deeper (envOfC qual scope s.heap.objs.size f cd)) (leaving (envOfC qual scope s.heap.objs.size f cd) e) (fun _ s'' => CX outer H s E e s'') (fun e' s'' => CX outer H s E e' s'') s'

theorem cell_has {sc : Scope} {n : Nat} {x : Str} (h : sc.names.lookup x = some .cell) : ∃ c, (cellsFrom n sc.names []).lookup x = some c := by
  have q := PySem.W.cellsFrom_some sc.names n [] (.inl h)
  exact Option.isSome_iff_exists.mp q

theorem inv_start {CX : CXT} {P : Program} {w : World} {K : PySem.W.Frag} {mg : Str → Option Value} {base : Heap} {N ps : List Str} {qual : Str} {scope : Scope} {f : Addr} {cd : Value} {A : Around} {outer : List Env} {s s1 : Shared} {H : Hp} {E : XK} {us : List Value} {vs : List V}
    (S : FnScope N ps scope) (hd : A.handled = none) (e0 : Env0 P w K mg base A outer s H) (hl : vs.length = ps.length) (r : Vals vs us)
    (x : InCallC s s.heap.objs.size (bindL (envOfC qual scope s.heap.objs.size f cd).kindOf (ps.zip us) fun _ => none) (cellsFrom (s.heap.objs.size + 1) scope.names []) (bindC (envOfC qual scope s.heap.objs.size f cd).kindOf (ps.zip us) fun _ => none) s1) :
    Inv (cxOf CX P w K mg base N qual scope f cd A outer s H E) [] (start N vs) H s1 := by
  have hpl : ps.length ≤ N.length := by have := congrArg List.length S.pre; rw [List.length_take] at this; omega
  obtain ⟨h1, tk, rfl, hk⟩ := x.done
  have noA : ∀ b : Addr, b ∉ (cxOf CX P w K mg base N qual scope f cd A outer s H E).ex := fun b z => absurd (show b ∈ ([] : List Addr) from z) (by simp)
  refine ⟨⟨e0.mod, S.kind, rfl, rfl, Nat.le_refl _, fun y z c h1 h2 => ?_, fun y hy => ?_, fun y c _ h => ?_, fun _ => hd, Around.frames_deeper e0.frames, .inr ⟨rfl, rfl⟩, fun b z => absurd z (noA b), e0.bs, e0.bsz, fun b _ _ => noA b, fun b z => absurd z (noA b), e0.funs, e0.frf⟩,
    rfl, e0.bare, Un.kept hk, ⟨_, x.toInCall.ns, fun i y v h1 h2 h3 => ?_⟩, fun y c h => ⟨_, x.cell y c h⟩, e0.hok.fresh (Nat.le_refl _), fun y c h => ?_, fun p hp => absurd (show p ∈ ([] : List (Addr × Obj)) from hp) (by simp), e0.hok.kept hk, ?_⟩
  · exact name_of_addr x.apart (PySem.mem_of_lookup h1) (PySem.mem_of_lookup h2)
  · have hy : scope.names.lookup y = some .cell ∨ scope.names.lookup y = some .free := hy
    rcases hy with hy | hy
    · exact cell_has hy
    · exact absurd rfl (S.nofree _ (PySem.mem_of_lookup hy))
  · exact Nat.le_of_lt (x.above y c (PySem.mem_of_lookup h))
  · have hi : i < vs.length := by
      unfold start at h2
      by_cases hi : i < vs.length
      · exact hi
      · rw [List.getElem?_append_right (by simpa using hi)] at h2
        rw [List.getElem?_replicate] at h2
        split at h2 <;> cases h2
    have ha : vs[i]? = some v := by
      unfold start at h2
      rw [List.getElem?_append_left (by simpa using hi), List.getElem?_map] at h2
      cases e : vs[i]? with
      | none => rw [e] at h2; cases h2
      | some a => rw [e] at h2; cases h2; rfl
    obtain ⟨u, hu, rv⟩ := r.get ha
    have hp : ps[i]? = some y := by
      rw [← S.pre, List.getElem?_take_of_lt (by omega)]; exact h1
    have ndP : ps.Nodup := by rw [← S.pre]; exact S.nd.sublist (List.take_sublist _ _)
    refine ⟨u, rv, ?_⟩
    rcases S.par y (List.mem_of_getElem? hp) with k | k
    · exact .inl ⟨k, bindL_get ndP hp hu k⟩
    · obtain ⟨c, e⟩ := cell_has (n := s.heap.objs.size + 1) k
      refine .inr ⟨.inl k, c, e, ?_⟩
      have q := x.cell y c e
      rw [bindC_get ndP hp hu (by show scope.names.lookup y ≠ _; rw [k]; decide)] at q
      exact q
  · exact e0.hok.fresh (Nat.le_of_lt (x.above y c (PySem.mem_of_lookup h)))
  · unfold start
    show _ = N.length
    rw [List.length_append, List.length_map, List.length_replicate]
    omega

theorem fn_of {CX : CXT} {P : Program} {w : World} {K : PySem.W.Frag} {mg : Str → Option Value} {base : Heap} {k : Nat} {f : Addr} {name qual : Str} {params : Arguments} {body : List Stmt} {scope : Scope} {dV kV doc pm cdv ct oc : Value} {an od : Option Addr}
    {osl : Array (Option Value)} {N ps : List Str} {sp : Sp} (lk : K.lookup f = some ⟨oc, od, .func (PySem.W.fnOf name qual params body scope dV kV doc pm an cdv ct), osl⟩) (hcd : PySem.W.codeIn K cdv qual = true) (S : FnScope N ps scope)
    (len : ∀ vs H Q E, sp vs H Q E → vs.length = ps.length)
    (hbody : ∀ (A : Around) (outer : List Env) (s : Shared) (H : Hp) (vs : List V) (Q : VK) (E : XK), Room k (A.deeper (envOfC qual scope s.heap.objs.size f cdv)) → sp vs H Q E →
      ∃ t, PSs (cxOf CX P w K mg base N qual scope f cdv A outer s H E) body t ∧ t { nx := fun _ H' => Q .non H', rt := Q } (start N vs) H) :
    FnOk P w K mg base CX (k + 1) f (PySem.W.fnOf name qual params body scope dV kV doc pm an cdv ct) ps sp := by
  refine ⟨len, fun A outer s H args us vs Q E hr e0 hb r hsp => ?_⟩
  have hl := len _ _ _ _ hsp
  have KX : K.In s.heap := e0.mod.kin.keeps fun b o e => (e0.bs b o e).1
  have lim : s.heap.NoLimit := e0.mod.nolimit.keeps fun b o e => (e0.bs b o e).1
  have hkind : ∀ y ∈ ps.zip us, scope.names.lookup y.1 = some .local ∨ (scope.names.lookup y.1 = some .cell ∧ ((cellsFrom (s.heap.objs.size + 1) scope.names []).lookup y.1).isSome = true) := fun ⟨n, v⟩ hy => by
    rcases S.par n (List.of_mem_zip hy).1 with q | q
    · exact .inl q
    · exact .inr ⟨q, PySem.W.cellsFrom_some _ _ _ (.inl q)⟩
  refine codeAny_call_function hr.depth (KX _ _ lk) rfl S.co S.gen rfl (PySem.W.codeRec_of KX hcd) (hb _ _ _ _ ?_)
  refine wpAny_newFunctionEnv_cells S.kind hkind fun env he s1 x => ?_
  subst he
  refine ⟨lim.keeps x.toInCall.keep, codeAny_func ?_⟩
  obtain ⟨t, ht, hq⟩ := hbody A outer s H vs Q E (hr.deeper _) hsp
  have I : Inv (cxOf CX P w K mg base N qual scope f cdv A outer s H E) [] (start N vs) H s1 := inv_start S hr.hd e0 hl r x
  refine wpAny_mono (ht [] s1 (start N vs) H _ I hq) (fun fl s' hs => ?_) fun e s' hs => hs
  have fin : ∀ {σ' : St} {H' : Hp} {v : V} {u : Value}, Inv (cxOf CX P w K mg base N qual scope f cdv A outer s H E) [] σ' H' s' → RelV v u → Q v H' → CE outer P w H s Q u s' :=
    fun {σ' H' v u} J rv q => ⟨v, H', J.os, J.bare, J.base, J.hok, rv, q⟩
  cases fl with
  | ret u =>
    obtain ⟨v, σ', H', J, rv, q⟩ := hs
    exact fin J rv q
  | next =>
    obtain ⟨σ', H', J, q⟩ := hs
    exact fin (v := V.non) (u := Value.none) J rfl q
  | brk =>
    obtain ⟨_, _, _, q⟩ := hs
    exact False.elim q
  | cont =>
    obtain ⟨_, _, _, q⟩ := hs
    exact False.elim q
end L2

namespace L2
open PySem PySem.Spec PyProof.Rows
section
variable {X : Cx} {x : Str} {p pos : Pos} {e : Expr} {es : List Expr} {t : TA} {id T : String} {r : List V → Hp → VK → Prop}

def tCB (r : List V → Hp → VK → Prop) (t : TA) : TE := fun σ H Q => t σ H fun vs H1 => r vs H1 Q
theorem pe_callB (hc : CallR X (.builtin id) r) (hg : Gl X x) (hm : X.mg x = none) (hv : bootBuiltins x = some (.builtin id)) (ha : PA X (e :: es) t) (hn : x ≠ "__name__" := by decide) (hdb : (x == ("__debug__" : Str)) = false := by decide)
    (he : starEach (e :: es) X.env = (false, eval e X.env) :: starEach es X.env := by rfl) (hpl : (backTo pos (starEach es X.env)).any (·.1) = false := by rfl) : PE X (.Call (.Name x p) (e :: es) [] pos) (tCB r t) := by
  intro pins s σ H Q I h
  refine wpAny_Call_Name_kw (ld_blt I hg hm hv ?_ hn hdb)
  exact PyProof.Rows.callWith_builtin1 (thn (ha pos pins s σ H _ I h) fun us s1 ⟨vs, H1, I1, r1, q1⟩ => hc pins s1 σ H1 vs us Q I1 r1 q1) he hpl
theorem pe_callTy (hc : CallR X (.type T) r) (hg : Gl X x) (hm : X.mg x = none) (hv : bootBuiltins x = some (.type T)) (ha : PA X (e :: es) t) (hn : x ≠ "__name__" := by decide) (hdb : (x == ("__debug__" : Str)) = false := by decide)
    (he : starEach (e :: es) X.env = (false, eval e X.env) :: starEach es X.env := by rfl) (hpl : (backTo pos (starEach es X.env)).any (·.1) = false := by rfl) : PE X (.Call (.Name x p) (e :: es) [] pos) (tCB r t) := by
  intro pins s σ H Q I h
  refine wpAny_Call_Name_kw (ld_blt I hg hm hv ?_ hn hdb)
  exact PyProof.Rows.callWith_type1 (thn (ha pos pins s σ H _ I h) fun us s1 ⟨vs, H1, I1, r1, q1⟩ => hc pins s1 σ H1 vs us Q I1 r1 q1) he hpl
end
end L2

namespace HT
open PySem PyProof.Rows

section
open PySem.SeqAt
open PySem.AutoSeq1 (wpAny_loadPart')
open PySem.MeetsSeq PySem.MeetsSeq2 PySem.MeetsSeq3

end

section
variable {prog : Program} {w : World} {A : Around} {E : Value → Shared → Prop} {s : Shared}

def sIx (n d : Nat) : Option Int → Nat
  | none => d
  | some v => if v < 0 then (v + (n : Int)).toNat else min v.toNat n
theorem sIx_none (n d : Nat) : sIx n d none = d := rfl
theorem sIx_nat (n d k : Nat) : sIx n d (some (k : Int)) = min k n := by
  show (if (k : Int) < 0 then ((k : Int) + (n : Int)).toNat else min (k : Int).toNat n) = min k n
  rw [if_neg (by omega), Int.toNat_natCast]
end
end HT

namespace L2
open PySem PySem.Spec PyProof.Rows

abbrev TO := St → Hp → (Option Int → Hp → Prop) → Prop
def PO (X : Cx) (e : Option Expr) (t : TO) : Prop :=
  ∀ (pins : List (Addr × Obj)) (s : Shared) (σ : St) (H : Hp) (Q : Option Int → Hp → Prop), Inv X pins σ H s → t σ H Q →
    wpAny (model X.prog X.w) X.A (evalPart e X.env) (fun u s' => ∃ o H', Inv X pins σ H' s' ∧ IsPart u o ∧ Q o H') X.xe s
def tNoPart : TO := fun _ H Q => Q none H
def tPart (t : TE) : TO := fun σ H Q => t σ H fun x H1 => ∃ i, x = .int i ∧ Q (some i) H1

section
variable {X : Cx} {e : Expr} {te : TE} {lo hi : Option Expr} {tl th : TO} {pos p2 : Pos}

theorem po_none : PO X none tNoPart := by
  intro pins s σ H Q I h
  rw [evalPart_none]
  exact wpAny_pure ⟨none, H, I, .none, h⟩
theorem po_some (h : PE X e te) : PO X (some e) (tPart te) := by
  intro pins s σ H Q I hw
  rw [evalPart_some]
  refine thn (h pins s σ H _ I hw) fun u s1 ⟨x, H1, I1, r1, q1⟩ => ?_
  obtain ⟨i, rfl, q⟩ := q1
  obtain ⟨t, rfl⟩ := r1
  exact ⟨some i, H1, I1, .int i t, q⟩

def SlR (X : Cx) (r : V → Option Int → Option Int → Hp → VK → Prop) : Prop :=
  ∀ (pins : List (Addr × Obj)) (s : Shared) (σ : St) (H : Hp) (x : V) (v vl vu : Value) (lo hi : Option Int) (sl : Addr) (Q : VK), Inv X pins σ H s → RelV x v → s.heap.IsSliceOf sl vl vu .none → IsPart vl lo → IsPart vu hi → r x lo hi H Q →
    ∃ T id, typeLookup (.type T) "__getitem__" = pure (some (.builtin id)) ∧ s.TypeIs v T ∧ wpAny (model X.prog X.w) X.A (getItem v (.ref sl)) (EP X pins σ Q) X.xe s
theorem SlR.or {r r' : V → Option Int → Option Int → Hp → VK → Prop} (h : SlR X r) (h' : SlR X r') : SlR X (fun x lo hi H Q => r x lo hi H Q ∨ r' x lo hi H Q) := by
  intro pins s σ H x v vl vu lo hi sl Q I rx hs pl pu q
  rcases q with q | q
  · exact h pins s σ H x v vl vu lo hi sl Q I rx hs pl pu q
  · exact h' pins s σ H x v vl vu lo hi sl Q I rx hs pl pu q
def tSl (r : V → Option Int → Option Int → Hp → VK → Prop) (te : TE) (tl th : TO) : TE := fun σ H Q => te σ H fun x H1 => tl σ H1 fun l H2 => th σ H2 fun u H3 => r x l u H3 Q
theorem pe_slice {r : V → Option Int → Option Int → Hp → VK → Prop} (hr : SlR X r) (he : PE X e te) (hl : PO X lo tl) (hu : PO X hi th) : PE X (.Subscript e (.Slice lo hi none p2) pos) (tSl r te tl th) := by
  intro pins s σ H Q I h
  refine Subscript_ (thn (he pins s σ H _ I h) fun v s1 ⟨x, H1, I1, r1, q1⟩ => ?_)
  refine wpAny_Slice (thn (hl pins s1 σ H1 _ I1 q1) fun vl s2 ⟨l, H2, I2, pl, q2⟩ => thn (hu pins s2 σ H2 _ I2 q2) fun vu s3 ⟨u, H3, I3, pu, q3⟩ => ?_)
  rw [evalPart_none]
  refine wpAny_pure ?_
  have I4 : Inv X pins σ H3 { s3 with heap := s3.heap.push { cls := .type "slice", data := .fields #[vl, vu, .none] } } := I3.kept (t' := s3.toks) fun b ob q => Heap.get?_push_of_some _ q
  obtain ⟨T, id, hT, ht, hg⟩ := hr pins { s3 with heap := s3.heap.push { cls := .type "slice", data := .fields #[vl, vu, .none] } } σ H3 x v vl vu l u s3.heap.objs.size Q I4 r1 (Heap.IsSliceOf.new ..) pl pu q3
  show wpAny (model X.prog X.w) X.A (subscriptTail e (.Slice lo hi none p2) v (.ref s3.heap.objs.size)) (EP X pins σ Q) X.xe { s3 with heap := s3.heap.push { cls := .type "slice", data := .fields #[vl, vu, .none] } }
  exact tail_any (ops := [.ref s3.heap.objs.size, v]) ht hT hg (by with_unfolding_all rfl)

def cutV (xs : List V) (lo hi : Option Int) : List V := (xs.drop (HT.sIx xs.length 0 lo)).take (HT.sIx xs.length xs.length hi - HT.sIx xs.length 0 lo)
theorem cutV_length (xs : List V) (lo hi : Option Int) : (cutV xs lo hi).length ≤ xs.length := by
  unfold cutV
  rw [List.length_take, List.length_drop]
  omega
end
end L2

namespace L2
open PySem PySem.Spec PyProof.Rows

def ixN (n : Nat) (i : Int) : Option Nat := if 0 ≤ i then (if i < n then some i.toNat else none) else if -(n : Int) ≤ i then some (i + n).toNat else none
def atI {α : Type} (xs : List α) (i : Int) : Option α := (ixN xs.length i).bind fun j => xs[j]?
theorem ixN_seq {n : Nat} {i : Int} {j : Nat} (h : ixN n i = some j) : seqIndex? i n = some j ∧ j < n ∧ -(n : Int) ≤ i ∧ i < n := by
  unfold ixN at h
  by_cases h0 : 0 ≤ i
  · rw [if_pos h0] at h
    by_cases h1 : i < n
    · rw [if_pos h1] at h
      have e : i.toNat = j := Option.some.inj h
      exact ⟨by rw [seqIndex_of h0 h1, e], by omega, by omega, h1⟩
    · rw [if_neg h1] at h; cases h
  · rw [if_neg h0] at h
    by_cases h1 : -(n : Int) ≤ i
    · rw [if_pos h1] at h
      have e : (i + n).toNat = j := Option.some.inj h
      exact ⟨by rw [seqIndex_neg (by omega) h1, e], by omega, h1, by omega⟩
    · rw [if_neg h1] at h; cases h
theorem atI_get {α : Type} {xs : List α} {i : Int} {v : α} (h : atI xs i = some v) : ∃ j, seqIndex? i xs.length = some j ∧ xs[j]? = some v ∧ j < xs.length ∧ -(xs.length : Int) ≤ i ∧ i < xs.length := by
  unfold atI at h
  cases e : ixN xs.length i with
  | none => rw [e] at h; cases h
  | some j =>
    rw [e] at h
    obtain ⟨h1, h2, h3, h4⟩ := ixN_seq e
    exact ⟨j, h1, h, h2, h3, h4⟩
theorem atI_nat {α : Type} {xs : List α} {j : Nat} {v : α} (h : xs[j]? = some v) : atI xs (j : Int) = some v := by
  have hj : j < xs.length := (List.getElem?_eq_some_iff.mp h).1
  have e : ixN xs.length (j : Int) = some j := by
    unfold ixN
    rw [if_pos (by omega), if_pos (by omega)]; simp
  unfold atI; rw [e]; exact h
theorem atI_last {α : Type} (xs : List α) (v : α) : atI (xs ++ [v]) (-1) = some v := by
  have hl : (xs ++ [v]).length = xs.length + 1 := by simp
  have e : ixN (xs ++ [v]).length (-1) = some xs.length := by
    unfold ixN
    rw [hl, if_neg (by decide), if_pos (by omega)]
    congr 1
    omega
  unfold atI
  rw [e]
  show (xs ++ [v])[xs.length]? = some v
  simp

def PlainIx (b : Expr) : Prop := ∀ o i, subscripted b false o i = operate [o, i] (getItem o i)
def IxR (X : Cx) (r : R2) : Prop :=
  ∀ (value slice : Expr) (pins : List (Addr × Obj)) (s : Shared) (σ : St) (H : Hp) (x y : V) (v u : Value) (Q : VK), Inv X pins σ H s → RelV x v → RelV y u → r x y H Q →
    subscripted slice false v u = operate [v, u] (getItem v u) → wpAny (model X.prog X.w) X.A (subscriptTail value slice v u) (EP X pins σ Q) X.xe s
def MtR (X : Cx) (id : String) (r : V → List V → Hp → VK → Prop) : Prop :=
  ∀ (pins : List (Addr × Obj)) (s : Shared) (σ : St) (H : Hp) (x : V) (xs : List V) (v : Value) (us : List Value) (Q : VK), Inv X pins σ H s → RelV x v → Vals xs us → r x xs H Q →
    wpAny (model X.prog X.w) X.A (call (.builtin id) (v :: us)) (EP X pins σ Q) X.xe s
section
variable {X : Cx} {a b : Expr} {ta tb : TE} {pos : Pos}
theorem IxR.or {r r' : R2} (h : IxR X r) (h' : IxR X r') : IxR X (fun x y H Q => r x y H Q ∨ r' x y H Q) := by
  intro value slice pins s σ H x y v u Q I rx ry q hs
  rcases q with q | q
  · exact h value slice pins s σ H x y v u Q I rx ry q hs
  · exact h' value slice pins s σ H x y v u Q I rx ry q hs
theorem MtR.or {id : String} {r r' : V → List V → Hp → VK → Prop} (h : MtR X id r) (h' : MtR X id r') : MtR X id (fun x xs H Q => r x xs H Q ∨ r' x xs H Q) := by
  intro pins s σ H x xs v us Q I rx rs q
  rcases q with q | q
  · exact h pins s σ H x xs v us Q I rx rs q
  · exact h' pins s σ H x xs v us Q I rx rs q
theorem pe_ix {r : R2} (hr : IxR X r) (ha : PE X a ta) (hb : PE X b tb) (hs : PlainIx b) : PE X (.Subscript a b pos) (tOp r ta tb) := by
  intro pins s σ H Q I h
  exact Subscript_ (binT ha hb I h fun v u s2 x y H2 I2 rx ry q => hr a b pins s2 σ H2 x y v u Q I2 rx ry q (hs _ _))

def rIxL (K : PySem.W.Frag) : R2 := fun x y H Q => ∃ p xs i v, x = .ref p ∧ y = .int i ∧ SqL K H p xs ∧ atI xs i = some v ∧ Q v H
def rIxT (K : PySem.W.Frag) : R2 := fun x y H Q => ∃ p xs i v, x = .ref p ∧ y = .int i ∧ SqT K H p xs ∧ atI xs i = some v ∧ Q v H
theorem ix_list : IxR X (rIxL X.K) := by
  intro value slice pins s σ H x y v u Q I rx ry h hs
  obtain ⟨p, xs, i, z, rfl, rfl, hq, he, q⟩ := h
  cases rx
  obtain ⟨t, rfl⟩ := ry
  obtain ⟨its, r, pl, hz⟩ := I.list hq
  obtain ⟨j, h1, h2, h3, h4, h5⟩ := atI_get he
  obtain ⟨w, ew, rw'⟩ := r.get h2
  have hl := r.length
  have hn := line63
  have fin : EP X pins σ Q w s := ⟨z, H, I, rw', q⟩
  by_cases h0 : 0 ≤ i
  · have hj : i.toNat = j := by
      rw [seqIndex_of h0 h5] at h1
      exact Option.some.inj h1
    exact item_listR pl.isList h0 (by omega) (by rw [hj]; simpa using ew) fin hs
  · have hj : (i + (its.toArray.size : Int)).toNat = j := by
      rw [seqIndex_neg (by omega) h4] at h1
      rw [List.size_toArray, ← hl]
      exact Option.some.inj h1
    exact subscriptTail_builtinR (x := w) pl.isList.typeIs slot_list_getitem.lookup
      (wpAny_getItem_list_neg (Q := fun r s' => r = w ∧ EP X pins σ Q r s') pl.isList (by omega) (by rw [List.size_toArray] <;> omega) (by omega) (by rw [hj]; simpa using ew) ⟨rfl, fin⟩) hs
theorem ix_tup : IxR X (rIxT X.K) := by
  intro value slice pins s σ H x y v u Q I rx ry h hs
  obtain ⟨p, xs, i, z, rfl, rfl, hq, he, q⟩ := h
  cases rx
  obtain ⟨t, rfl⟩ := ry
  obtain ⟨its, r, pl, hz⟩ := I.tuple hq
  obtain ⟨j, h1, h2, h3, h4, h5⟩ := atI_get he
  obtain ⟨w, ew, rw'⟩ := r.get h2
  have hl := r.length
  have hn := line63
  have fin : EP X pins σ Q w s := ⟨z, H, I, rw', q⟩
  exact subscriptTail_builtinR (x := w) pl.typeIs slot_tuple_getitem.lookup
    (getItem_tuple (j := j) (Q := fun r s' => r = w ∧ EP X pins σ Q r s') pl (by omega) (by omega) (by rw [List.size_toArray, ← hl]; exact h1) (by simpa using ew) ⟨rfl, fin⟩) hs
theorem mapSeq_set (its : List Value) (n j : Nat) (u : Value) : Obj.mapSeq (·.setIfInBounds j u) { cls := .type "list", data := .seq its.toArray n } = { cls := .type "list", data := .seq (its.set j u).toArray n } := by
  simp [Obj.mapSeq]
theorem Inv.lst {pins : List (Addr × Obj)} {σ : St} {H : Hp} {s : Shared} {p : Addr} {xs : List V} (I : Inv X pins σ H s) (h : H p = some (.lst xs)) :
    ∃ (its : List Value) (n : Nat), Vals xs its ∧ s.heap.get? p = some { cls := .type "list", data := .seq its.toArray n } ∧ xs.length ≤ sizeLine := by
  obtain ⟨z, its, n, r, e⟩ := I.hok p _ h
  exact ⟨its, n, r, e, z⟩
theorem Inv.lstUpd {pins : List (Addr × Obj)} {σ : St} {H : Hp} {s : Shared} {p : Addr} {xs ys : List V} {its its' : List Value} {n n' : Nat} {f : Obj → Obj} (I : Inv X pins σ H s) (h : H p = some (.lst xs))
    (ho : s.heap.get? p = some { cls := .type "list", data := .seq its.toArray n }) (hf : f { cls := .type "list", data := .seq its.toArray n } = { cls := .type "list", data := .seq its'.toArray n' }) (r : Vals ys its') (hz : ys.length ≤ sizeLine) (t : Nat) :
    Inv X pins σ (upd H p (.lst ys)) { s with heap := s.heap.update p f, toks := t } := by
  have e : (s.heap.update p f).get? p = some { cls := .type "list", data := .seq its'.toArray n' } := by
    rw [Heap.get?_update_self f ho (by rw [hf] <;> rfl), hf]
  refine I.write (x := p) (e := p) (by rw [h]; trivial) (.inl rfl) (fun b u hb q => (Heap.get?_update_other _ _ (Ne.symm hb)).trans q) ⟨_, e⟩ ?_
  exact ⟨hz, its', n', r, e⟩
def rSetL : V → V → V → Hp → (Hp → Prop) → Prop := fun o i v H Q => ∃ p xs k j, o = .ref p ∧ i = .int k ∧ H p = some (.lst xs) ∧ ixN xs.length k = some j ∧ Q (upd H p (.lst (xs.set j v)))
theorem set_list : PSet X rSetL := by
  intro pins s σ H o i v ov iv u Q I ro ri rv h
  obtain ⟨p, xs, k, j, rfl, rfl, hp, hj, q⟩ := h
  cases ro
  obtain ⟨t, rfl⟩ := ri
  obtain ⟨its, n, r, ho, hz⟩ := I.lst hp
  obtain ⟨h1, h2, h3, h4⟩ := ixN_seq hj
  have hl := r.length
  have hn := line63
  have I' : Inv X pins σ (upd H p (.lst (xs.set j v))) { s with heap := s.heap.update p (Obj.mapSeq (·.setIfInBounds j u)) } :=
    I.lstUpd hp ho (mapSeq_set its n j u) (r.set rv j) (by rw [List.length_set]; exact hz) s.toks
  by_cases h0 : 0 ≤ k
  · have hk : k.toNat = j := by
      rw [seqIndex_of h0 h4] at h1
      exact Option.some.inj h1
    exact PySem.W.ki_setAt ho h0 (by omega) (by rw [List.size_toArray, ← hl]; exact h4) (by rw [hk]; exact ⟨_, I', q⟩)
  · have hk : (k + (its.toArray.size : Int)).toNat = j := by
      rw [seqIndex_neg (by omega) h3] at h1
      rw [List.size_toArray, ← hl]
      exact Option.some.inj h1
    exact PySem.W.ki_setBack ho (by omega) (by rw [List.size_toArray, ← hl]; exact h3) (by omega) (by rw [hk]; exact ⟨_, I', q⟩)

theorem slice_bounds (lo hi : Option Int) (n : Nat) : (sliceBounds lo hi none n).1 = ((HT.sIx n 0 lo : Nat) : Int) ∧ (sliceBounds lo hi none n).2.1 = ((HT.sIx n n hi : Nat) : Int) ∧ (sliceBounds lo hi none n).2.2 = 1 := by
  refine ⟨?_, ?_, rfl⟩
  · cases lo with
    | none => simp [sliceBounds, HT.sIx]
    | some i =>
      simp only [sliceBounds, HT.sIx, Option.getD_none, show (1 : Int) > 0 by decide, if_true]
      by_cases h : i < 0
      · simp only [h, if_true] <;> omega
      · simp only [h, if_false] <;> omega
  · cases hi with
    | none => simp [sliceBounds, HT.sIx]
    | some i =>
      simp only [sliceBounds, HT.sIx, Option.getD_none, show (1 : Int) > 0 by decide, if_true]
      by_cases h : i < 0
      · simp only [h, if_true] <;> omega
      · simp only [h, if_false] <;> omega
theorem slicePick_cut (its : List Value) (lo hi : Option Int) : slicePick its.toArray lo hi none = ((its.drop (HT.sIx its.length 0 lo)).take (HT.sIx its.length its.length hi - HT.sIx its.length 0 lo)).toArray := by
  obtain ⟨h1, h2, h3⟩ := slice_bounds lo hi its.toArray.size
  unfold slicePick
  rw [h1, h2, h3]
  simp only [sliceRange_one, pick_run, List.size_toArray] <;> rfl
def rSlL (K : PySem.W.Frag) : V → Option Int → Option Int → Hp → VK → Prop := fun x lo hi H Q => ∃ a xs, x = .ref a ∧ SqL K H a xs ∧ ∀ p, H p = none → Q (.ref p) (upd H p (.lst (cutV xs lo hi)))
theorem sl_list : SlR X (rSlL X.K) := by
  intro pins s σ H x v vl vu lo hi sl Q I rx hs pl pu h
  obtain ⟨a, xs, rfl, hx, q⟩ := h
  cases rx
  obtain ⟨its, r, ht, hz⟩ := I.list hx
  have hlen := r.length
  refine ⟨"list", _, slot_list_getitem.lookup, ht.isList.typeIs, ?_⟩
  refine wpAny_getItem_list_slice ht.isList hs pl pu .none (by simp) ?_ (by rw [List.size_toArray] <;> omega)
  rw [slicePick_cut, ← hlen]
  refine ⟨.ref s.heap.objs.size, _, I.laid (t' := s.toks) (o := .lst (cutV xs lo hi)) (fun b ob q => Heap.get?_push_of_some _ q) (Nat.le_refl _) ?_, rfl, q _ (I.hok.fresh (Nat.le_refl _))⟩
  exact ⟨Nat.le_trans (cutV_length xs lo hi) hz, _, 0, (r.drop (HT.sIx xs.length 0 lo)).take (HT.sIx xs.length xs.length hi - HT.sIx xs.length 0 lo), Heap.get?_push_size _ rfl⟩

theorem call_len_seq : CallR X (.builtin "len") (fun xs H Q => ∃ p ys, xs = [.ref p] ∧ (SqL X.K H p ys ∨ SqT X.K H p ys) ∧ Q (.int ys.length) H) := by
  intro pins s σ H xs us Q I r h
  obtain ⟨p, ys, rfl, hq, q⟩ := h
  obtain ⟨u, rfl, rx⟩ := vals1 r
  cases rx
  have hn := line63
  rcases hq with hq | hq
  · obtain ⟨its, r', pl, hz⟩ := I.list hq
    have hlen := r'.length
    exact Calls.call_len_list pl.isList (by simp only [List.size_toArray] <;> omega) ⟨.int ys.length, H, I.tok _, ⟨s.toks + 1, by rw [List.size_toArray, hlen]⟩, q⟩
  · obtain ⟨its, r', pl, hz⟩ := I.tuple hq
    have hlen := r'.length
    exact len_tuple pl (by simp only [List.size_toArray] <;> omega) ⟨.int ys.length, H, I.tok _, ⟨s.toks + 1, by rw [List.size_toArray, hlen]⟩, q⟩
theorem CallR.or {f : Value} {r r' : List V → Hp → VK → Prop} (h : CallR X f r) (h' : CallR X f r') : CallR X f (fun xs H Q => r xs H Q ∨ r' xs H Q) := by
  intro pins s σ H xs us Q I rs q
  rcases q with q | q
  · exact h pins s σ H xs us Q I rs q
  · exact h' pins s σ H xs us Q I rs q
theorem call_list_of : CallR X (.type "list") (fun xs H Q => ∃ p ys, xs = [.ref p] ∧ (SqL X.K H p ys ∨ SqT X.K H p ys) ∧ ∀ l, H l = none → Q (.ref l) (upd H l (.lst ys))) := by
  intro pins s σ H xs us Q I r h
  obtain ⟨p, ys, rfl, hq, q⟩ := h
  obtain ⟨u, rfl, rx⟩ := vals1 r
  cases rx
  have fin : ∀ (its : List Value), Vals ys its → ys.length ≤ sizeLine → ∀ (h' : Heap) (c' : Nat), (∀ b o', s.heap.get? b = some o' → h'.get? b = some o') →
      h'.get? s.heap.objs.size = some { cls := .type "list", dict := none, data := .seq its.toArray c', slots := #[] } → EP X pins σ Q (.ref s.heap.objs.size) { s with heap := h' } := fun its r' hz h' c' kp e =>
    ⟨.ref s.heap.objs.size, _, I.laid (t' := s.toks) kp (Nat.le_refl _) (show ObjOk X.prog X.w _ h' _ (.lst ys) from ⟨hz, its, c', r', e⟩), rfl, q _ (I.hok.fresh (Nat.le_refl _))⟩
  rcases hq with hq | hq
  · obtain ⟨its, r', pl, hz⟩ := I.list hq
    have hlen := r'.length
    obtain ⟨o, ho, hc, n, hd⟩ := pl.isList
    exact call_list_seq p (.inl rfl) ho hc hd (fun h' c' kp e => fin its r' hz h' c' kp e) (by simp only [List.size_toArray] <;> omega)
  · obtain ⟨its, r', pl, hz⟩ := I.tuple hq
    have hlen := r'.length
    obtain ⟨o, ho, hc, n, hd⟩ := pl
    exact call_list_seq p (.inr rfl) ho hc hd (fun h' c' kp e => fin its r' hz h' c' kp e) (by simp only [List.size_toArray] <;> omega)
def tyV (K : PySem.W.Frag) (T : String) (x : V) (H : Hp) : Prop := match x with
  | .str _ => T = "str"
  | .int _ => T = "int"
  | .ref p => (T = "list" ∧ ∃ xs, SqL K H p xs) ∨ (T = "tuple" ∧ ∃ o, K.lookup p = some o ∧ o.cls = .type "tuple" ∧ o.dict = none) ∨
      (T = "dict" ∧ ((∃ kvs, H p = some (.dK kvs)) ∨ ∃ kvs, H p = some (.dT kvs))) ∨ (T = "set" ∧ ∃ S n, H p = some (.set S n))
  | _ => False
theorem tyV_is {pins : List (Addr × Obj)} {σ : St} {H : Hp} {s : Shared} {T : String} {x : V} {v : Value} (I : Inv X pins σ H s) (r : RelV x v) (ty : tyV X.K T x H) :
    s.TypeIs v T ∧ ∀ a, v = .ref a → ∃ ob, s.heap.get? a = some ob ∧ ob.dict = none := by
  cases x with
  | str z =>
    obtain ⟨t, rfl⟩ := r
    cases (show T = "str" from ty)
    exact ⟨typeIs_str s z t, fun _ e => nomatch e⟩
  | int i =>
    obtain ⟨t, rfl⟩ := r
    cases (show T = "int" from ty)
    exact ⟨typeIs_int s i t, fun _ e => nomatch e⟩
  | ref p =>
    cases r
    rcases ty with ⟨rfl, xs, hq⟩ | ⟨rfl, o, hk, hc, hd⟩ | ⟨rfl, hk⟩ | ⟨rfl, S, n, hk⟩
    · obtain ⟨its, _, pl, _⟩ := I.list hq
      refine ⟨pl.isList.typeIs, fun a e => ?_⟩
      cases e
      obtain ⟨o, n, e, c, hd, _⟩ := pl
      exact ⟨o, e, hd⟩
    · refine ⟨⟨o, I.kIn p o hk, hc⟩, fun a e => ?_⟩
      cases e
      exact ⟨o, I.kIn _ o hk, hd⟩
    · have z : ∃ o, s.heap.get? p = some o ∧ o.ExactDict := by
        rcases hk with ⟨kvs, hk⟩ | ⟨kvs, hk⟩
        · obtain ⟨_, _, _, _, o, _, _, e, ex, _⟩ := I.hok p _ hk
          exact ⟨o, e, ex⟩
        · obtain ⟨_, _, _, _, o, _, _, e, ex, _⟩ := I.hok p _ hk
          exact ⟨o, e, ex⟩
      obtain ⟨o, e, ex⟩ := z
      refine ⟨⟨o, e, ex.1⟩, fun a e2 => ?_⟩
      cases e2
      exact ⟨o, e, ex.2.1⟩
    · obtain ⟨o, _, _, _, e, ex, _⟩ := I.hok p _ hk
      refine ⟨⟨o, e, ex.1⟩, fun a e2 => ?_⟩
      cases e2
      exact ⟨o, e, ex.2.1⟩
  | _ => exact False.elim ty
def tBM (K : PySem.W.Frag) (T : String) (r : V → List V → Hp → VK → Prop) (to : TE) (t : TA) : TE := fun σ H Q => to σ H fun x H1 => tyV K T x H1 ∧ t σ H1 fun xs H2 => r x xs H2 Q
variable {o e : Expr} {es : List Expr} {to : TE} {t : TA} {name : Str} {apos cpos : Pos} {T id : String} {r : V → List V → Hp → VK → Prop}
theorem pe_bm (pa : PlainAttrs T) (slot : Slot T name id) (hty : typeOf (.builtin id) = pure (.type "method_descriptor")) (hm : MtR X id r) (ho : PE X o to) (ha : PA X (e :: es) t)
    (hbase : attributeBase o name X.env (eval o X.env) = eval o X.env := by rfl)
    (hfew : ((backTo cpos (starEach (e :: es) X.env)).all (fun x => !x.1) && (backToKw cpos (keywordEach [] X.env)).all (fun x => x.1.isSome)
      && decide ((e :: es).length + ([] : List Keyword).length + (if ([] : List Keyword).isEmpty then 0 else 1) < 30)) = true := by rfl)
    (hline : (apos.endLine == cpos.line) = true := by rfl) (hs : starEach (e :: es) X.env = (false, eval e X.env) :: starEach es X.env := by rfl) (hplain : (backTo cpos (starEach es X.env)).any (·.1) = false := by rfl) :
    PE X (.Call (.Attribute o name apos) (e :: es) [] cpos) (tBM X.K T r to t) := by
  intro pins s σ H Q I h
  refine wpAny_Call_method_late hbase hfew hline rfl (thn (ho pins s σ H _ I h) fun v s1 ⟨x, H1, I1, r1, ty, q1⟩ => ?_)
  obtain ⟨h1, h2⟩ := tyV_is I1 r1 ty
  refine ⟨T, id, pa, slot, hty, h1, h2, ?_⟩
  have hA := ha cpos pins s1 σ H1 _ I1 q1
  rw [hs] at hA ⊢
  refine Calls.callWith_builtin (by show (false || (backTo cpos (starEach es X.env)).any (·.1)) = false; rw [hplain] <;> rfl) (Calls.evalArgs_plain ?_)
  exact thn hA fun us s2 ⟨vs, H2, I2, r2, q2⟩ => hm pins s2 σ H2 x vs v us Q I2 r1 r2 q2
end
end L2

namespace L2
open PySem PySem.Spec PyProof.Rows

def MtM (X : Cx) (id : String) (r : V → List V → Hp → VK → Prop) : Prop :=
  ∀ (pins : List (Addr × Obj)) (s : Shared) (σ : St) (H : Hp) (x : V) (xs : List V) (v : Value) (us : List Value) (Q : VK), Inv X pins σ H s → RelV x v → Vals xs us → r x xs H Q →
    wpAny (model X.prog X.w) X.A (call (.builtin id) (v :: us)) (EP X pins σ Q) X.xe s

theorem Vals.one : ∀ {x : V} {us : List Value}, Vals [x] us → ∃ u, us = [u] ∧ RelV x u
  | _, _, .cons r .nil => ⟨_, rfl, r⟩
theorem Vals.two : ∀ {x y : V} {us : List Value}, Vals [x, y] us → ∃ u v, us = [u, v] ∧ RelV x u ∧ RelV y v
  | _, _, _, .cons r (.cons q .nil) => ⟨_, _, rfl, r, q⟩
theorem Vals.zero : ∀ {us : List Value}, Vals [] us → us = []
  | _, .nil => rfl
theorem Vals.dropLast {xs : List V} {us : List Value} (h : Vals xs us) : Vals xs.dropLast us.dropLast := by
  induction h with
  | nil => exact .nil
  | cons r t ih =>
    cases t with
    | nil => exact .nil
    | cons q t' => exact .cons r ih
theorem Vals.eraseIdx : ∀ {xs : List V} {us : List Value} (i : Nat), Vals xs us → Vals (xs.eraseIdx i) (us.eraseIdx i)
  | _, _, _, .nil => .nil
  | _, _, 0, .cons _ t => t
  | _, _, i + 1, .cons r t => .cons r (Vals.eraseIdx i t)
theorem Vals.reverse {xs : List V} {us : List Value} (h : Vals xs us) : Vals xs.reverse us.reverse := by
  induction h with
  | nil => exact .nil
  | cons r t ih => rw [List.reverse_cons, List.reverse_cons]; exact Vals.append ih (.cons r .nil)
theorem Vals.rep {xs : List V} {us : List Value} (h : Vals xs us) : ∀ k : Nat, Vals (List.replicate k xs).flatten (List.replicate k us).flatten
  | 0 => .nil
  | k + 1 => by
    rw [List.replicate_succ, List.replicate_succ, List.flatten_cons, List.flatten_cons]
    exact Vals.append h (Vals.rep h k)
theorem foldl_rep (its : List Value) : ∀ (k : Nat) (acc : List Value),
    List.foldl (fun x1 x2 => x1 ++ x2) acc.toArray (List.replicate k its.toArray) = (acc ++ (List.replicate k its).flatten).toArray
  | 0, acc => by simp
  | k + 1, acc => by
    have e : acc.toArray ++ its.toArray = (acc ++ its).toArray := by simp
    have e2 : (acc ++ its) ++ (List.replicate k its).flatten = acc ++ (List.replicate (k + 1) its).flatten := by
      rw [List.replicate_succ, List.flatten_cons, List.append_assoc]
    rw [← e2, ← foldl_rep its k (acc ++ its), ← e, List.replicate_succ, List.foldl_cons]

section
variable {X : Cx} {pins : List (Addr × Obj)} {σ : St} {H : Hp} {s : Shared} {l b : Addr} {xs ys zs : List V}

theorem Inv.lset {its its' : List Value} {n : Nat} {f : Array Value → Array Value} {t' : Nat} (I : Inv X pins σ H s) (hH : H l = some (.lst xs))
    (e : s.heap.get? l = some { cls := .type "list", data := .seq its.toArray n }) (hf : f its.toArray = its'.toArray) (hv : Vals ys its') (hz : ys.length ≤ sizeLine) :
    Inv X pins σ (upd H l (.lst ys)) { s with heap := s.heap.update l (Obj.mapSeq f), toks := t' } := by
  have q := PySem.IsL.update e f
  rw [hf] at q
  refine I.write (x := l) (e := l) (by rw [hH]; exact trivial) (.inl rfl) (fun b' u hb hu => (Heap.get?_update_other s.heap (Obj.mapSeq f) (Ne.symm hb)).trans hu) ⟨_, q⟩ ?_
  exact ⟨hz, its', _, hv, q⟩
theorem Inv.lnew {its : List Value} {t' : Nat} (I : Inv X pins σ H s) (hv : Vals ys its) (hz : ys.length ≤ sizeLine) :
    Inv X pins σ (upd H s.heap.objs.size (.lst ys)) { s with heap := s.heap.push { cls := .type "list", data := .seq its.toArray }, toks := t' } :=
  I.laid (fun _ _ q => Heap.get?_push_of_some _ q) (Nat.le_refl _) ⟨hz, its, 0, hv, Heap.get?_push_size _ rfl⟩
theorem Inv.fresh (I : Inv X pins σ H s) : H s.heap.objs.size = none := I.hok.fresh (Nat.le_refl _)
theorem Inv.lstM (I : Inv X pins σ H s) (hH : H l = some (.lst xs)) : xs.length ≤ sizeLine ∧ ∃ (its : List Value) (n : Nat), Vals xs its ∧ xs.length = its.length ∧ s.heap.get? l = some { cls := .type "list", data := .seq its.toArray n } := by
  obtain ⟨z, its, n, r, e⟩ := I.hok l _ hH
  exact ⟨z, its, n, r, r.length, e⟩

theorem notLongL {n : Nat} (h : n ≤ sizeLine) : Builtin.List.listTooLong n = false := by
  unfold Builtin.List.listTooLong
  exact decide_eq_false (by omega)
end

section
variable {X : Cx}

def rAppend : V → List V → Hp → VK → Prop := fun x vs H Q => ∃ l xs y, x = .ref l ∧ vs = [y] ∧ H l = some (.lst xs) ∧ xs.length < sizeLine ∧ Q .non (upd H l (.lst (xs ++ [y])))
theorem mt_append : MtM X "list.append" rAppend := by
  intro pins s σ H x vs v us Q I rx rv h
  obtain ⟨l, xs, y, rfl, rfl, hH, hz, q⟩ := h
  cases rx
  obtain ⟨u, rfl, ru⟩ := rv.one
  obtain ⟨z, its, n, r, hl, e⟩ := I.lstM hH
  refine call_meets F.slot_list_append ⟨_, e, rfl⟩ F.entry_list_append (F.args_list_append_2 _ _) (PySem.list_append l its.toArray n u (by rw [List.size_toArray]; omega)) ⟨e, ?_⟩
  refine ⟨.non, _, I.lset (its' := its ++ [u]) hH e (by simp) (r.append (.cons ru .nil)) ?_, rfl, q⟩
  rw [List.length_append, List.length_singleton]
  omega

def rExtend : V → List V → Hp → VK → Prop := fun x vs H Q => ∃ l b xs zs, x = .ref l ∧ vs = [.ref b] ∧ H l = some (.lst xs) ∧ H b = some (.lst zs) ∧ xs.length + zs.length ≤ sizeLine ∧ Q .non (upd H l (.lst (xs ++ zs)))
theorem mt_extend : MtM X "list.extend" rExtend := by
  intro pins s σ H x vs v us Q I rx rv h
  obtain ⟨l, b, xs, zs, rfl, rfl, hH, hB, hz, q⟩ := h
  cases rx
  obtain ⟨u, rfl, ru⟩ := rv.one
  cases ru
  obtain ⟨z, its, n, r, hl, e⟩ := I.lstM hH
  obtain ⟨z2, its2, n2, r2, hl2, e2⟩ := I.lstM hB
  have hsz : its.toArray.size + its2.toArray.size ≤ sizeLine := by rw [List.size_toArray, List.size_toArray]; omega
  have hlong : ¬ (!its.toArray.isEmpty && Builtin.List.listTooLong (its.toArray.size + its2.toArray.size)) = true := by
    rw [notLongL hsz, Bool.and_false]
    exact Bool.false_ne_true
  refine call_meets F.slot_list_extend ⟨_, e, rfl⟩ F.entry_list_extend (F.args_list_extend_2 _ _)
    (AutoSeq1.list_extend_list_list_0 l its.toArray n b its2.toArray n2 hlong (by rw [List.size_toArray]; omega) (by omega)) ⟨e, e2, ?_⟩
  refine ⟨.non, _, I.lset (its' := its ++ its2) hH e (by simp) (r.append r2) ?_, rfl, q⟩
  rw [List.length_append]
  omega

def rCat : R2 := fun x y H Q => ∃ l b xs zs, x = .ref l ∧ y = .ref b ∧ H l = some (.lst xs) ∧ H b = some (.lst zs) ∧ xs.length + zs.length ≤ sizeLine ∧ ∀ p, H p = none → Q (.ref p) (upd H p (.lst (xs ++ zs)))
theorem op_cat : OpR X (binaryOp .Add) rCat := by
  intro pins s σ H x y v u Q I rx ry h
  obtain ⟨l, b, xs, zs, rfl, rfl, hH, hB, hz, q⟩ := h
  cases rx
  cases ry
  obtain ⟨z, its, n, r, hl, e⟩ := I.lstM hH
  obtain ⟨z2, its2, n2, r2, hl2, e2⟩ := I.lstM hB
  refine PySem.P.add_list e e2 ?_ (by rw [List.size_toArray, List.size_toArray]; omega)
  have ea : its.toArray ++ its2.toArray = (its ++ its2).toArray := by simp
  rw [ea]
  exact ⟨.ref _, _, I.lnew (t' := s.toks) (r.append r2) (by rw [List.length_append]; omega), rfl, q _ I.fresh⟩
def rRep : R2 := fun x y H Q => ∃ l k xs, x = .ref l ∧ y = .int k ∧ H l = some (.lst xs) ∧ -(2 ^ 63) ≤ k ∧ k < 2 ^ 63 ∧ xs.length * k.toNat ≤ sizeLine ∧
  ∀ p, H p = none → Q (.ref p) (upd H p (.lst (List.replicate k.toNat xs).flatten))
theorem len_rep {α : Type} (xs : List α) (k : Nat) : (List.replicate k xs).flatten.length = k * xs.length := by
  induction k with
  | zero => simp
  | succ k ih => rw [List.replicate_succ, List.flatten_cons, List.length_append, ih, Nat.succ_mul, Nat.add_comm]
theorem op_rep : OpR X (binaryOp .Mult) rRep := by
  intro pins s σ H x y v u Q I rx ry h
  obtain ⟨l, k, xs, rfl, rfl, hH, h1, h2, hz, q⟩ := h
  cases rx
  obtain ⟨t, rfl⟩ := ry
  obtain ⟨z, its, n, r, hl, e⟩ := I.lstM hH
  have hlen : its.toArray.size * k.toNat ≤ sizeLine := by rw [List.size_toArray, ← hl]; exact hz
  have hcap : ¬ its.toArray.size * k.toNat > (2 ^ 63 - 1) / 8 := by
    have : (sizeLine : Nat) ≤ (2 ^ 63 - 1) / 8 := by decide
    omega
  have hfit : ¬ (!Builtin.List.listFitsIndex k) = true := by
    rw [fitsIndex_both h1 h2]
    exact Bool.false_ne_true
  have hlong : ¬ Builtin.List.listTooLong (its.toArray.size * k.toNat) = true := by
    rw [notLongL hlen]
    exact Bool.false_ne_true
  have hnew : List.foldl (fun x1 x2 => x1 ++ x2) #[] (List.replicate (if its.toArray.isEmpty = true then 0 else k.toNat) its.toArray) = (List.replicate k.toNat its).flatten.toArray := by
    have f0 : ∀ m : Nat, List.foldl (fun x1 x2 => x1 ++ x2) #[] (List.replicate m its.toArray) = (List.replicate m its).flatten.toArray := fun m => by
      have := foldl_rep its m []
      rw [List.nil_append] at this
      exact this
    rw [f0]
    cases its with
    | nil => simp
    | cons a r' => rw [if_neg (by simp)]
  refine wpAny_binaryOp_repeat_ref (T := "list") (U := "int") (by decide) ⟨_, e, rfl⟩ (fun s' => typeIs_int s' k t) noFill_list_mul F.fills_int_mul F.slot_int_rmul repeat_list F.slot_int_index.lookup
    (call_meets F.slot_int_rmul (typeIs_int s k t) F.entry_int_rmul (F.args_int_rmul_2 _ _) (int___rmul___int_list k t l its.toArray n)
      ⟨e, rfl, ⟨_, e, rfl⟩, call_meets F.slot_list_mul ⟨_, e, rfl⟩ F.entry_list_mul (F.args_list_mul_2 _ _) (AutoListH.list___mul___list_int_3 l its.toArray n k t hfit hcap hlong) ⟨e, ?_⟩⟩)
  rw [hnew]
  exact ⟨.ref _, _, I.lnew (t' := s.toks) (r.rep k.toNat) (by rw [len_rep, Nat.mul_comm]; exact hz), rfl, q _ I.fresh⟩

end

section
variable {prog : Program} {w : World} {A : Around} {E : Value → Shared → Prop} {s : Shared}
set_option maxRecDepth 100000 in
end

section
variable {X : Cx}
end
end L2

namespace L2
open PySem PySem.Spec PyProof.Rows

theorem Vals.ints : ∀ {ns : List Int} {us : List Value}, Vals (ns.map V.int) us → IntsAre us ns
  | [], us, h => by
    rw [List.map_nil] at h
    cases h
    exact IntsAre.nil
  | n :: ns, us, h => by
    rw [List.map_cons] at h
    cases h with
    | cons r t =>
      obtain ⟨k, rfl⟩ := r
      exact IntsAre.cons n k (Vals.ints t)
theorem vals_of_ints : ∀ {us : List Value} {ns : List Int}, IntsAre us ns → Vals (ns.map V.int) us
  | _, _, .nil => by rw [List.map_nil]; exact Paired.nil
  | _, _, .cons n t h => by rw [List.map_cons]; exact Paired.cons (show RelV (V.int n) (Value.int n t) from ⟨t, rfl⟩) (vals_of_ints h)
theorem Vals.strs : ∀ {xs : List Str} {us : List Value}, Vals (xs.map V.str) us → StrsAre us xs
  | [], us, h => by
    rw [List.map_nil] at h
    cases h
    exact StrsAre.nil
  | x :: xs, us, h => by
    rw [List.map_cons] at h
    cases h with
    | cons r t =>
      obtain ⟨k, rfl⟩ := r
      exact StrsAre.cons x k (Vals.strs t)
theorem Vals.ref1 {a : Addr} {us : List Value} (r : Vals [V.ref a] us) : us = [Value.ref a] := by
  cases r with
  | cons r t =>
    cases t
    cases r
    rfl
section
variable {prog : Program} {w : World} {A : Around} {E : Value → Shared → Prop} {s : Shared} {l : Addr} {its : List Value} {ns : List Int} {Q : Value → Shared → Prop}
theorem sum_raw (hh : A.handled = none) (hl : s.heap.IsList l its.toArray) (hi : IntsAre its ns)
    (h : ∀ h' tk t', (∀ b o, s.heap.get? b = some o → h'.get? b = some o) → Q (.int ns.sum t') { s with heap := h', toks := tk }) : wpAny (model prog w) A (call (.builtin "sum") [.ref l]) Q E s := by
  obtain ⟨xs, e⟩ := hi.allInts.items
  have hn : numsOf (intItems xs).toList = ns := by rw [← e]; exact hi.numsOf
  rw [nums_intItems] at hn
  rw [e] at hl
  refine PySem.sum_intListG hh hl fun h' tk t' hk => ?_
  have := h h' tk t' hk
  rw [preSum_eq, List.take_of_length_le (by simp), hn]; exact this
end

section
variable {X : Cx}
def rSum (K : PySem.W.Frag) : List V → Hp → VK → Prop := fun vs H Q => ∃ (a : Addr) (ns : List Int), vs = [V.ref a] ∧ SqL K H a (ns.map V.int) ∧ Q (.int ns.sum) H
theorem cr_sum (hc : X.calm = true) : CallR X (.builtin "sum") (rSum X.K) := by
  intro pins s σ H vs us Q I r h
  obtain ⟨a, ns, rfl, hs, q⟩ := h
  obtain ⟨its, rv, hl, _⟩ := I.list hs
  rw [Vals.ref1 r]
  exact sum_raw (I.ok.hd hc) hl.isList rv.ints fun h' tk t' hk => ⟨.int _, H, I.kept hk, ⟨_, rfl⟩, q⟩
def rSorted (K : PySem.W.Frag) : List V → Hp → VK → Prop := fun vs H Q => ∃ (a : Addr) (ns : List Int), vs = [V.ref a] ∧ SqL K H a (ns.map V.int) ∧ ns.length < 64 ∧
  ∀ (ns' : List Int) (p : Addr), ns'.Perm ns → ns'.Pairwise (· ≤ ·) → H p = none → Q (.ref p) (upd H p (.lst (ns'.map V.int)))
theorem small64 {n : Nat} (h : n < 64) : n ≤ sizeLine := by rw [sizeLine_eq]; omega
theorem cr_sorted : CallR X (.builtin "sorted") (rSorted X.K) := by
  intro pins s σ H vs us Q I r h
  obtain ⟨a, ns, rfl, hs, h64, q⟩ := h
  obtain ⟨its, rv, hl, _⟩ := I.list hs
  rw [Vals.ref1 r]
  have hi := rv.ints
  refine PyProof.Rows.sorted_ints hl.isList hi (by rw [hi.length]; exact h64) fun out ns' h1 h2 h3 => ?_
  obtain ⟨ep, he'⟩ := PyProof.Rows.sortedAll_at s.heap its out
  have hlen : (ns'.map V.int).length ≤ sizeLine := by rw [List.length_map, h2.length_eq]; exact small64 h64
  exact ⟨.ref _, upd H (s.heap.objs.size + 1) (.lst (ns'.map V.int)), I.laid (t' := s.toks) (fun _ _ => PyProof.Rows.sortedAll_old) (Nat.le_succ _) ⟨hlen, out.toList, ep, vals_of_ints h1, he'⟩, rfl, q ns' _ h2 h3 (I.hok.fresh (Nat.le_succ _))⟩
end

section
variable {X : Cx}
end

section
variable {X : Cx}
end

section
variable {X : Cx}
end

mutual
inductive Dp (K : PySem.W.Frag) (H : Hp) : V → PyData → Prop
  | non : Dp K H .non .none
  | bl (b : Bool) : Dp K H (.bl b) (.bool b)
  | int (i : Int) : Dp K H (.int i) (.int i)
  | str (x : Str) : Dp K H (.str x) (.str x)
  | lst {a : Addr} {xs : List V} {ds : List PyData} : SqL K H a xs → DpAll K H xs ds → Dp K H (.ref a) (.list ds)
  | tup {a : Addr} {xs : List V} {ds : List PyData} : SqT K H a xs → DpAll K H xs ds → Dp K H (.ref a) (.tuple ds)
inductive DpAll (K : PySem.W.Frag) (H : Hp) : List V → List PyData → Prop
  | nil : DpAll K H [] []
  | cons {v : V} {vs : List V} {d : PyData} {ds : List PyData} : Dp K H v d → DpAll K H vs ds → DpAll K H (v :: vs) (d :: ds)
end
section
variable {X : Cx} {pins : List (Addr × Obj)} {σ : St} {H : Hp} {s : Shared}
mutual
theorem Dp.reads (I : Inv X pins σ H s) : ∀ (d : PyData) (v : V) (u : Value), Dp X.K H v d → RelV v u → ∃ as, Reads s.heap u d as
  | .none, _, _, h, r => by
    cases h
    cases r
    exact ⟨_, Reads.none⟩
  | .bool b, _, _, h, r => by
    cases h
    cases r
    exact ⟨_, Reads.bool b⟩
  | .int i, _, _, h, r => by
    cases h
    obtain ⟨t, rfl⟩ := r
    exact ⟨_, Reads.int i t⟩
  | .str x, _, _, h, r => by
    cases h
    obtain ⟨t, rfl⟩ := r
    exact ⟨_, Reads.str x t⟩
  | .list ds, _, _, h, r => by
    cases h with
    | lst hs ha =>
      cases r
      obtain ⟨its, rv, ⟨o, n, ho, hc, _, hd⟩, _⟩ := I.list hs
      obtain ⟨as, hr⟩ := Dp.readsAll I ds _ its ha rv
      exact ⟨_, Reads.list ho hc hd hr⟩
  | .tuple ds, _, _, h, r => by
    cases h with
    | tup hs ha =>
      cases r
      obtain ⟨its, rv, ⟨o, ho, hc, n, hd⟩, _⟩ := I.tuple hs
      obtain ⟨as, hr⟩ := Dp.readsAll I ds _ its ha rv
      exact ⟨_, Reads.tuple ho hc hd hr⟩
  | .dict _, _, _, h, _ => by cases h
theorem Dp.readsAll (I : Inv X pins σ H s) : ∀ (ds : List PyData) (vs : List V) (us : List Value), DpAll X.K H vs ds → Vals vs us → ∃ as, ReadsAll s.heap us ds as
  | [], _, _, h, r => by
    cases h
    cases r
    exact ⟨_, ReadsAll.nil⟩
  | d :: ds, _, _, h, r => by
    cases h with
    | cons h1 h2 =>
      cases r with
      | cons r1 r2 =>
        obtain ⟨as, q1⟩ := Dp.reads I d _ _ h1 r1
        obtain ⟨bs, q2⟩ := Dp.readsAll I ds _ _ h2 r2
        exact ⟨_, ReadsAll.cons q1 q2⟩
end
end
section
variable {X : Cx}
def rNeD (K : PySem.W.Frag) : R2 := fun x y H Q => ∃ d e, Dp K H x d ∧ Dp K H y e ∧ SeqAt.shaped d = true ∧ SeqAt.shaped e = true ∧ Q (.bl (!PyData.eqv d e)) H
theorem op_neD (hu : X.A.units + 64 < cLine) : OpR X (compareOp .NotEq) (rNeD X.K) := by
  intro pins s σ H x y v u Q I rx ry h
  obtain ⟨d, e, hd, he, sd, se, q⟩ := h
  obtain ⟨as, r1⟩ := Dp.reads I d x v hd rx
  obtain ⟨bs, r2⟩ := Dp.reads I e y u he ry
  exact SeqAt.compareNe_shaped r1 r2 sd se hu ⟨.bl _, H, I, rfl, q⟩
end
end L2

namespace L2
open PySem PySem.Spec PyProof.Rows
abbrev CellAt (h : Heap) (c : Addr) (v : Option Value) : Prop := h.IsCell c v
def relS (scope sc : Scope) : Scope :=
  { scope with names := scope.names.map fun (n, k) => if (k == .free && sc.kind == .function && sc.names.lookup n == some .cell) then (n, .cell) else (n, k) }

def cloFrom (cells : List (Str × Addr)) : List (Str × NameKind) → List (Str × Addr) → List (Str × Addr)
  | [], acc => acc
  | (n, k) :: r, acc => if k == .free then cloFrom cells r ((n, (cells.lookup n).getD 0) :: acc) else cloFrom cells r acc

theorem closure_loop (env : Env) (f : Str × NameKind → List (Str × Addr) → Sem (ForInStep (List (Str × Addr))))
    (hf : ∀ n k c, f (n, k) c = if k == .free then (do let a ← cellOf env n; pure (.yield ((n, a) :: c))) else pure (.yield c)) :
    ∀ (names : List (Str × NameKind)) (acc : List (Str × Addr)), (∀ y ∈ names, y.2 = .free → ∃ c, env.cells.lookup y.1 = some c) → forIn names acc f = pure (cloFrom env.cells names acc)
  | [], acc, _ => by rw [List.forIn_nil]; rfl
  | (n, k) :: r, acc, h => by
    rw [List.forIn_cons, hf]
    have ih := fun acc => closure_loop env f hf r acc fun y hy => h y (List.mem_cons_of_mem _ hy)
    unfold cloFrom
    by_cases hk : (k == NameKind.free) = true
    · rw [if_pos hk, if_pos hk]
      obtain ⟨c, hc⟩ := h (n, k) List.mem_cons_self (by simpa using hk)
      have e : cellOf env n = pure c := by unfold cellOf; rw [hc]
      rw [e]
      have e2 : (env.cells.lookup n).getD 0 = c := by rw [hc]; rfl
      rw [e2]
      exact ih _
    · rw [if_neg hk, if_neg hk]
      exact ih _
theorem closure_ok {scope : Scope} {env : Env} (h : ∀ y ∈ scope.names, y.2 = .free → ∃ c, env.cells.lookup y.1 = some c) : closureFor scope env = pure (cloFrom env.cells scope.names []) := by
  simp only [closureFor]
  rw [closure_loop env _ (fun n k c => rfl) scope.names [] h]
  rfl

theorem mem_lookup {α : Type} : ∀ {l : List (Str × α)} {n : Str} {c : α}, (n, c) ∈ l → ∃ c', l.lookup n = some c'
  | (k, v) :: r, n, c, h => by
    rw [List.lookup_cons]
    cases hb : n == k with
    | true => exact ⟨_, rfl⟩
    | false =>
      rcases List.mem_cons.mp h with e | h
      · cases e; simp at hb
      · exact mem_lookup h

theorem cloFrom_mem {cells : List (Str × Addr)} : ∀ {names : List (Str × NameKind)} {acc : List (Str × Addr)} {n : Str} {c : Addr}, (n, c) ∈ cloFrom cells names acc → (n, c) ∈ acc ∨ ((n, .free) ∈ names ∧ c = (cells.lookup n).getD 0)
  | [], _, _, _, h => .inl h
  | (m, k) :: r, acc, n, c, h => by
    unfold cloFrom at h
    split at h
    · rename_i hk
      have hk : k = .free := by simpa using hk
      rcases cloFrom_mem h with h | ⟨h1, h2⟩
      · rcases List.mem_cons.mp h with e | h
        · cases e; exact .inr ⟨hk ▸ List.mem_cons_self, rfl⟩
        · exact .inl h
      · exact .inr ⟨List.mem_cons_of_mem _ h1, h2⟩
    · rcases cloFrom_mem h with h | ⟨h1, h2⟩
      · exact .inl h
      · exact .inr ⟨List.mem_cons_of_mem _ h1, h2⟩
theorem cloFrom_acc {cells : List (Str × Addr)} : ∀ {names : List (Str × NameKind)} {acc : List (Str × Addr)} {p : Str × Addr}, p ∈ acc → p ∈ cloFrom cells names acc
  | [], _, _, h => h
  | (m, k) :: r, acc, p, h => by
    unfold cloFrom
    split
    · exact cloFrom_acc (List.mem_cons_of_mem _ h)
    · exact cloFrom_acc h
theorem cloFrom_has {cells : List (Str × Addr)} : ∀ {names : List (Str × NameKind)} {acc : List (Str × Addr)} {n : Str}, (n, .free) ∈ names → (n, (cells.lookup n).getD 0) ∈ cloFrom cells names acc
  | (m, k) :: r, acc, n, h => by
    unfold cloFrom
    rcases List.mem_cons.mp h with e | h
    · cases e
      exact cloFrom_acc List.mem_cons_self
    · split
      · exact cloFrom_has h
      · exact cloFrom_has h

theorem cells_mem : ∀ {names : List (Str × NameKind)} {h : Heap} {acc : List (Str × Addr)} {x : Str} {c : Addr}, (x, c) ∈ cellsFrom h.objs.size names acc →
    (x, c) ∈ acc ∨ ((x, .cell) ∈ names ∧ h.objs.size ≤ c ∧ CellAt (pushCells h names) c none)
  | [], _, _, _, _, h => .inl h
  | (n, k) :: r, h, acc, x, c, hm => by
    unfold cellsFrom at hm
    unfold pushCells
    split at hm
    · rename_i hk
      rw [if_pos hk]
      have hk : k = .cell := by simpa using hk
      rw [← Heap.size_push h { cls := .type "cell", data := .cell none }] at hm
      rcases cells_mem hm with hm | ⟨h1, h2, h3⟩
      · rcases List.mem_cons.mp hm with e | hm
        · cases e
          exact .inr ⟨hk ▸ List.mem_cons_self, Nat.le_refl _, _, pushCells_keeps r _ _ _ (Heap.get?_push_size _ rfl), rfl⟩
        · exact .inl hm
      · rw [Heap.size_push] at h2
        exact .inr ⟨List.mem_cons_of_mem _ h1, Nat.le_of_succ_le h2, h3⟩
    · rename_i hk
      rw [if_neg hk]
      rcases cells_mem hm with hm | ⟨h1, h2, h3⟩
      · exact .inl hm
      · exact .inr ⟨List.mem_cons_of_mem _ h1, h2, h3⟩
theorem cells_acc : ∀ {names : List (Str × NameKind)} {n : Nat} {acc : List (Str × Addr)} {p : Str × Addr}, p ∈ acc → p ∈ cellsFrom n names acc
  | [], _, _, _, h => h
  | (m, k) :: r, n, acc, p, h => by
    unfold cellsFrom
    split
    · exact cells_acc (List.mem_cons_of_mem _ h)
    · exact cells_acc h
theorem cells_has : ∀ {names : List (Str × NameKind)} {n : Nat} {acc : List (Str × Addr)} {x : Str}, (x, .cell) ∈ names → ∃ c, (x, c) ∈ cellsFrom n names acc
  | (m, k) :: r, n, acc, x, h => by
    unfold cellsFrom
    rcases List.mem_cons.mp h with e | h
    · cases e
      exact ⟨n, cells_acc List.mem_cons_self⟩
    · split
      · exact cells_has h
      · exact cells_has h
theorem cells_inj : ∀ {names : List (Str × NameKind)} {h : Heap} {acc : List (Str × Addr)} {x y : Str} {c : Addr}, (∀ p ∈ acc, p.2 < h.objs.size) → (∀ x y c, (x, c) ∈ acc → (y, c) ∈ acc → x = y) →
    (x, c) ∈ cellsFrom h.objs.size names acc → (y, c) ∈ cellsFrom h.objs.size names acc → x = y
  | [], _, _, _, _, _, _, hi, h1, h2 => hi _ _ _ h1 h2
  | (n, k) :: r, h, acc, x, y, c, hl, hi, h1, h2 => by
    unfold cellsFrom at h1 h2
    split at h1
    · rename_i hk
      rw [if_pos hk] at h2
      rw [← Heap.size_push h { cls := .type "cell", data := .cell none }] at h1 h2
      refine cells_inj (h := h.push _) (fun p hp => ?_) (fun x y c a b => ?_) h1 h2
      · rw [Heap.size_push]
        rcases List.mem_cons.mp hp with rfl | hp
        · exact Nat.lt_succ_self _
        · exact Nat.lt_succ_of_lt (hl p hp)
      · rcases List.mem_cons.mp a with e | a <;> rcases List.mem_cons.mp b with e' | b
        · cases e; cases e'; rfl
        · cases e; exact absurd (hl _ b) (Nat.lt_irrefl _)
        · cases e'; exact absurd (hl _ a) (Nat.lt_irrefl _)
        · exact hi _ _ _ a b
    · rename_i hk
      rw [if_neg hk] at h2
      exact cells_inj hl hi h1 h2

theorem newEnv_comp {M : Model} {A : Around} {E : Value → Shared → Prop} {s : Shared} {scope : Scope} {globals : Addr} {closure : List (Str × Addr)} {qual : Str} {func : Option Addr} {code : Value} {around : Env} {builtins : Addr} {Q : Env → Shared → Prop}
    (h : Q (newEnv scope s.heap.objs.size globals (cellsFrom (s.heap.objs.size + 1) scope.names closure) qual func code (some around) builtins)
      { s with heap := pushCells (s.heap.push { cls := .type "dict", data := .dict #[] }) scope.names }) :
    wpAny M A (newFunctionEnv scope globals closure [] qual func code (some around) builtins) Q E s := by
  simp only [newFunctionEnv, Option.isSome_some, if_true]
  refine wpAny_bind (wpAny_alloc ?_)
  refine wpAny_bind (wpAny_layCells _ (fun n k c => rfl) scope.names closure _ _ ?_)
  rw [show ({ s with heap := s.heap.push { cls := .type "dict", data := .dict #[] } } : Shared).heap.objs.size = s.heap.objs.size + 1 from Heap.size_push ..]
  rw [List.forIn_nil]
  exact wpAny_bind (wpAny_pure (wpAny_pure h))

theorem lookup_relS {sc : Scope} : ∀ {names : List (Str × NameKind)} {x : Str} {k : NameKind},
    (names.map fun (n, k) => if (k == NameKind.free && sc.kind == .function && sc.names.lookup n == some .cell) then (n, NameKind.cell) else (n, k)).lookup x = some k →
    ∃ k', names.lookup x = some k' ∧ (k = k' ∨ (k' = .free ∧ k = .cell))
  | [], _, _, h => by simp at h
  | (n, k₀) :: r, x, k, h => by
    have ih := @lookup_relS sc r x k
    have h' : List.lookup x ((if (k₀ == NameKind.free && sc.kind == .function && sc.names.lookup n == some .cell) = true then (n, NameKind.cell) else (n, k₀)) :: (r.map _)) = some k := h
    cases hx : x == n with
    | true =>
      simp only [List.lookup_cons, hx]
      by_cases hc : (k₀ == NameKind.free && sc.kind == .function && sc.names.lookup n == some .cell) = true
      · rw [if_pos hc] at h'
        simp only [List.lookup_cons, hx] at h'
        cases h'
        simp only [Bool.and_eq_true, beq_iff_eq] at hc
        exact ⟨k₀, rfl, .inr ⟨hc.1.1, rfl⟩⟩
      · rw [if_neg hc] at h'
        simp only [List.lookup_cons, hx] at h'
        cases h'
        exact ⟨_, rfl, .inl rfl⟩
    | false =>
      simp only [List.lookup_cons, hx]
      by_cases hc : (k₀ == NameKind.free && sc.kind == .function && sc.names.lookup n == some .cell) = true
      · rw [if_pos hc] at h'
        simp only [List.lookup_cons, hx] at h'
        exact ih h'
      · rw [if_neg hc] at h'
        simp only [List.lookup_cons, hx] at h'
        exact ih h'
structure BlkOk (N : List Str) (sc scope : Scope) (own : List (Str × Nat)) : Prop where
  kind : scope.kind = .function
  uniq : ∀ y ∈ scope.names, scope.names.lookup y.1 = some y.2
  ix : ∀ p ∈ own, N[p.2]? = some p.1
  free : ∀ y ∈ scope.names, y.2 = .free → sc.names.lookup y.1 = some .cell ∨ sc.names.lookup y.1 = some .free
  own : ∀ y ∈ scope.names, y.2 = .local ∨ y.2 = .cell → y.1 ∈ own.map (·.1) ∨ y.1 ∉ N
def wipe (σ : St) : List Nat → St
  | [] => σ
  | v :: vs => (wipe σ vs).set v none
theorem wipe_length (σ : St) : ∀ vs : List Nat, (wipe σ vs).length = σ.length
  | [] => rfl
  | v :: vs => by unfold wipe; rw [List.length_set, wipe_length σ vs]
theorem wipe_some {σ : St} {i : Nat} {x : V} : ∀ {vs : List Nat}, (wipe σ vs)[i]? = some (some x) → σ[i]? = some (some x) ∧ i ∉ vs
  | [], h => ⟨h, by simp⟩
  | v :: vs, h => by
    unfold wipe at h
    by_cases hi : v = i
    · subst hi
      by_cases hv : v < (wipe σ vs).length
      · rw [List.getElem?_set_self hv] at h; cases h
      · rw [List.getElem?_eq_none (by simpa using hv)] at h; cases h
    · rw [List.getElem?_set_ne hi] at h
      obtain ⟨h1, h2⟩ := wipe_some h
      exact ⟨h1, by simp only [List.mem_cons, not_or]; exact ⟨fun e => hi e.symm, h2⟩⟩

abbrev Cx.blk (X : Cx) (s : Shared) (H : Hp) (scope : Scope) (cenv : Env) (fp : List Addr) : Cx := { X with s_0 := s, H_0 := H, env := cenv, outer := X.stack, ex := fp, fn := fun x => scope.names.lookup x == some .cell, pn := [], xe := fun _ _ => False }
section
variable {X : Cx} {pins : List (Addr × Obj)} {σ : St} {H : Hp} {s : Shared}
theorem block_start {scope : Scope} {own : List (Str × Nat)} {fp : List Addr} (I : Inv X pins σ H s) (ok : BlkOk X.N X.env.scope scope own) (hN : X.N.Nodup) (hfp : ∀ b ∈ fp, FpOk X pins H b ∧ b < s.heap.objs.size) :
    Inv (X.blk s H scope (compEnvC scope (cellsFrom (s.heap.objs.size + 1) scope.names (cloFrom X.env.cells scope.names [])) s.heap.objs.size X.env) fp) [] (wipe σ (own.map (·.2))) H { s with heap := pushCells (s.heap.push { cls := .type "dict", data := .dict #[] }) scope.names } := by
  have hfree : ∀ y ∈ scope.names, y.2 = .free → ∃ c, X.env.cells.lookup y.1 = some c := fun y hy e => by
    rcases ok.free y hy e with k | k
    · exact I.ok.has _ (.inl k)
    · exact I.ok.has _ (.inr k)
  generalize hcenv : compEnvC scope (cellsFrom (s.heap.objs.size + 1) scope.names (cloFrom X.env.cells scope.names [])) s.heap.objs.size X.env = cenv
  have kp : ∀ b o, s.heap.get? b = some o → (pushCells (s.heap.push { cls := .type "dict", data := .dict #[] }) scope.names).get? b = some o := fun b o e => pushCells_keeps _ _ _ _ (Heap.get?_push_of_some _ e)
  have hL : cenv.locals = s.heap.objs.size := by rw [← hcenv]; rfl
  have hcl : cenv.cells = cellsFrom (s.heap.objs.size + 1) scope.names (cloFrom X.env.cells scope.names []) := by rw [← hcenv]; rfl
  have hsc : cenv.scope = relS scope X.env.scope := by rw [← hcenv]; rfl
  rw [← Heap.size_push s.heap { cls := .type "dict", data := .dict #[] }] at hcl
  have cm : ∀ {y c}, (y, c) ∈ cloFrom X.env.cells scope.names [] → X.env.cells.lookup y = some c ∧ c < s.heap.objs.size := fun {y c} hm => by
    rcases cloFrom_mem hm with hm | ⟨h1, rfl⟩
    · cases hm
    · obtain ⟨c, hc⟩ := hfree _ h1 rfl
      rw [hc]
      obtain ⟨w, z⟩ := I.cell _ _ hc
      exact ⟨rfl, z.lt⟩
  have mem : ∀ {y c}, cenv.cells.lookup y = some c → (X.env.cells.lookup y = some c ∧ c < s.heap.objs.size) ∨ (s.heap.objs.size + 1 ≤ c ∧ CellAt (pushCells (s.heap.push { cls := .type "dict", data := .dict #[] }) scope.names) c none) := fun {y c} e => by
    rw [hcl] at e
    rcases cells_mem (PySem.mem_of_lookup e) with hm | ⟨_, h2, h3⟩
    · exact .inl (cm hm)
    · rw [Heap.size_push] at h2; exact .inr ⟨h2, h3⟩
  have look : ∀ {y}, scope.names.lookup y = some .free → ∃ c, cenv.cells.lookup y = some c ∧ X.env.cells.lookup y = some c := fun {y} hl => by
    have hy : (y, NameKind.free) ∈ scope.names := PySem.mem_of_lookup hl
    obtain ⟨c', e'⟩ := mem_lookup (cells_acc (names := scope.names) (n := (s.heap.push { cls := .type "dict", data := .dict #[] }).objs.size) (cloFrom_has (cells := X.env.cells) (acc := []) hy))
    rw [← hcl] at e'
    refine ⟨c', e', ?_⟩
    rw [hcl] at e'
    rcases cells_mem (PySem.mem_of_lookup e') with hm | ⟨h1, _, _⟩
    · exact (cm hm).1
    · have := ok.uniq _ h1
      rw [hl] at this; cases this
  have okB : (X.blk s H scope cenv fp).Ok := by
    refine ⟨I.ok.mod, by show cenv.scope.kind = _; rw [hsc]; exact ok.kind, by show cenv.globals = _; rw [← hcenv]; exact I.ok.glob, by show cenv.builtins = _; rw [← hcenv]; exact I.ok.blt, by show s.heap.objs.size ≤ cenv.locals; rw [hL]; exact Nat.le_refl _,
      fun y z c e1 e2 => ?_, fun y hy => ?_, fun y c z e => ?_, I.ok.hd, I.ok.frames, .inl rfl, fun b hb => ⟨?_, fun y c e z => ?_⟩, I.bs, Nat.le_trans I.ok.bsz I.sz, fun b o e hb => ?_, fun b hb z => ?_, I.stack, I.stkFree⟩
    · have e1 : cenv.cells.lookup y = some c := e1
      have e2 : cenv.cells.lookup z = some c := e2
      rw [hcl] at e1 e2
      refine cells_inj (fun p hp => ?_) (fun y z c a b => I.ok.inj y z c (cm a).1 (cm b).1) (PySem.mem_of_lookup e1) (PySem.mem_of_lookup e2)
      rw [Heap.size_push]
      exact Nat.lt_succ_of_lt (cm (y := p.1) (c := p.2) hp).2
    · show ∃ c, cenv.cells.lookup y = some c
      have key : ∀ k, cenv.kindOf y = some k → (k = .cell ∨ k = .free) → ∃ c, cenv.cells.lookup y = some c := fun k hk hk' => by
        unfold Env.kindOf at hk
        rw [hsc] at hk
        obtain ⟨k', e, r⟩ := lookup_relS hk
        have : k' = .cell ∨ k' = .free := by
          rcases r with rfl | ⟨rfl, _⟩
          · exact hk'
          · exact .inr rfl
        rcases this with rfl | rfl
        · obtain ⟨c, hm⟩ := cells_has (n := (s.heap.push { cls := .type "dict", data := .dict #[] }).objs.size) (acc := cloFrom X.env.cells scope.names []) (PySem.mem_of_lookup e)
          obtain ⟨c', e'⟩ := mem_lookup hm
          exact ⟨c', by rw [hcl]; exact e'⟩
        · obtain ⟨c, h1, _⟩ := look e
          exact ⟨c, h1⟩
      rcases hy with hy | hy
      · exact key _ hy (.inl rfl)
      · exact key _ hy (.inr rfl)
    · have z : (scope.names.lookup y == some NameKind.cell) = true := z
      have z : scope.names.lookup y = some .cell := by simpa using z
      have e : cenv.cells.lookup y = some c := e
      rw [hcl] at e
      rcases cells_mem (PySem.mem_of_lookup e) with hm | ⟨_, h2, _⟩
      · rcases cloFrom_mem hm with hm | ⟨h1, _⟩
        · cases hm
        · have q := ok.uniq _ h1
          rw [z] at q; cases q
      · rw [Heap.size_push] at h2
        exact Nat.le_of_succ_le h2
    · show b ≠ cenv.locals
      rw [hL]; exact Nat.ne_of_lt (hfp b hb).2
    · have e : cenv.cells.lookup y = some c := e
      rcases mem e with ⟨h1, _⟩ | ⟨h1, _⟩
      · exact (hfp b hb).1.2.2.2.2.1 y c h1 z
      · have h2 : s.heap.objs.size + 1 ≤ b := by rw [← z]; exact h1
        exact absurd (Nat.lt_of_lt_of_le (hfp b hb).2 (Nat.le_of_succ_le h2)) (Nat.lt_irrefl _)
    · rcases (hfp b hb).1.2.2.2.1 with z | z
      · exact I.ok.noex b o e z
      · exact absurd (Nat.lt_of_lt_of_le (Heap.lt_size e) (Nat.le_trans I.ok.bsz z)) (Nat.lt_irrefl _)
    · rcases List.mem_cons.mp (I.stkSub b z) with z | z
      · exact (hfp b hb).1.2.1 z
      · exact (hfp b hb).1.2.2.1 z
  refine ⟨okB, rfl, I.bare, Un.kept kp, ⟨fun _ => none, ?_, fun i y av e1 e2 e3 => ?_⟩, fun y c e => ?_, ?_, fun y c e => ?_, fun p hp => ?_, I.hok.kept kp, by rw [wipe_length]; exact I.len⟩
  · show Heap.Ns _ cenv.locals _
    rw [hL]
    exact Heap.Ns.keeps (Heap.Ns.new ..) fun b o e => pushCells_keeps _ _ _ _ e
  · obtain ⟨e2, hne⟩ := wipe_some e2
    have hfr : scope.names.lookup y = some .free ∧ (cenv.kindOf y = some .cell ∨ cenv.kindOf y = some .free) := by
      have key : ∀ k, cenv.scope.names.lookup y = some k → k = .local ∨ k = .cell ∨ k = .free → scope.names.lookup y = some .free ∧ (cenv.kindOf y = some .cell ∨ cenv.kindOf y = some .free) := fun k hk hk' => by
        have hk0 := hk
        rw [hsc] at hk
        obtain ⟨k', e, r⟩ := lookup_relS hk
        have no : ¬ (k' = .local ∨ k' = .cell) := fun hh => by
          rcases ok.own _ (PySem.mem_of_lookup e) hh with e' | e'
          · obtain ⟨p, hp, hpy⟩ := List.mem_map.mp e'
            have e3 := ok.ix p hp
            have : p.1 = y := hpy
            rw [this] at e3
            exact hne (List.mem_map.mpr ⟨p, hp, nodup_ix hN e3 e1⟩)
          · exact e' (List.mem_of_getElem? e1)
        rcases r with rfl | ⟨rfl, rfl⟩
        · rcases hk' with rfl | rfl | rfl
          · exact absurd (.inl rfl) no
          · exact absurd (.inr rfl) no
          · exact ⟨e, .inr hk0⟩
        · exact ⟨e, .inl hk0⟩
      have e3 : Vis cenv.scope y := e3
      rcases e3 with e3 | e3 | e3
      · exact key _ e3 (.inl rfl)
      · exact key _ e3 (.inr (.inl rfl))
      · exact key _ e3 (.inr (.inr rfl))
    obtain ⟨m, hn, hl⟩ := I.loc
    have hvis : Vis X.env.scope y := (ok.free _ (PySem.mem_of_lookup hfr.1) rfl).elim (fun k => .inr (.inl k)) (fun k => .inr (.inr k))
    obtain ⟨w, r, q⟩ := hl i y av e1 e2 hvis
    refine ⟨w, r, .inr ⟨hfr.2, ?_⟩⟩
    obtain ⟨c, h1, h2⟩ := look hfr.1
    rcases q with ⟨k, _⟩ | ⟨_, c', e', z⟩
    · have k : X.env.scope.names.lookup y = some .local := k
      rcases ok.free _ (PySem.mem_of_lookup hfr.1) rfl with k' | k' <;> rw [show X.env.scope.names.lookup y = _ from k'] at k <;> cases k
    · rw [h2] at e'; cases e'
      exact ⟨c, h1, z.keeps kp⟩
  · have e : cenv.cells.lookup y = some c := e
    rcases mem e with ⟨h1, _⟩ | ⟨_, z⟩
    · obtain ⟨w, z⟩ := I.cell y c h1
      exact ⟨w, z.keeps kp⟩
    · exact ⟨_, z⟩
  · show H cenv.locals = none
    rw [hL]; exact I.hok.fresh (Nat.le_refl _)
  · have e : cenv.cells.lookup y = some c := e
    rcases mem e with ⟨h1, _⟩ | ⟨h1, _⟩
    · exact I.freeC y c h1
    · exact I.hok.fresh (Nat.le_of_succ_le h1)
  · exact absurd (show p ∈ ([] : List (Addr × Obj)) ++ [] from hp) (by simp)

theorem app_ok {E : Value → Shared → Prop} {D : Addr} {xs : List V} {y : V} {v : Value} {Q : Value → Shared → Prop} (I : Inv X pins σ H s) (hD : H D = some (.lst xs)) (hz : xs.length < sizeLine) (r : RelV y v)
    (h : ∀ s', Inv X pins σ (upd H D (.lst (xs ++ [y]))) s' → Q .none s') : wpAny (model X.prog X.w) X.A (call (.builtin "list.append") [.ref D, v]) Q E s := by
  obtain ⟨hz', its, n, ri, e⟩ := I.hok D _ hD
  have hl := ri.length
  refine append_at (hsz := by rw [List.size_toArray]; omega) e fun h' sb ho' => ?_
  refine h { s with heap := h' } (I.write (t' := s.toks) (by rw [hD]; trivial) (.inl rfl) (fun b u hb q => (sb.2 b hb).trans q) ⟨_, ho'⟩ ⟨by rw [List.length_append]; exact hz, its ++ [v], n + 1, ri.append (.cons r .nil), ?_⟩)
  rw [ho']
  simp

def PTs (X : Cx) (ifs : List Expr) (t : TT) : Prop :=
  ∀ (pins : List (Addr × Obj)) (s : Shared) (σ : St) (H : Hp) (Q : Bool → Hp → Prop), Inv X pins σ H s → t σ H Q →
    wpAny (model X.prog X.w) X.A (forIn ifs true fun c r => if r = true then do let ok ← isTrue c X.env (eval c X.env); pure (ForInStep.yield ok) else pure (ForInStep.yield r)) (TP X pins σ Q) X.xe s
def tYes : TT := fun _ H Q => Q true H
theorem pts_nil : PTs X [] tYes := fun _ _ _ H _ I h => wpAny_tests_nil ⟨H, I, h⟩
theorem pts_one {c : Expr} {t : TT} (h : PT X c t) : PTs X [c] t := fun pins s σ H Q I hw => wpAny_tests_one (h pins s σ H Q I hw)
end

theorem thnF {α : Type} {t : Sem α} {Q Q' : α → Shared → Prop} {M : Model} {A : Around} {E : Value → Shared → Prop} {s : Shared} (h : wpAny M A t Q (fun _ _ => False) s) (hQ : ∀ a s, Q a s → Q' a s) : wpAny M A t Q' E s := wpAny_mono h hQ fun _ _ z => False.elim z

theorem compLoop_any {prog : Program} {w : World} {A : Around} {R : Result → Shared → Prop} {s : Shared} {elt target iter : Expr} {ifs : List Expr} {scope : Scope} {pos : Pos} {it acc : Value} {env : Env} (I : Nat → Shared → Prop)
    (turn : ∀ n s, I n s → wpAny (model prog w) A (pyNext it) (fun r s₁ => match r with
      | none => R (.ok .next) s₁
      | some v => wpAny (model prog w) A (letOwnedTupleGo target it v) (fun _ s₁' => wpAny (model prog w) A (assign target env v) (fun _ s₂ =>
          wpAny (model prog w) A (forIn ifs true fun c r => if r = true then do let ok ← isTrue c env (eval c env); pure (ForInStep.yield ok) else pure (ForInStep.yield r)) (fun ok s₃ =>
            if ok = true then wpAny (model prog w) A (eval elt env) (fun x s₄ =>
              wpAny (model prog w) A (call (.builtin "list.append") [acc, x]) (fun _ s₅ => ∃ m, m < n ∧ I m s₅) (notedBy (model prog w) A env fun e s' => R (.error e) s') s₄) (notedBy (model prog w) A env fun e s' => R (.error e) s') s₃
            else ∃ m, m < n ∧ I m s₃) (notedBy (model prog w) A env fun e s' => R (.error e) s') s₂) (notedBy (model prog w) A env fun e s' => R (.error e) s') s₁') (notedBy (model prog w) A env fun e s' => R (.error e) s') s₁) (notedBy (model prog w) A env fun e s' => R (.error e) s') s)
    (n : Nat) (h : I n s) :
    codeAny (model prog w) A (.compLoop (.ListComp elt [⟨target, iter, ifs, 0⟩] scope pos) 0 it acc env) R s := by
  refine codeAny_loop rfl I (fun n s hI => ?_) n h
  show wpAny _ A ((compTurn (.ListComp elt [⟨target, iter, ifs, 0⟩] scope pos) 0 it acc env).onRaise (fun x => do noteFrame x env; theTreesLotGoes x)) _ _ s
  refine wpAny_noted ?_
  rw [compTurn_list]
  refine wpAny_bind (wpAny_standAt (wpAny_bind (wpAny_mono (turn n s hI) (fun r s₁ h₁ => ?_) fun _ _ h' => h')))
  cases r with
  | none => exact wpAny_pure h₁
  | some v =>
    refine wpAny_bind (wpAny_mono h₁ (fun _ s₁' h₁' => ?_) fun _ _ h' => h')
    refine wpAny_bind (wpAny_mono h₁' (fun _ s₂ h₂ => wpAny_bind (wpAny_mono h₂ (fun ok s₃ h₃ => ?_) fun _ _ h' => h')) fun _ _ h' => h')
    cases ok with
    | false => exact wpAny_pure ⟨rfl, h₃⟩
    | true =>
      exact wpAny_bind (wpAny_bind (wpAny_mono h₃ (fun x s₄ h₄ => wpAny_bind (wpAny_mono h₄ (fun _ s₅ h₅ => wpAny_pure (wpAny_pure ⟨rfl, h₅⟩)) fun _ _ h' => h')) fun _ _ h' => h'))

section
variable {X : Cx}
def tLc (wi : TI) (g : TG) (tt : TT) (te : TE) (vs : List Nat) : TE := fun σ H Q => wi σ H fun J H1 => ∀ D, H1 D = none → ∃ W : Nat → Nat → Hp → Prop, (∃ m, W 0 m (upd H1 D (.lst []))) ∧ ∀ i m H, W i m H →
  (J.stop i H ∧ Q (.ref D) H) ∨ (J.go i H ∧ ∃ Nx : Hp → Prop, (∀ H', Nx H' → ∃ m', m' < m ∧ W (i + 1) m' H') ∧ ∀ x H', J.yld i H x H' → g x (wipe σ vs) H' fun σ2 H2 => wipe σ2 vs = wipe σ vs ∧ tt σ2 H2 fun b H3 =>
    if b = true then te σ2 H3 fun y H4 => ∃ acc, H4 D = some (.lst acc) ∧ acc.length < sizeLine ∧ Nx (upd H4 D (.lst (acc ++ [y]))) else Nx H3)
theorem lc_core {pins : List (Addr × Obj)} {s : Shared} {σ : St} {H : Hp} {Q : VK} {elt tg iter : Expr} {ifs : List Expr} {scope : Scope} {own : List (Str × Nat)} {pos pos' : Pos} {wi : TI} {g : TG} {tt : TT} {te : TE} {use : Option (Value → Sem Unit)} {Qf : Value → Shared → Prop}
    (hc : X.calm = true) (hN : X.N.Nodup) (I : Inv X pins σ H s) (hi : PI X tg iter wi) (ok : BlkOk X.N X.env.scope scope own)
    (hg : ∀ (s : Shared) (H : Hp) (C : Addr) (cl : List (Str × Addr)) (fp : List Addr), PG (X.blk s H scope (compEnvC scope cl C X.env) fp) tg g) (ht : ∀ (s : Shared) (H : Hp) (C : Addr) (cl : List (Str × Addr)) (fp : List Addr), PTs (X.blk s H scope (compEnvC scope cl C X.env) fp) ifs tt)
    (he : ∀ (s : Shared) (H : Hp) (C : Addr) (cl : List (Str × Addr)) (fp : List Addr), PE (X.blk s H scope (compEnvC scope cl C X.env) fp) elt te) (hs : ∀ x, foldedSetIterable iter X.env x = pure x)
    (h : tLc wi g tt te (own.map (·.2)) σ H Q)
    (hRR : ∀ D C s' m H', Inv X pins σ H' s' → Q (.ref D) H' → s'.heap.Ns C m → FpOk X pins H' C → compPost (model X.prog X.w) X.A X.xe use Qf (.ref D) C (.ok .next) s') :
    wpAny (model X.prog X.w) X.A (comprehension (.ListComp elt [⟨tg, iter, ifs, 0⟩] scope pos) scope X.env pos' (newList []) false (eval iter X.env) use) Qf X.xe s := by
  have hfree : ∀ y ∈ scope.names, y.2 = .free → ∃ c, X.env.cells.lookup y.1 = some c := fun y hy e => by
    rcases ok.free y hy e with k | k
    · exact I.ok.has _ (.inl k)
    · exact I.ok.has _ (.inr k)
  refine wpAny_comprehension_free (use := use) rfl hs (closure_ok hfree) ok.kind (fun y hy e => by rw [ok.uniq y hy, e])
    (thn (hi pins s σ H _ I h) fun xv s1 hx => thn hx fun itv s2 h2 => ?_)
  obtain ⟨it, fp, tn, J, H2, e, I2, T, st2, f2, q⟩ := h2
  subst e
  refine wpAny_newObj_type (newEnv_comp ?_) (by show 0 ≤ sizeLine; decide)
  generalize hD : s2.heap.objs.size = D
  have hDn : H2 D = none := I2.hok.fresh (Nat.le_of_eq hD)
  obtain ⟨W, ⟨m0, w0⟩, turn⟩ := q D hDn
  -- the new list
  generalize hs3 : ({ s2 with heap := s2.heap.push { cls := .type "list", data := .seq ([] : List Value).toArray } } : Shared) = s3
  have I3 : Inv X pins σ (upd H2 D (.lst [])) s3 := by
    rw [← hs3]
    refine I2.laid (t' := s2.toks) (fun b o e => Heap.get?_push_of_some _ e) (Nat.le_of_eq hD) ⟨Nat.zero_le _, [], 0, .nil, ?_⟩
    rw [← hD]
    exact Heap.get?_push_size _ rfl
  have h3 : s3.heap = s2.heap.push { cls := .type "list", data := .seq ([] : List Value).toArray } := by rw [← hs3]
  have sz : ∀ b ∈ fp, b < s2.heap.objs.size := fun b hb => by
    obtain ⟨o, e, _⟩ := T.obj _ _ st2 b hb
    exact Heap.lt_size e
  have f3 : ∀ b ∈ fp, FpOk X pins (upd H2 D (.lst [])) b ∧ b < s3.heap.objs.size := fun b hb => by
    have hlt := sz b hb
    refine ⟨⟨?_, (f2 b hb).2⟩, by rw [h3, Heap.size_push]; exact Nat.lt_succ_of_lt hlt⟩
    rw [upd_ne (by rw [← hD]; exact Nat.ne_of_lt hlt)]
    exact (f2 b hb).1
  have st3 : tn 0 s3.heap := T.keep _ _ _ st2 fun b _ o e => by rw [h3]; exact Heap.get?_push_of_some _ e
  have I4 := block_start I3 ok hN f3
  have pg := hg s3 (upd H2 D (.lst [])) s3.heap.objs.size (cellsFrom (s3.heap.objs.size + 1) scope.names (cloFrom X.env.cells scope.names [])) fp
  have pt := ht s3 (upd H2 D (.lst [])) s3.heap.objs.size (cellsFrom (s3.heap.objs.size + 1) scope.names (cloFrom X.env.cells scope.names [])) fp
  have pe := he s3 (upd H2 D (.lst [])) s3.heap.objs.size (cellsFrom (s3.heap.objs.size + 1) scope.names (cloFrom X.env.cells scope.names [])) fp
  show codeAny _ _ (.compStart (.ListComp elt [⟨tg, iter, ifs, 0⟩] scope pos) 0 (.ref it) (.ref D) (compEnvC scope (cellsFrom (s3.heap.objs.size + 1) scope.names (cloFrom X.env.cells scope.names [])) s3.heap.objs.size X.env)) (compPost (model X.prog X.w) X.A X.xe use Qf (.ref D) s3.heap.objs.size) { s3 with heap := pushCells (s3.heap.push { cls := .type "dict", data := .dict #[] }) scope.names }
  have nfp : ∀ b ∈ fp, (upd H2 D (.lst [])) b = none := fun b hb => (f3 b hb).1.1
  generalize hce : compEnvC scope (cellsFrom (s3.heap.objs.size + 1) scope.names (cloFrom X.env.cells scope.names [])) s3.heap.objs.size X.env = ce at I4 pg pt pe ⊢
  have cL : ce.locals = s3.heap.objs.size := by subst hce; rfl
  generalize hH3 : upd H2 D (.lst []) = H3 at I3 I4 pg pt pe w0 nfp f3
  generalize hs4 : ({ s3 with heap := pushCells (s3.heap.push { cls := .type "dict", data := .dict #[] }) scope.names } : Shared) = s4 at I4 ⊢
  have st4 : tn 0 s4.heap := T.keep _ _ _ st3 fun b _ o e => by rw [← hs4]; exact pushCells_keeps _ _ _ _ (Heap.get?_push_of_some _ e)
  have stat : ∀ {σ' : St} {H' : Hp} {s' : Shared}, Inv (X.blk s3 H3 scope ce fp) [] σ' H' s' → (∀ b ∈ fp, H' b = none) → ∀ b ∈ fp, FpOk (X.blk s3 H3 scope ce fp) [] H' b := fun {σ' H' s'} I' hn b hb =>
    ⟨hn b hb, (I'.ok.exf b hb).1, I'.ok.exfs b hb, .inl hb, fun x c e => (I'.ok.exf b hb).2 x c e, fun p hp => absurd (show p ∈ ([] : List (Addr × Obj)) ++ [] from hp) (by simp)⟩
  have loop : codeAny (model X.prog X.w) X.A (.compLoop (.ListComp elt [⟨tg, iter, ifs, 0⟩] scope pos) 0 (.ref it) (.ref D) ce) (compPost (model X.prog X.w) X.A X.xe use Qf (.ref D) s3.heap.objs.size) s4 := by
    refine compLoop_any (fun n s' => ∃ i H', Inv (X.blk s3 H3 scope ce fp) [] (wipe σ (own.map (·.2))) H' s' ∧ tn i s'.heap ∧ (∀ b ∈ fp, H' b = none) ∧ W i n H') ?_ m0 ⟨0, H3, I4, st4, nfp, w0⟩
    rintro n s5 ⟨i, H5, I5, st5, n5, w5⟩
    rcases turn i n H5 w5 with ⟨stop, qq⟩ | ⟨go, Nx, hNx, step⟩
    · have td := T.done (X.blk s3 H3 scope ce fp) rfl rfl rfl hc i [] s5 _ H5 (fun _ _ => False) I5 (stat I5 n5) st5 stop
      refine thnF td fun r s6 ⟨hr, I6⟩ => ?_
      subst hr
      -- back in the def's context
      have I7 : Inv X pins σ H5 s6 := I3.call' (ch := fp) I6.os I6.base I6.hok I6.bare fun b hb => ⟨(f3 b hb).1.2.2.2.1, (f3 b hb).1.2.1, (f3 b hb).1.2.2.2.2.1, (f3 b hb).1.2.2.2.2.2⟩
      have nC : H5 s3.heap.objs.size = none := by
        have z : H5 ce.locals = none := I6.free
        rw [cL] at z
        exact z
      obtain ⟨m, hn, _⟩ := I6.loc
      have hn : s6.heap.Ns ce.locals m := hn
      rw [cL] at hn
      exact hRR D s3.heap.objs.size s6 m H5 I7 qq hn (I3.fpOk (Nat.le_refl _) nC)
    · have ti := T.item (X.blk s3 H3 scope ce fp) rfl rfl rfl hc i [] s5 _ H5 (fun _ _ => False) I5 (stat I5 n5) st5 go
      refine thnF ti fun r s6 ⟨u, hr, h6⟩ => ?_
      subst hr
      refine thnF h6 fun _ s7 ⟨x, H7, I7, r7, y7, st7, n7⟩ => ?_
      have I7' := I7.pinned (stat I7 n7) (T.obj _ _ st7)
      refine thnF (pg _ s7 _ H7 x u _ I7' r7 (step x H7 y7)) fun _ s8 ⟨σ8, H8, I8, hw8, q8⟩ => ?_
      refine thnF (pt _ s8 σ8 H8 _ I8 q8) fun b s9 ⟨H9, I9, q9⟩ => ?_
      -- the turn's end
      have fin : ∀ {s' : Shared} {H' : Hp}, Inv (X.blk s3 H3 scope ce fp) ([] ++ pinsAt fp s7.heap) σ8 H' s' → Nx H' → ∃ m, m < n ∧ ∃ i H', Inv (X.blk s3 H3 scope ce fp) [] (wipe σ (own.map (·.2))) H' s' ∧ tn i s'.heap ∧ (∀ b ∈ fp, H' b = none) ∧ W i m H' := fun {s' H'} I' nx => by
        obtain ⟨m', hm, w'⟩ := hNx H' nx
        have pin' : ∀ b ∈ fp, ∀ o, s7.heap.get? b = some o → s'.heap.get? b = some o ∧ H' b = none := fun b hb o e =>
          let z := I'.pin (b, o) (List.mem_append_right _ (List.mem_append_right _ (mem_pinsAt hb e)))
          ⟨z.1, z.2.1⟩
        have hl : (wipe σ (own.map (·.2))).length = σ8.length := by rw [← hw8, wipe_length]
        refine ⟨m', hm, i + 1, H', (I'.unpinned (pins := [])).weak hl (fun j v e => ?_), T.keep _ _ _ st7 fun b hb o e => (pin' b hb o e).1, fun b hb => ?_, w'⟩
        · rw [← hw8] at e
          exact (wipe_some e).1
        · obtain ⟨o, e, _⟩ := T.obj _ _ st7 b hb
          exact (pin' b hb o e).2
      cases b with
      | false =>
        simp only [Bool.false_eq_true, if_false] at q9 ⊢
        exact fin I9 q9
      | true =>
        simp only [if_true] at q9 ⊢
        refine thnF (pe _ s9 σ8 H9 _ I9 q9) fun z s10 ⟨yv, H10, I10, r10, acc, hD10, hz10, nx⟩ => ?_
        exact app_ok (X := X.blk s3 H3 scope ce fp) I10 hD10 hz10 r10 fun s11 I11 => fin I11 nx
  exact codeAny_compStart_list loop (T.self X.A 0 _ _ _ st4 loop)
theorem pe_lc {elt tg iter : Expr} {ifs : List Expr} {scope : Scope} {own : List (Str × Nat)} {pos : Pos} {wi : TI} {g : TG} {tt : TT} {te : TE} (hc : X.calm = true) (hN : X.N.Nodup) (hi : PI X tg iter wi) (ok : BlkOk X.N X.env.scope scope own)
    (hg : ∀ (s : Shared) (H : Hp) (C : Addr) (cl : List (Str × Addr)) (fp : List Addr), PG (X.blk s H scope (compEnvC scope cl C X.env) fp) tg g) (ht : ∀ (s : Shared) (H : Hp) (C : Addr) (cl : List (Str × Addr)) (fp : List Addr), PTs (X.blk s H scope (compEnvC scope cl C X.env) fp) ifs tt)
    (he : ∀ (s : Shared) (H : Hp) (C : Addr) (cl : List (Str × Addr)) (fp : List Addr), PE (X.blk s H scope (compEnvC scope cl C X.env) fp) elt te) (hs : ∀ x, foldedSetIterable iter X.env x = pure x := by intro _; rfl) :
    PE X (.ListComp elt [⟨tg, iter, ifs, 0⟩] scope pos) (tLc wi g tt te (own.map (·.2))) := by
  intro pins s σ H Q I h
  rw [eval_ListComp]
  refine lc_core hc hN I hi ok hg ht he hs h fun D C s' m H' I' q hn f => ⟨m, hn, fun h'' sb => ?_⟩
  obtain ⟨f0, f1, f2, f3, f4, f5⟩ := f
  exact ⟨.ref D, H', I'.turned (t' := s'.toks) (fun b o hb e => (sb.2 b hb).trans e) f0 f1 f3 f4 f5, rfl, q⟩
theorem ps_setLc {i : Nat} {y : Str} {py : Pos} {elt tg iter : Expr} {ifs : List Expr} {scope : Scope} {own : List (Str × Nat)} {pos spos : Pos} {wi : TI} {g : TG} {tt : TT} {te : TE} (hc : X.calm = true) (hN : X.N.Nodup) (hy : X.N[i]? = some y) (hyl : X.env.scope.names.lookup y = some .local)
    (hsw : swapsWith (.ListComp elt [⟨tg, iter, ifs, 0⟩] scope pos) (some (.Name y py)) spos.line X.env = pure true) (hi : PI X tg iter wi) (ok : BlkOk X.N X.env.scope scope own)
    (hg : ∀ (s : Shared) (H : Hp) (C : Addr) (cl : List (Str × Addr)) (fp : List Addr), PG (X.blk s H scope (compEnvC scope cl C X.env) fp) tg g) (ht : ∀ (s : Shared) (H : Hp) (C : Addr) (cl : List (Str × Addr)) (fp : List Addr), PTs (X.blk s H scope (compEnvC scope cl C X.env) fp) ifs tt)
    (he : ∀ (s : Shared) (H : Hp) (C : Addr) (cl : List (Str × Addr)) (fp : List Addr), PE (X.blk s H scope (compEnvC scope cl C X.env) fp) elt te) (hs : ∀ x, foldedSetIterable iter X.env x = pure x := by intro _; rfl) :
    PS X (.Assign [.Name y py] (.ListComp elt [⟨tg, iter, ifs, 0⟩] scope pos) spos) (tAsg (tLc wi g tt te (own.map (·.2))) (gName i)) := by
  intro pins s σ H D I h
  rw [exec_Assign_Name_used _ _ _ _ hsw]
  refine wpAny_bind (wpAny_standAt (wpAny_bind ?_))
  show wpAny _ X.A (do let _ ← comprehension (.ListComp elt [⟨tg, iter, ifs, 0⟩] scope pos) scope X.env (firstIterPos [⟨tg, iter, ifs, 0⟩] pos) (newList []) false (eval iter X.env) (some (assign (.Name y py) X.env))) _ _ s
  have h : tLc wi g tt te (own.map (·.2)) σ H (fun x H1 => gName i x σ H1 D.nx) := h
  refine wpAny_bind (thn (lc_core (Qf := fun _ s' => SP X pins D .next s') hc hN I hi ok hg ht he hs h fun L C s' m H' I' q hn f => ?_) fun _ s' hq => wpAny_pure (wpAny_pure hq))
  show wpAny _ _ (assign (.Name y py) X.env (.ref L)) _ _ _
  refine wpAny_assign_Name (store_ok2 (v := V.ref L) I' hN hy (.inl hyl) rfl (fun s2 I2 ⟨a, sb, ha⟩ => ?_) (.inr hyl))
  obtain ⟨f0, f1, f2, f3, f4, f5⟩ := f
  have haC : C ≠ a := by
    rcases ha with z | z
    · rw [z]; exact f1
    · exact fun e => f4 y a z e.symm
  refine ⟨m, hn.sameBut sb haC, fun h3 sb3 => ?_⟩
  exact ⟨_, H', I2.turned (t' := s2.toks) (fun b o hb e => (sb3.2 b hb).trans e) f0 f1 f3 f4 f5, q⟩
theorem sw_true {elt : Expr} {gs : List Comprehension} {scope : Scope} {pos py : Pos} {y : Str} {l : Nat} {env : Env} (hk : env.scope.kind = .function) (hy : env.scope.names.lookup y = some .local) (hl : (py.line == pos.line) = true)
    (ha : (scope.names.any fun (n, k) => n == y && (k == .local || k == .cell)) = false) : swapsWith (.ListComp elt gs scope pos) (some (.Name y py)) l env = pure true := by
  have ky : env.kindOf y = some .local := hy
  have hb : env.blockKind = .function := by unfold Env.blockKind; rw [hk]; rfl
  unfold swapsWith
  simp only [hb, ky, ha, Expr.pos, hl]
  rfl
end

theorem lc_range {lo : Int} {n : Nat} {g : TG} {tt : TT} {te : TE} {vs : List Nat} {σ : St} {H1 : Hp} {D : Addr} {Qd : Hp → Prop} (Pv : Nat → Hp → Prop) (h0 : Pv 0 (upd H1 D (.lst [])))
    (hs : ∀ i H, i < n → Pv i H → g (.int (lo + i)) (wipe σ vs) H fun σ2 H2 => wipe σ2 vs = wipe σ vs ∧ tt σ2 H2 fun b H3 =>
      if b = true then te σ2 H3 fun y H4 => ∃ acc, H4 D = some (.lst acc) ∧ acc.length < sizeLine ∧ Pv (i + 1) (upd H4 D (.lst (acc ++ [y]))) else Pv (i + 1) H3) (hd : ∀ H, Pv n H → Qd H) :
    ∃ W : Nat → Nat → Hp → Prop, (∃ m, W 0 m (upd H1 D (.lst []))) ∧ ∀ i m H, W i m H →
      ((Itr lo n).stop i H ∧ Qd H) ∨ ((Itr lo n).go i H ∧ ∃ Nx : Hp → Prop, (∀ H', Nx H' → ∃ m', m' < m ∧ W (i + 1) m' H') ∧ ∀ x H', (Itr lo n).yld i H x H' → g x (wipe σ vs) H' fun σ2 H2 => wipe σ2 vs = wipe σ vs ∧ tt σ2 H2 fun b H3 =>
        if b = true then te σ2 H3 fun y H4 => ∃ acc, H4 D = some (.lst acc) ∧ acc.length < sizeLine ∧ Nx (upd H4 D (.lst (acc ++ [y]))) else Nx H3) := by
  refine ⟨fun i m H => m = n - i ∧ i ≤ n ∧ Pv i H, ⟨n, by simp, Nat.zero_le _, h0⟩, ?_⟩
  rintro i m H ⟨rfl, hi, p⟩
  by_cases hlt : i < n
  · refine .inr ⟨hlt, Pv (i + 1), fun H' p' => ⟨n - (i + 1), by omega, rfl, hlt, p'⟩, fun x H' y => ?_⟩
    obtain ⟨e, y⟩ := y
    subst e y
    exact hs i _ hlt p
  · have e : i = n := by omega
    subst e
    exact .inl ⟨Nat.le_refl _, hd H p⟩
theorem lc_list {K : PySem.W.Frag} {a : Addr} {xs : List V} {g : TG} {tt : TT} {te : TE} {vs : List Nat} {σ : St} {H1 : Hp} {D : Addr} {Qd : Hp → Prop} (Pv : Nat → Hp → Prop) (h0 : Pv 0 (upd H1 D (.lst []))) (hl : ∀ i H, i ≤ xs.length → Pv i H → SqL K H a xs)
    (hs : ∀ i x H, xs[i]? = some x → Pv i H → g x (wipe σ vs) H fun σ2 H2 => wipe σ2 vs = wipe σ vs ∧ tt σ2 H2 fun b H3 =>
      if b = true then te σ2 H3 fun y H4 => ∃ acc, H4 D = some (.lst acc) ∧ acc.length < sizeLine ∧ Pv (i + 1) (upd H4 D (.lst (acc ++ [y]))) else Pv (i + 1) H3) (hd : ∀ H, Pv xs.length H → Qd H) :
    ∃ W : Nat → Nat → Hp → Prop, (∃ m, W 0 m (upd H1 D (.lst []))) ∧ ∀ i m H, W i m H →
      ((Itl K a).stop i H ∧ Qd H) ∨ ((Itl K a).go i H ∧ ∃ Nx : Hp → Prop, (∀ H', Nx H' → ∃ m', m' < m ∧ W (i + 1) m' H') ∧ ∀ x H', (Itl K a).yld i H x H' → g x (wipe σ vs) H' fun σ2 H2 => wipe σ2 vs = wipe σ vs ∧ tt σ2 H2 fun b H3 =>
        if b = true then te σ2 H3 fun y H4 => ∃ acc, H4 D = some (.lst acc) ∧ acc.length < sizeLine ∧ Nx (upd H4 D (.lst (acc ++ [y]))) else Nx H3) := by
  refine ⟨fun i m H => m = xs.length - i ∧ i ≤ xs.length ∧ Pv i H, ⟨xs.length, by simp, Nat.zero_le _, h0⟩, ?_⟩
  rintro i m H ⟨rfl, hi, p⟩
  have q := hl i H hi p
  by_cases hlt : i < xs.length
  · refine .inr ⟨⟨xs, xs[i], q, by simp [hlt]⟩, Pv (i + 1), fun H' p' => ⟨xs.length - (i + 1), by omega, rfl, hlt, p'⟩, fun x H' y => ?_⟩
    obtain ⟨e, y⟩ := y
    subst e
    exact hs i x _ (y xs q) p
  · have e : i = xs.length := by omega
    subst e
    exact .inl ⟨⟨xs, q, Nat.le_refl _⟩, hd H p⟩
end L2

namespace L2
open PySem PySem.Spec PyProof.Rows

section
variable {prog : Program} {w : World} {A : Around} {R : Result → Shared → Prop} {s : Shared} {elt t0 i0 t1 i1 : Expr} {ifs0 ifs1 : List Expr} {scope : Scope} {pos : Pos} {it acc : Value} {env : Env}
end

section
variable {X : Cx}
end
end L2

namespace L2
open PySem PySem.Spec PyProof.Rows

section
variable {κ : Type} [DecidableEq κ]
def valV (kvs : List (κ × V)) (k : κ) : Option V := (kvs.find? fun kv => decide (kv.1 = k)).map (·.2)
def putK (kvs : List (κ × V)) (k : κ) (v : V) : List (κ × V) :=
  if (kvs.any fun kv => decide (kv.1 = k)) = true then kvs.map (fun kv => if kv.1 = k then (kv.1, v) else kv) else kvs ++ [(k, v)]
def dropK (kvs : List (κ × V)) (k : κ) : List (κ × V) := kvs.filter fun kv => decide (kv.1 ≠ k)

theorem valV_pos {p : κ × V} {r : List (κ × V)} {k : κ} (e : p.1 = k) : valV (p :: r) k = some p.2 := by simp [valV, List.find?_cons, e]
theorem valV_neg {p : κ × V} {r : List (κ × V)} {k : κ} (e : ¬ p.1 = k) : valV (p :: r) k = valV r k := by simp [valV, List.find?_cons, e]
theorem valV_any (k : κ) : ∀ kvs : List (κ × V), (kvs.any fun kv => decide (kv.1 = k)) = (valV kvs k).isSome
  | [] => rfl
  | p :: r => by
    rw [List.any_cons]
    by_cases e : p.1 = k
    · simp only [valV_pos e, decide_eq_true e, Bool.true_or, Option.isSome_some]
    · rw [valV_neg e, decide_eq_false e, Bool.false_or]; exact valV_any k r
theorem length_putK (kvs : List (κ × V)) (k : κ) (v : V) : (putK kvs k v).length ≤ kvs.length + 1 := by
  unfold putK
  split
  · rw [List.length_map]; omega
  · rw [List.length_append, List.length_cons, List.length_nil]; omega
theorem putK_new {kvs : List (κ × V)} {k : κ} (v : V) (h : valV kvs k = none) : putK kvs k v = kvs ++ [(k, v)] := by
  unfold putK
  rw [valV_any, h]
  exact if_neg (by decide)

theorem RelO.isSome_eq {o : Option V} {u : Option Value} (r : RelO o u) : o.isSome = u.isSome := by
  cases o with
  | none => cases u with
    | none => rfl
    | some _ => exact (show False from r).elim
  | some _ => cases u with
    | none => exact (show False from r).elim
    | some _ => rfl
theorem RelO.getD {o : Option V} {u : Option Value} {d : V} {d' : Value} (r : RelO o u) (rd : RelV d d') : RelV (o.getD d) (u.getD d') := by
  cases o with
  | none => cases u with
    | none => exact rd
    | some _ => exact (show False from r).elim
  | some _ => cases u with
    | none => exact (show False from r).elim
    | some _ => exact r

theorem KV.val {kvs : List (κ × V)} {vs : List (κ × Value)} (r : KV kvs vs) (k : κ) : RelO (valV kvs k) (valueAt vs k) := by
  unfold KV at r
  induction r with
  | nil => exact True.intro
  | @cons p q ps qs h t ih =>
    obtain ⟨h1, h2⟩ := h
    by_cases e : p.1 = k
    · have e' : q.1 = k := h1.symm.trans e
      have b : valueAt (q :: qs) k = some q.2 := by simp [valueAt, List.find?_cons, e']
      rw [valV_pos e, b]; exact h2
    · have e' : ¬ q.1 = k := fun z => e (h1.trans z)
      have b : valueAt (q :: qs) k = valueAt qs k := by simp [valueAt, List.find?_cons, e']
      rw [valV_neg e, b]; exact ih
theorem KV.any {kvs : List (κ × V)} {vs : List (κ × Value)} (r : KV kvs vs) (k : κ) : (kvs.any fun kv => decide (kv.1 = k)) = vs.any fun kv => decide (kv.1 = k) := by
  unfold KV at r
  induction r with
  | nil => rfl
  | cons h t ih => rw [List.any_cons, List.any_cons, ih, h.1]
theorem KV.repl {kvs : List (κ × V)} {vs : List (κ × Value)} (r : KV kvs vs) (k : κ) {y : V} {u : Value} (ry : RelV y u) :
    KV (kvs.map fun kv => if kv.1 = k then (kv.1, y) else kv) (vs.map fun kv => if kv.1 = k then (kv.1, u) else kv) := by
  unfold KV at r ⊢
  induction r with
  | nil => exact .nil
  | @cons p q ps qs h t ih =>
    rw [List.map_cons, List.map_cons]
    refine .cons ?_ ih
    obtain ⟨h1, h2⟩ := h
    by_cases e : p.1 = k
    · rw [if_pos e, if_pos (h1.symm.trans e)]; exact ⟨h1, ry⟩
    · rw [if_neg e, if_neg (fun z => e (h1.trans z))]; exact ⟨h1, h2⟩
theorem KV.put {kvs : List (κ × V)} {vs : List (κ × Value)} (r : KV kvs vs) (k : κ) {y : V} {u : Value} (ry : RelV y u) : KV (putK kvs k y) (stored vs k u) := by
  unfold putK stored
  rw [r.any k]
  by_cases e : (vs.any fun kv => decide (kv.1 = k)) = true
  · rw [if_pos e, if_pos e]; exact r.repl k ry
  · rw [if_neg e, if_neg e]; exact Paired.snoc r ⟨rfl, ry⟩
theorem KV.drop {kvs : List (κ × V)} {vs : List (κ × Value)} (r : KV kvs vs) (k : κ) : KV (dropK kvs k) (without vs k) := by
  unfold KV at r ⊢
  unfold dropK without
  induction r with
  | nil => exact .nil
  | @cons p q ps qs h t ih =>
    obtain ⟨h1, h2⟩ := h
    rw [List.filter_cons, List.filter_cons]
    by_cases e : p.1 = k
    · have a : ¬ decide (p.1 ≠ k) = true := by simp [e]
      have b : ¬ decide (q.1 ≠ k) = true := by simp [h1.symm.trans e]
      rw [if_neg a, if_neg b]; exact ih
    · have e' : ¬ q.1 = k := fun z => e (h1.trans z)
      have a : decide (p.1 ≠ k) = true := by simp [e]
      have b : decide (q.1 ≠ k) = true := by simp [e']
      rw [if_pos a, if_pos b]; exact .cons ⟨h1, h2⟩ ih
theorem KV.keys {kvs : List (κ × V)} {vs : List (κ × Value)} (r : KV kvs vs) : kvs.map (·.1) = vs.map (·.1) := by
  unfold KV at r
  induction r with
  | nil => rfl
  | cons h t ih => rw [List.map_cons, List.map_cons, ih, h.1]
theorem KV.length {kvs : List (κ × V)} {vs : List (κ × Value)} (r : KV kvs vs) : kvs.length = vs.length := Paired.length r
end


theorem kV_is {P : Program} {w : World} {k : Key} {u : Value} (r : RelV (kV k) u) : (mixKind P w).is k u = true := by
  cases k with
  | inl i => obtain ⟨t, e⟩ := (show ∃ t, u = Value.int i t from r); subst e; exact mixKind_int P w i t
  | inr x => obtain ⟨t, e⟩ := (show ∃ t, u = Value.str x t from r); subst e; exact mixKind_str P w x t
theorem items_are {P : Program} {w : World} : ∀ {ks : List Key} {us : List Value}, Vals (ks.map kV) us → ItemsAre (mixKind P w) ks us
  | [], _, r => by rw [List.map_nil] at r; cases r; exact .nil
  | k :: ks, _, r => by
    rw [List.map_cons] at r
    cases r with
    | cons h t => exact .cons (kV_is h) (items_are t)

abbrev KT (H : Hp) : List (List Key × V) → List (List Key × Addr × Value) → Prop := Paired fun p q => p.1 = q.1 ∧ H q.2.1 = some (.tup (p.1.map kV)) ∧ RelV p.2 q.2.2
theorem KT.val {H : Hp} {kvs : List (List Key × V)} {xs : List (List Key × Addr × Value)} (r : KT H kvs xs) (k : List Key) : RelO (valV kvs k) ((atKey xs k).map (·.2)) := by
  induction r with
  | nil => exact True.intro
  | @cons p q ps qs h t ih =>
    obtain ⟨h1, _, h2⟩ := h
    by_cases e : p.1 = k
    · have e' : q.1 = k := h1.symm.trans e
      have b : atKey (q :: qs) k = some q.2 := by simp [atKey, List.find?_cons, e']
      rw [valV_pos e, b]; exact h2
    · have e' : ¬ q.1 = k := fun z => e (h1.trans z)
      have b : atKey (q :: qs) k = atKey qs k := by simp [atKey, List.find?_cons, e']
      rw [valV_neg e, b]; exact ih
theorem KT.repl {H : Hp} {kvs : List (List Key × V)} {xs : List (List Key × Addr × Value)} (r : KT H kvs xs) (k : List Key) {y : V} {u : Value} (ry : RelV y u) :
    KT H (kvs.map fun kv => if kv.1 = k then (kv.1, y) else kv) (xs.map (putAt k u)) := by
  induction r with
  | nil => exact .nil
  | @cons p q ps qs h t ih =>
    rw [List.map_cons, List.map_cons]
    refine .cons ?_ ih
    obtain ⟨h1, h2, h3⟩ := h
    unfold putAt
    by_cases e : p.1 = k
    · rw [if_pos e, if_pos (h1.symm.trans e)]; exact ⟨h1, h2, ry⟩
    · rw [if_neg e, if_neg (fun z => e (h1.trans z))]; exact ⟨h1, h2, h3⟩
theorem KT.put {H : Hp} {kvs : List (List Key × V)} {xs : List (List Key × Addr × Value)} (r : KT H kvs xs) (k : List Key) {b : Addr} {y : V} {u : Value} (hb : H b = some (.tup (k.map kV))) (ry : RelV y u) :
    KT H (putK kvs k y) (storedH xs k b u) := by
  have e : (kvs.any fun kv => decide (kv.1 = k)) = (atKey xs k).isSome := by
    rw [valV_any, (r.val k).isSome_eq, Option.isSome_map]
  unfold putK storedH
  rw [e]
  by_cases q : (atKey xs k).isSome = true
  · rw [if_pos q, if_pos q]; exact r.repl k ry
  · rw [if_neg q, if_neg q]; exact Paired.snoc r ⟨rfl, hb, ry⟩
theorem KT.keeps {H H' : Hp} {kvs : List (List Key × V)} {xs : List (List Key × Addr × Value)} (r : KT H kvs xs) (ht : ∀ b ys, H b = some (.tup ys) → H' b = some (.tup ys)) : KT H' kvs xs :=
  Paired.mapP r fun _ _ z => ⟨z.1, ht _ _ z.2.1, z.2.2⟩

section
variable {P : Program} {w : World} {H : Hp} {h : Heap} {a : Addr}
theorem rd_of {u : HO} (ok : HOk P w H h) (e : Rd H a u) : ObjOk P w H h a u := e.ok ok
theorem dk_rd {kvs : List (Key × V)} (ok : HOk P w H h) (e : Rd H a (.dK kvs)) : kvs.length ≤ sizeLine ∧ (a == sysModules) = false ∧ ∃ vs, KV kvs vs ∧ h.DictOf (mixKind P w) a vs :=
  show ObjOk P w H h a (.dK kvs) from rd_of ok e
theorem dk_of {kvs : List (Key × V)} (ok : HOk P w H h) (e : H a = some (.dK kvs)) : kvs.length ≤ sizeLine ∧ (a == sysModules) = false ∧ ∃ vs, KV kvs vs ∧ h.DictOf (mixKind P w) a vs := dk_rd ok (.inl e)
theorem key_of {ks : List Key} (ok : HOk P w H h) (e : H a = some (.tup (ks.map kV))) : (tupleKind (mixKind P w)).is h ks a := by
  obtain ⟨_, its, r, o, h1, h2, n, h3⟩ := (show ObjOk P w H h a (.tup (ks.map kV)) from ok a _ e)
  exact ⟨o, its.toArray, n, h1, h2, h3, by simpa using items_are r⟩
theorem dt_rd {kvs : List (List Key × V)} (ok : HOk P w H h) (e : Rd H a (.dT kvs)) : kvs.length ≤ sizeLine ∧ (a == sysModules) = false ∧
    ∃ xs, KT H kvs xs ∧ h.DictOfH (tupleKind (mixKind P w)) a xs := by
  obtain ⟨z, y, xs, r, o, es, ep, h1, h2, h3, h4, h5⟩ := (show ObjOk P w H h a (.dT kvs) from rd_of ok e)
  refine ⟨z, y, xs, r, o, es, ep, h1, h2, h3, h4, fun x hx => ?_, h5⟩
  have all : ∀ {l : List (List Key × V)} {m : List (List Key × Addr × Value)}, KT H l m → ∀ x ∈ m, (tupleKind (mixKind P w)).is h x.1 x.2.1 := by
    intro l m q
    induction q with
    | nil => intro x hx; exact nomatch hx
    | @cons p q ps qs hq t ih =>
      intro x hx
      rcases List.mem_cons.mp hx with e | hx
      · subst e
        exact key_of ok (by rw [← hq.1]; exact hq.2.1)
      · exact ih x hx
  exact all r x hx
theorem dt_of {kvs : List (List Key × V)} (ok : HOk P w H h) (e : H a = some (.dT kvs)) : kvs.length ≤ sizeLine ∧ (a == sysModules) = false ∧
    ∃ xs, KT H kvs xs ∧ h.DictOfH (tupleKind (mixKind P w)) a xs := dt_rd ok (.inl e)
end

def DGet (H : Hp) (a : Addr) (y : V) (r : Option V) : Prop :=
  (∃ kvs k, Rd H a (.dK kvs) ∧ y = kV k ∧ r = valV kvs k) ∨ ∃ kvs k b, Rd H a (.dT kvs) ∧ y = .ref b ∧ H b = some (.tup (k.map kV)) ∧ r = valV kvs k
def DPut (H : Hp) (a : Addr) (y v : V) (H' : Hp) : Prop :=
  (∃ kvs k, H a = some (.dK kvs) ∧ y = kV k ∧ kvs.length < sizeLine ∧ H' = upd H a (.dK (putK kvs k v))) ∨
  ∃ kvs k b, H a = some (.dT kvs) ∧ y = .ref b ∧ H b = some (.tup (k.map kV)) ∧ kvs.length < sizeLine ∧ H' = upd H a (.dT (putK kvs k v))
theorem DGet.k {H : Hp} {a : Addr} {kvs : List (Key × V)} {k : Key} (e : H a = some (.dK kvs)) : DGet H a (kV k) (valV kvs k) := .inl ⟨kvs, k, .inl e, rfl, rfl⟩
theorem DGet.t {H : Hp} {a b : Addr} {kvs : List (List Key × V)} {k : List Key} (e : H a = some (.dT kvs)) (eb : H b = some (.tup (k.map kV))) : DGet H a (.ref b) (valV kvs k) := .inr ⟨kvs, k, b, .inl e, rfl, eb, rfl⟩
theorem DPut.k {H : Hp} {a : Addr} {kvs : List (Key × V)} {k : Key} {v : V} (e : H a = some (.dK kvs)) (hl : kvs.length < sizeLine) : DPut H a (kV k) v (upd H a (.dK (putK kvs k v))) := .inl ⟨kvs, k, e, rfl, hl, rfl⟩
theorem DPut.t {H : Hp} {a b : Addr} {kvs : List (List Key × V)} {k : List Key} {v : V} (e : H a = some (.dT kvs)) (eb : H b = some (.tup (k.map kV))) (hl : kvs.length < sizeLine) :
    DPut H a (.ref b) v (upd H a (.dT (putK kvs k v))) := .inr ⟨kvs, k, b, e, rfl, eb, hl, rfl⟩


section
variable {X : Cx} {pins : List (Addr × Obj)} {σ : St} {H : Hp} {s : Shared} {a : Addr} {y v : V} {u r : Value} {o : Option V} {A : Around} {E : Value → Shared → Prop}

theorem Inv.big (I : Inv X pins σ H s) : sysModules < s.heap.objs.size := by
  have h : mainGlobals < s.heap.objs.size := (I.mod.glob.keeps I.bk).lt
  exact Nat.lt_trans (by decide) h

theorem d_getItem {Q : Value → Shared → Prop} (hu : A.units + 1 < cLine) (I : Inv X pins σ H s) (g : DGet H a y (some v)) (ry : RelV y u) (h : ∀ w' s', Inv X pins σ H s' → RelV v w' → Q w' s') :
    wpAny (model X.prog X.w) A (getItem (.ref a) u) Q E s := by
  rcases g with ⟨kvs, k, e, ey, l⟩ | ⟨kvs, k, b, e, ey, eb, l⟩
  · subst ey
    obtain ⟨z, hd, vs, rel, dd⟩ := dk_rd I.hok e
    obtain ⟨w', hw, rw'⟩ := RelO.some_of (v := v) (o := valueAt vs k) (by rw [l]; exact rel.val k)
    exact wpAny_getItem_of (kV_is ry) dd.mapOf hw (h w' _ (I.tok _) rw')
  · subst ey
    cases (show u = Value.ref b from ry)
    obtain ⟨z, hd, xs, rel, dd⟩ := dt_rd I.hok e
    obtain ⟨w', hw, rw'⟩ := RelO.some_of (v := v) (o := (atKey xs k).map (·.2)) (by rw [l]; exact rel.val k)
    obtain ⟨p, hp, hp2⟩ := Option.map_eq_some_iff.mp hw
    refine wpAny_getItem_heap (tupleKind_room_in1 hu) (key_of I.hok eb) dd hp ?_
    rw [hp2]
    exact h w' _ (I.tok _) rw'
theorem d_write {h' : Heap} {t' : Nat} {ob : HO} (I : Inv X pins σ H s) (mu : Mut (H a)) (hs : Heap.SameBut a s.heap h') (he : ∃ q, h'.get? a = some q) (new : ObjOk X.prog X.w (upd H a ob) h' a ob) :
    Inv X pins σ (upd H a ob) { s with heap := h', toks := t' } :=
  I.write (x := a) (e := a) mu (.inl rfl) (fun b q hb z => (hs.2 b hb).trans z) he new
theorem dk_new {P : Program} {w : World} {H' : Hp} {h' : Heap} {kvs : List (Key × V)} {vs : List (Key × Value)} (z : kvs.length ≤ sizeLine) (hd : (a == sysModules) = false) (rel : KV kvs vs) (dd : h'.DictOf (mixKind P w) a vs) :
    ObjOk P w H' h' a (.dK kvs) := ⟨z, hd, vs, rel, dd⟩
theorem d_setItem {H' : Hp} {Q : Unit → Shared → Prop} (hu : A.units + 1 < cLine) (I : Inv X pins σ H s) (g : DPut H a y v H') (ry : RelV y u) (rv : RelV v r) (h : ∀ s', Inv X pins σ H' s' → Q () s') :
    wpAny (model X.prog X.w) A (setItem (.ref a) u r) Q E s := by
  rcases g with ⟨kvs, k, e, ey, l, eH⟩ | ⟨kvs, k, b, e, ey, eb, l, eH⟩
  · subst ey eH
    obtain ⟨z, hd, vs, rel, dd⟩ := dk_of I.hok e
    have hz : vs.length ≤ sizeLine := by rw [← rel.length]; exact z
    have hl : (putK kvs k v).length ≤ sizeLine := by have := length_putK kvs k v; omega
    refine wpAny_setItem_pairs (hsz := hz) (kV_is ry) dd fun h' dd' hs => h _ ?_
    have he : ∃ q, h'.get? a = some q := let ⟨q, _, _, hq, _⟩ := dd'; ⟨q, hq⟩
    exact d_write I (by rw [e]; exact True.intro) hs he (dk_new hl hd (rel.put k rv) dd')
  · subst ey eH
    cases (show u = Value.ref b from ry)
    obtain ⟨z, hd, xs, rel, dd⟩ := dt_of I.hok e
    have hz : xs.length ≤ sizeLine := by rw [← Paired.length rel]; exact z
    have hl : (putK kvs k v).length ≤ sizeLine := by have := length_putK kvs k v; omega
    refine wpAny_setItem_heap (hsz := hz) (tupleKind_room_in1 hu) (key_of I.hok eb) dd fun h' dd' hs => h _ ?_
    obtain ⟨q, es, ep, hq, h2, h3, h4, _, h5⟩ := dd'
    refine d_write I (by rw [e]; exact True.intro) hs ⟨q, hq⟩ ⟨hl, hd, _, (rel.put k eb rv).keeps fun c ys ec => ?_, q, es, ep, hq, h2, h3, h4, h5⟩
    rw [upd_ne (ne_of ec e (fun z => nomatch z))]
    exact ec
end

section
variable {X : Cx} {pins : List (Addr × Obj)} {σ : St} {H : Hp} {s : Shared} {a : Addr} {kvs : List (Key × V)} {k : Key} {u : Value} {A : Around} {E : Value → Shared → Prop}
end


def NoSl (i : Expr) : Prop := ∀ ov iv, subscripted i false ov iv = operate [ov, iv] (getItem ov iv)
theorem subD_of {prog : Program} {w : World} {A : Around} {E : Value → Shared → Prop} {s : Shared} {env : Env} {value slice : Expr} {pos : Pos} {T id : String} {Q : Value → Shared → Prop}
    (hl : typeLookup (.type T) "__getitem__" = pure (some (.builtin id))) (hs : NoSl slice)
    (h : wpAny (model prog w) A (eval value env) (fun o s₁ => wpAny (model prog w) A (eval slice env) (fun i s₂ => s₂.TypeIs o T ∧ wpAny (model prog w) A (getItem o i) Q E s₂) E s₁) E s) :
    wpAny (model prog w) A (eval (.Subscript value slice pos) env) Q E s := by
  refine Subscript_ (wpAny_mono h (fun o s₁ h₁ => wpAny_mono h₁ (fun i s₂ h₂ => ?_) fun _ _ x => x) fun _ _ x => x)
  obtain ⟨hT, h₂⟩ := h₂
  unfold subscriptTail
  refine wpAny_bind ?_
  rw [getitemInPython_of_ne hT.not_modules]
  refine wpAny_bind (wpAny_specialOf hT hl ?_)
  have fin : wpAny (model prog w) A (subscripted slice false o i) (fun r s₃ => wpAny (model prog w) A (letTemporaryGo value o r >>= fun _ => pure r) Q E s₃) E s₂ := by
    rw [hs o i]
    exact wpAny_operating (wpAny_mono h₂ (fun r s₃ h₃ => wpAny_bind (wpAny_letTemporaryGo (wpAny_pure h₃))) fun _ _ x => x)
  first
    | exact wpAny_pure (wpAny_bind fin)
    | exact wpAny_bind (wpAny_pure (wpAny_bind fin))
    | exact wpAny_bind fin

theorem dict_typeIs {X : Cx} {pins : List (Addr × Obj)} {σ : St} {H : Hp} {s : Shared} {a : Addr} {y : V} {o : Option V} (I : Inv X pins σ H s) (g : DGet H a y o) : s.TypeIs (.ref a) "dict" := by
  rcases g with ⟨kvs, k, e, _, _⟩ | ⟨kvs, k, b, e, _, _, _⟩
  · obtain ⟨_, _, vs, _, dd⟩ := dk_rd I.hok e
    exact dd.typeIs
  · obtain ⟨_, _, xs, _, dd⟩ := dt_rd I.hok e
    exact dd.typeIs
def tDGet (td ty : TE) : TE := fun σ H Q => td σ H fun x H1 => ty σ H1 fun y H2 => ∃ a v, x = .ref a ∧ DGet H2 a y (some v) ∧ Q v H2
def sDPut (td ty tv : TE) : TS := fun D σ H => tv σ H fun v H1 => td σ H1 fun x H2 => ty σ H2 fun y H3 => ∃ a H4, x = .ref a ∧ DPut H3 a y v H4 ∧ D.nx σ H4
section
variable {X : Cx} {o i e value : Expr} {pos pos' tpos : Pos} {td ty tv : TE}
theorem pe_dget (hu : X.A.units + 1 < cLine) (ho : PE X o td) (hi : PE X i ty) (hs : NoSl i) : PE X (.Subscript o i pos) (tDGet td ty) := by
  intro pins s σ H Q I h
  refine subD_of PySem.F.slot_dict_getitem.lookup hs (thn (ho pins s σ H _ I h) fun u s1 ⟨x, H1, I1, rx, q1⟩ => thn (hi pins s1 σ H1 _ I1 q1) fun iv s2 ⟨y, H2, I2, ry, a, v, ex, g, q2⟩ => ?_)
  subst ex
  obtain rfl : u = Value.ref a := rx
  exact ⟨dict_typeIs I2 g, d_getItem hu I2 g ry fun w' s3 I3 rw' => ⟨v, H2, I3, rw', q2⟩⟩
theorem ps_dput (hu : X.A.units + 1 < cLine) (ho : PE X o td) (hi : PE X i ty) (hv : PE X value tv) (hs : swapsWith value (some (.Subscript o i pos')) pos.line X.env = pure false) :
    PS X (.Assign [.Subscript o i pos'] value pos) (sDPut td ty tv) := by
  intro pins s σ H D I h
  refine wpAny_Assign_Subscript (thn (hv pins s σ H _ I h) fun r s1 ⟨v, H1, I1, rv, q1⟩ => thn (ho pins s1 σ H1 _ I1 q1) fun u s2 ⟨x, H2, I2, rx, q2⟩ => thn (hi pins s2 σ H2 _ I2 q2) fun iv s3 ⟨y, H3, I3, ry, a, H4, ex, g, q3⟩ => ?_) hs
  subst ex
  obtain rfl : u = Value.ref a := rx
  exact d_setItem hu I3 g ry rv fun s4 I4 => ⟨σ, H4, I4, q3⟩
end


theorem dk_empty {P : Program} {w : World} {H : Hp} (h : Heap) (hb : sysModules < h.objs.size) : ObjOk P w H (h.push { cls := .type "dict", data := .dict #[] }) h.objs.size (.dK []) :=
  ⟨Nat.zero_le _, beq_eq_false_iff_ne.mpr (Ne.symm (Nat.ne_of_lt hb)), [], .nil, Heap.DictOf.new h⟩
def tDNewK : TE := fun _ H Q => ∀ p, H p = none → Q (.ref p) (upd H p (.dK []))
section
variable {X : Cx} {pos : Pos}
theorem pe_dnewK : PE X (.Dict [] [] pos) tDNewK := fun pins s σ H Q I h =>
  wpAny_Dict_empty ⟨.ref s.heap.objs.size, _, I.laid (a := s.heap.objs.size) (o := .dK []) (t' := s.toks) (fun _ _ q => Heap.get?_push_of_some _ q) (Nat.le_refl _) (dk_empty s.heap I.big), rfl, h _ (I.hok.fresh (Nat.le_refl _))⟩
end

section
variable {X : Cx} {pins : List (Addr × Obj)} {σ : St} {H : Hp} {s : Shared} {a : Addr} {y d : V} {u r : Value} {o : Option V} {A : Around} {E : Value → Shared → Prop}
end

section
variable {X : Cx} {o e f : Expr} {apos cpos : Pos} {td ty tx : TE}
end

section
variable {X : Cx} {pins : List (Addr × Obj)} {σ : St} {H : Hp} {s : Shared} {a : Addr} {kvs : List (Key × V)} {A : Around} {E : Value → Shared → Prop}
end


section
variable {X : Cx} {pins : List (Addr × Obj)} {σ : St} {H : Hp} {s : Shared} {a : Addr} {y : V} {u : Value} {A : Around} {E : Value → Shared → Prop}
end
end L2

namespace L2
open PySem PySem.Spec PyProof.Rows

section
variable {prog : Program} {w : World} {A : Around} {E : Value → Shared → Prop}
end

section
variable {X : Cx}
end
end L2

namespace L2
open PySem PySem.Spec PyProof.Rows

section
variable {X : Cx} {pins : List (Addr × Obj)} {σ : St} {H : Hp} {s : Shared} {h' : Heap}
theorem Inv.turnedNew {t' : Nat} {ch : List Addr} {T : Addr} {ob : HO} (I : Inv X pins σ H s) (k : ∀ b o, b ∉ ch → s.heap.get? b = some o → h'.get? b = some o) (hf : ∀ b ∈ ch, FpOk X pins H b) (hT : s.heap.objs.size ≤ T)
    (new : ObjOk X.prog X.w (upd H T ob) h' T ob) : Inv X pins σ (upd H T ob) { s with heap := h', toks := t' } := by
  have hn : H T = none := I.hok.fresh hT
  have nit : ∀ b u, H b = some u → b ∉ ch := fun b u e z => by
    have q := (hf b z).1
    rw [q] at e; cases e
  refine I.step (g' := s.gens) (d' := s.drawn) (ch := ch) (fun b hb => ⟨(hf b hb).2.2.2.1, (hf b hb).2.1, (hf b hb).2.2.2.2.1, (hf b hb).2.2.2.2.2⟩) (fun b o _ _ hc e _ => k b o hc e) (fun b o _ _ hc e _ => ⟨o.slots, k b o hc e⟩)
    (fun b o _ e n => ?_) (fun b o hc e => ⟨o, k b o hc e⟩) (fun b xs e => ?_) (fun b o u e => ?_) (fun b ps e => ⟨#[], ?_⟩) (fun m hm => ?_) (fun b u e => ?_) I.bare
  · rw [upd_ne (Nat.ne_of_lt (Nat.lt_of_lt_of_le (Heap.lt_size e) hT))]; exact n
  · rw [upd_ne (ne_of_none e hn)]; exact e
  · rw [upd_ne (ne_of_none e hn)]; exact e
  · rw [upd_ne (ne_of_none e hn), e]; simp
  · obtain ⟨o, es, ep, ho, r⟩ := hm
    exact ⟨o, es, ep, k _ o (fun z => (hf _ z).2.1 rfl) ho, r⟩
  · by_cases hb : b = T
    · subst hb
      rw [upd_same] at e
      cases e
      exact new
    · rw [upd_ne hb] at e
      refine (I.hok b u e).stay (fun c v hc q => k c v ?_ q) (fun c q => by rw [upd_ne (ne_of_none q hn)]; exact q) fun c xs q => by rw [upd_ne (ne_of_none q hn)]; exact q
      rcases hc with z | z
      · rw [z]; exact nit b u e
      · exact nit c _ z

theorem Inv.lock {d : Addr} {u : HO} (I : Inv X pins σ H s) (h : H d = some u) (mu : Mut (some u)) : ∃ od, Inv X pins σ (upd H d (.frz od u)) s := by
  have x := I.hok d u h
  have ex : ∃ od, s.heap.get? d = some od := by
    cases u with
    | lst xs => obtain ⟨_, _, _, _, e⟩ := x; exact ⟨_, e⟩
    | dK kvs => obtain ⟨_, _, _, _, o, _, _, e, _⟩ := x; exact ⟨o, e⟩
    | dT kvs => obtain ⟨_, _, _, _, o, _, _, e, _⟩ := x; exact ⟨o, e⟩
    | set S n => obtain ⟨o, _, _, _, e, _⟩ := x; exact ⟨o, e⟩
    | ins C dx fs => obtain ⟨_, _, _, e, _⟩ := x; exact ⟨_, e⟩
    | ext φ => obtain ⟨_, ⟨_, e⟩, _⟩ := x; exact ⟨_, e⟩
    | _ => exact False.elim mu
  obtain ⟨od, e⟩ := ex
  have new : ObjOk X.prog X.w (upd H d (.frz od u)) s.heap d (.frz od u) := by
    refine ⟨e, x.stay (fun b v _ q => q) (fun b q => ?_) fun b xs q => ?_⟩
    · rw [upd_ne (fun z => by rw [z, h] at q; cases q; exact mu)]; exact q
    · rw [upd_ne (fun z => by rw [z, h] at q; cases q; exact mu)]; exact q
  exact ⟨od, I.write (x := d) (e := d) (t' := s.toks) (h' := s.heap) (by rw [h]; exact mu) (.inl rfl) (fun b v _ q => q) ⟨od, e⟩ new⟩
theorem Inv.nofrz {d : Addr} {u : HO} (I : Inv X pins σ H s) (h : H d = some u) (mu : Mut (some u)) : ∀ o' u', X.H_0 d ≠ some (.frz o' u') := fun o' u' e => by
  have q := I.base.frzs d o' u' e
  rw [h] at q
  cases q
  exact mu
theorem Inv.unlock {d : Addr} {od : Obj} {u : HO} (I : Inv X pins σ H s) (h : H d = some (.frz od u)) (hn : ∀ o' u', X.H_0 d ≠ some (.frz o' u')) : Inv X pins σ (upd H d u) s := by
  have neH : ∀ b o, H b = some o → (∀ o' u', o ≠ .frz o' u') → b ≠ d := fun b o e hne z => by
    rw [z, h] at e
    cases e
    exact hne _ _ rfl
  have neN : ∀ b, H b = none → b ≠ d := fun b e z => by rw [z, h] at e; cases e
  refine ⟨I.ok, I.os, I.bare, ⟨I.base.keep, I.base.slot, fun b o e n hx => ?_, I.base.there, fun b xs e => ?_, fun b o x e => ?_, fun b ps e => ?_⟩, I.loc, I.cell, ?_, fun x c e => ?_, fun p hp => ?_, fun b o e => ?_, I.len⟩
  · rw [upd_ne (neN b (I.base.free b o e n hx))]; exact I.base.free b o e n hx
  · have q := I.base.tups b xs e
    rw [upd_ne (neH b _ q (fun _ _ z => nomatch z))]; exact q
  · have q := I.base.frzs b o x e
    rw [upd_ne (fun z => by rw [z] at e; exact hn _ _ e)]; exact q
  · obtain ⟨m, q⟩ := I.base.tbls b ps e
    exact ⟨m, by rw [upd_ne (neH b _ q (fun _ _ z => nomatch z))]; exact q⟩
  · rw [upd_ne (neN _ I.free)]; exact I.free
  · rw [upd_ne (neN c (I.freeC x c e))]; exact I.freeC x c e
  · obtain ⟨e, n, r⟩ := I.pin p hp
    exact ⟨e, by rw [upd_ne (neN _ n)]; exact n, r⟩
  · by_cases hb : b = d
    · rw [hb, upd_same] at e
      cases e
      rw [hb]
      obtain ⟨_, x⟩ := I.hok d _ h
      exact x.stay (fun c v _ q => q) (fun c q => by rw [upd_ne (neH c _ q (fun _ _ z => nomatch z))]; exact q) fun c xs q => by rw [upd_ne (neH c _ q (fun _ _ z => nomatch z))]; exact q
    · rw [upd_ne hb] at e
      exact (I.hok b o e).stay (fun c v _ q => q) (fun c q => by rw [upd_ne (neH c _ q (fun _ _ z => nomatch z))]; exact q) fun c xs q => by rw [upd_ne (neH c _ q (fun _ _ z => nomatch z))]; exact q
end
def tLock (t : TS) : TS := fun D σ H => ∃ d u, H d = some u ∧ Mut (some u) ∧ ∀ od, t ⟨fun σ' H' => H' d = some (.frz od u) ∧ D.nx σ' (upd H' d u), fun v H' => H' d = some (.frz od u) ∧ D.rt v (upd H' d u), fun σ' H' => H' d = some (.frz od u) ∧ D.bk σ' (upd H' d u), fun σ' H' => H' d = some (.frz od u) ∧ D.ct σ' (upd H' d u)⟩ σ (upd H d (.frz od u))
def tLockE (t : TE) : TE := fun σ H Q => ∃ d u, H d = some u ∧ Mut (some u) ∧ ∀ od, t σ (upd H d (.frz od u)) fun v H' => H' d = some (.frz od u) ∧ Q v (upd H' d u)
section
variable {X : Cx}
theorem ps_lock {st : Stmt} {t : TS} (h : PS X st t) : PS X st (tLock t) := by
  intro pins s σ H D I hw
  obtain ⟨d, u, hd, mu, hw⟩ := hw
  obtain ⟨od, I1⟩ := I.lock hd mu
  refine thn (h pins s σ _ _ I1 (hw od)) fun f s1 q => ?_
  cases f with
  | next => obtain ⟨σ', H', I2, e, q⟩ := q; exact ⟨σ', _, I2.unlock e (I.nofrz hd mu), q⟩
  | brk => obtain ⟨σ', H', I2, e, q⟩ := q; exact ⟨σ', _, I2.unlock e (I.nofrz hd mu), q⟩
  | cont => obtain ⟨σ', H', I2, e, q⟩ := q; exact ⟨σ', _, I2.unlock e (I.nofrz hd mu), q⟩
  | ret v => obtain ⟨x, σ', H', I2, r, e, q⟩ := q; exact ⟨x, σ', _, I2.unlock e (I.nofrz hd mu), r, q⟩
theorem pe_lock {e : Expr} {t : TE} (h : PE X e t) : PE X e (tLockE t) := by
  intro pins s σ H Q I hw
  obtain ⟨d, u, hd, mu, hw⟩ := hw
  obtain ⟨od, I1⟩ := I.lock hd mu
  refine thn (h pins s σ _ _ I1 (hw od)) fun v s1 ⟨x, H1, I2, r, e2, q⟩ => ?_
  exact ⟨x, _, I2.unlock e2 (I.nofrz hd mu), r, q⟩

theorem pi_one {tg : Expr} {pins : List (Addr × Obj)} {σ : St} {H : Hp} {s : Shared} {R : It → Hp → Prop} {J : It} {tn : Nat → Heap → Prop} {tk : Nat} (I : Inv X pins σ H s) (o : Obj)
    (T : Turn X.prog X.w X.K tg J [s.heap.objs.size] s.heap.objs.size tn) (st : tn 0 (s.heap.push o)) (q : R J H) : PIE X pins σ tg R (.ref s.heap.objs.size) { s with heap := s.heap.push o, toks := tk } := by
  refine ⟨s.heap.objs.size, [s.heap.objs.size], tn, J, H, rfl, I.kept fun b ob e => Heap.get?_push_of_some _ e, T, st, fun b hb => ?_, q⟩
  have e : b = s.heap.objs.size := by simpa using hb
  subst e
  exact I.fpOk (Nat.le_refl _) (I.hok.fresh (Nat.le_refl _))
end

section
variable {X : Cx} {tg : Expr}
end
section
variable {X : Cx} {tg : Expr}
end

section
variable {prog : Program} {w : World} {A : Around} {E : Value → Shared → Prop} {s : Shared}
theorem iter_keys {d : Addr} {o : Obj} {es : Array DictEntry} {ep : Nat} {Q : Value → Shared → Prop} (hd : (d == sysModules) = false) (ho : s.heap.get? d = some o) (hc : o.ExactDict) (hdat : o.data = .dict es ep)
    (hQ : Q (.ref s.heap.objs.size) { s with heap := s.heap.push { cls := .type "dict_keyiterator", data := .fields #[.ref d, .int 0 0, .int es.size 0, .int ep 0] } }) :
    wpAny (model prog w) A (pyIter (.ref d)) Q E s := by
  have hT : s.TypeIs (.ref d) "dict" := ⟨o, ho, hc.1⟩
  refine wpAny_pyIter_slot hT F.slot_dict_iter (wpAny_call_entry F.slot_dict_iter hT F.entry_dict_iter ?_ (F.args_dict_iter_1 _))
  unfold Builtin.«dict.__iter__»
  refine wpAny_bind ?_
  unfold Builtin.Dict.dictSlotNone
  refine wpAny_bind (wpAny_notOrdered_dict hT ?_)
  show wpAny _ _ (pure (Value.ref d)) _ _ s
  refine wpAny_pure ?_
  show wpAny _ _ (Builtin.Dict.showsAll d >>= _) _ _ s
  unfold Builtin.Dict.showsAll
  rw [if_neg (by rw [hd]; exact Bool.false_ne_true)]
  refine wpAny_bind (wpAny_pure ?_)
  refine wpAny_bind (wpAny_dictEntries ho hdat ?_)
  refine wpAny_bind (wpAny_dictEpoch ho hdat ?_)
  refine wpAny_bind (wpAny_newObj_type (wpAny_pure ⟨_, rfl, "dict_keyiterator", _, ⟨_, Heap.get?_push_size _ rfl, rfl⟩, F.slot_dict_keyiterator_next.lookup, ?_⟩))
  simpa [rawInt] using hQ
theorem next_key_item {it d : Addr} {i n ep : Nat} {od : Obj} {es : Array DictEntry} {en : DictEntry} {Q : Option Value → Shared → Prop} (hit : s.heap.IsKeyIter it d i n ep) (hod : s.heap.get? d = some od) (hdd : od.data = .dict es ep)
    (hsz : es.size = n) (hx : es[i]? = some en) (hQ : ∀ h', h'.IsKeyIter it d (i + 1) n ep → Heap.SameBut it s.heap h' → Q (some en.key) { s with heap := h' }) : wpAny (model prog w) A (pyNext (.ref it)) Q E s := by
  obtain ⟨o, ho, hc, hd⟩ := id hit
  unfold pyNext
  refine wpAny_bind (wpAny_attempt (wpAny_callSpecial?_slot (name := Str.ofString "__next__") hit.typeIs F.slot_dict_keyiterator_next
    (wpAny_call_entry F.slot_dict_keyiterator_next hit.typeIs F.entry_dict_keyiterator_next ?_ (F.args_dict_keyiterator_next_1 _))))
  refine wpAny_bind (wpAny_pure ?_)
  refine wpAny_bind ?_
  refine wpAny_bind ?_
  first | refine wpAny_bind (wpAny_typeNameOfWhole_keyiter hit.typeIs (wpAny_pure ?_)) | refine wpAny_bind (wpAny_typeNameOf_keyiter hit.typeIs (wpAny_pure ?_))
  refine wpAny_bind (wpAny_fieldsOf ho hd ?_)
  have hown : Builtin.Dict_items.ownsTuple "dict_keyiterator" = false := by decide
  simp only [hown, Bool.false_eq_true, if_false]
  show wpAny _ _ (if (Value.ref d == Value.none) = true then _ else _) _ _ s
  rw [if_neg (show ¬ ((Value.ref d == Value.none) = true) from Bool.false_ne_true)]
  refine wpAny_bind (wpAny_pure ?_)
  refine wpAny_bind (wpAny_dictEntries hod hdd ?_)
  rw [if_neg (by rw [hsz]; simp)]
  refine wpAny_bind (wpAny_pure ?_)
  refine wpAny_bind (wpAny_dictEpoch hod hdd ?_)
  rw [if_neg (by simp)]
  refine wpAny_pure ?_
  obtain ⟨hlt', hen⟩ := Array.getElem?_eq_some_iff.mp hx
  simp only [show ¬ ((i : Int) < 0) from by omega, if_false, Int.toNat_natCast, Array.getElem?_eq_getElem hlt']
  refine wpAny_bind ?_
  first | refine wpAny_bind (wpAny_typeNameOfWhole_keyiter hit.typeIs (wpAny_pure ?_)) | refine wpAny_bind (wpAny_typeNameOf_keyiter hit.typeIs (wpAny_pure ?_))
  refine wpAny_bind (wpAny_isOneOf_keyiter hit.typeIs ?_)
  show wpAny _ _ (setField (.ref it) 1 (rawInt ((i : Int) + 1)) >>= _) _ _ s
  refine wpAny_bind (wpAny_setField ho hd (by simp) ?_)
  have hit' : (s.heap.update it (Obj.mapFields (·.setIfInBounds 1 (rawInt ((i : Int) + 1))))).IsKeyIter it d (i + 1) n ep :=
    ⟨_, Heap.get?_update_self _ ho (Obj.isFreed_of_fields (Obj.data_mapFields hd _)), (Obj.cls_mapFields ..).trans hc, by rw [Obj.data_mapFields hd]; simp [rawInt]⟩
  refine wpAny_bind (wpAny_holding ?_)
  refine wpAny_bind (wpAny_isOneOf_keyiter (s := { s with heap := s.heap.update it (Obj.mapFields (·.setIfInBounds 1 (rawInt ((i : Int) + 1)))) }) hit'.typeIs ?_)
  show wpAny _ _ (pure es[i].key) _ _ _
  rw [hen]
  exact wpAny_pure (wpAny_pure ⟨_, rfl, wpAny_pure (hQ _ hit' (Heap.SameBut.update ..))⟩)
theorem next_key_end {it d : Addr} {i n ep : Nat} {od : Obj} {es : Array DictEntry} {Q : Option Value → Shared → Prop} (hh : A.handled = none) (hit : s.heap.IsKeyIter it d i n ep) (hod : s.heap.get? d = some od) (hdd : od.data = .dict es ep)
    (hsz : es.size = n) (hge : n ≤ i) (hQ : ∀ h', Heap.ExtBut it s.heap h' → Q none { s with heap := h' }) : wpAny (model prog w) A (pyNext (.ref it)) Q E s := by
  obtain ⟨o, ho, hc, hd⟩ := id hit
  unfold pyNext
  refine wpAny_bind (wpAny_attempt (wpAny_callSpecial?_slot (name := Str.ofString "__next__") hit.typeIs F.slot_dict_keyiterator_next
    (wpAny_call_entry F.slot_dict_keyiterator_next hit.typeIs F.entry_dict_keyiterator_next ?_ (F.args_dict_keyiterator_next_1 _))))
  refine wpAny_bind (wpAny_pure ?_)
  refine wpAny_bind ?_
  refine wpAny_bind ?_
  first | refine wpAny_bind (wpAny_typeNameOfWhole_keyiter hit.typeIs (wpAny_pure ?_)) | refine wpAny_bind (wpAny_typeNameOf_keyiter hit.typeIs (wpAny_pure ?_))
  refine wpAny_bind (wpAny_fieldsOf ho hd ?_)
  have hown : Builtin.Dict_items.ownsTuple "dict_keyiterator" = false := by decide
  simp only [hown, Bool.false_eq_true, if_false]
  show wpAny _ _ (if (Value.ref d == Value.none) = true then _ else _) _ _ s
  rw [if_neg (show ¬ ((Value.ref d == Value.none) = true) from Bool.false_ne_true)]
  refine wpAny_bind (wpAny_pure ?_)
  refine wpAny_bind (wpAny_dictEntries hod hdd ?_)
  rw [if_neg (by rw [hsz]; simp)]
  refine wpAny_bind (wpAny_pure ?_)
  refine wpAny_bind (wpAny_dictEpoch hod hdd ?_)
  rw [if_neg (by simp)]
  refine wpAny_pure ?_
  have hge' : es.size ≤ i := by rw [hsz]; exact hge
  simp only [show ¬ ((i : Int) < 0) from by omega, if_false, Int.toNat_natCast, Array.getElem?_eq_none hge']
  refine wpAny_bind ?_
  first | refine wpAny_bind (wpAny_typeNameOfWhole_keyiter hit.typeIs (wpAny_pure ?_)) | refine wpAny_bind (wpAny_typeNameOf_keyiter hit.typeIs (wpAny_pure ?_))
  show wpAny _ _ (setField (.ref it) 0 .none >>= _) _ _ s
  refine wpAny_bind (wpAny_setField ho hd (by simp) ?_)
  show wpAny _ _ (newExc (.type "StopIteration") [] >>= _) _ _ _
  refine wpAny_bind ?_
  simp only [newExc, newTuple]
  refine wpAny_bind (wpAny_newObj_type ?_ (by size_fits))
  refine wpAny_bind (m := firstArgMember _ _) (wpAny_of_eq (a := Value.none) (by first | rfl | (simp only [firstArgMember]; rfl)) ?_)
  refine wpAny_newObj_type ?_ (by size_fits)
  simp only [raiseNew]
  refine wpAny_bind (wpAny_handled ?_)
  rw [show A.in1.handled = none from hh]
  refine wpAny_bind (wpAny_pure (wpAny_throw ?_))
  refine wpAny_bind (wpAny_isInstance (T := "StopIteration") (b := true) ⟨_, Heap.get?_push_size _ rfl, rfl⟩ isSubtype_stop ?_)
  exact wpAny_pure (hQ _ (((Heap.SameBut.update ..).extBut.push _).push _))
end

theorem kv_get {κ : Type} {kvs : List (κ × V)} {vs : List (κ × Value)} (h : KV kvs vs) : ∀ {i : Nat} {k : κ} {v : V}, kvs[i]? = some (k, v) → ∃ u, vs[i]? = some (k, u) ∧ RelV v u := by
  unfold KV at h
  induction h with
  | nil => intro i k v e; simp at e
  | @cons a b l₁ l₂ r t ih =>
    intro i k v e
    cases i with
    | zero =>
      simp only [List.getElem?_cons_zero, Option.some.injEq] at e
      subst e
      refine ⟨b.2, ?_, r.2⟩
      simp only [List.getElem?_cons_zero]
      exact congrArg some (Prod.ext r.1.symm rfl)
    | succ j =>
      simp only [List.getElem?_cons_succ] at e ⊢
      exact ih e
theorem paired_get {α β : Type} {G : α → β → Prop} {l₁ : List α} {l₂ : List β} (h : Paired G l₁ l₂) : ∀ {i : Nat} {a : α}, l₁[i]? = some a → ∃ b, l₂[i]? = some b ∧ G a b := by
  induction h with
  | nil => intro i a e; simp at e
  | @cons a b l₁ l₂ r t ih =>
    intro i a' e
    cases i with
    | zero =>
      simp only [List.getElem?_cons_zero, Option.some.injEq] at e
      subst e
      exact ⟨b, rfl, r⟩
    | succ j =>
      simp only [List.getElem?_cons_succ] at e ⊢
      exact ih e
theorem relV_key {k : Key} {u : Value} (h : keyIs k u = true) : RelV (kV k) u := by
  rcases keyIs_shape h with ⟨i, t, rfl, rfl⟩ | ⟨x, t, rfl, rfl⟩
  · exact ⟨t, rfl⟩
  · exact ⟨t, rfl⟩
section
variable {X : Cx} {pins : List (Addr × Obj)} {σ : St} {H : Hp} {s : Shared} {d : Addr} {o : Obj}
theorem Inv.frzK {kvs : List (Key × V)} (I : Inv X pins σ H s) (h : H d = some (.frz o (.dK kvs))) :
    (d == sysModules) = false ∧ s.heap.get? d = some o ∧ o.ExactDict ∧ ∃ (es : Array DictEntry) (ep : Nat) (vs : List (Key × Value)), o.data = .dict es ep ∧ es.size = kvs.length ∧ KV kvs vs ∧ s.heap.DictAt (mixKind X.prog X.w) d vs ep := by
  obtain ⟨hd, z, hs, vs, kv, o', es, ep, ho, hx, hdt, r⟩ := I.hok d _ h
  rw [hd] at ho
  cases ho
  refine ⟨hs, hd, hx, es, ep, vs, hdt, ?_, kv, o, es, hd, hx, hdt, r⟩
  have l1 := r.2.1.length
  have l2 : kvs.length = vs.length := Paired.length kv
  rw [Array.length_toList] at l1
  omega
theorem Inv.frzT {kvs : List (List Key × V)} (I : Inv X pins σ H s) (h : H d = some (.frz o (.dT kvs))) :
    (d == sysModules) = false ∧ s.heap.get? d = some o ∧ o.ExactDict ∧ ∃ (es : Array DictEntry) (ep : Nat), o.data = .dict es ep ∧ es.size = kvs.length ∧
      ∀ (i : Nat) (k : List Key) (v : V), kvs[i]? = some (k, v) → ∃ (en : DictEntry) (q : Addr), es[i]? = some en ∧ en.key = .ref q ∧ H q = some (.tup (k.map kV)) := by
  obtain ⟨hd, z, hs, xs, pr, o', es, ep, ho, hx, hdt, he, _⟩ := I.hok d _ h
  rw [hd] at ho
  cases ho
  refine ⟨hs, hd, hx, es, ep, hdt, ?_, fun i k v e => ?_⟩
  · have l1 : es.size = xs.length := size_of_entries he
    have l2 : kvs.length = xs.length := Paired.length pr
    omega
  · obtain ⟨b, hb, e1, e2, _⟩ := paired_get pr e
    have q := entry_at he i
    rw [hb] at q
    exact ⟨_, b.2.1, q, rfl, e2⟩
end

def Itk (d : Addr) (o : Obj) (kvs : List (Key × V)) : It :=
  ⟨fun i H => H d = some (.frz o (.dK kvs)) ∧ i < kvs.length, fun i H x H' => H' = H ∧ ∃ k v, kvs[i]? = some (k, v) ∧ x = kV k, fun i H => H d = some (.frz o (.dK kvs)) ∧ kvs.length ≤ i⟩
def Itkt (d : Addr) (o : Obj) (kvs : List (List Key × V)) : It :=
  ⟨fun i H => H d = some (.frz o (.dT kvs)) ∧ i < kvs.length, fun i H x H' => H' = H ∧ ∃ (k : List Key) (v : V) (q : Addr), kvs[i]? = some (k, v) ∧ x = .ref q ∧ H q = some (.tup (k.map kV)), fun i H => H d = some (.frz o (.dT kvs)) ∧ kvs.length ≤ i⟩
theorem dict_ep {o : Obj} {es es' : Array DictEntry} {ep ep' : Nat} (h : o.data = .dict es ep) (h' : o.data = .dict es' ep') : es' = es ∧ ep' = ep := by
  rw [h] at h'
  cases h'
  exact ⟨rfl, rfl⟩
section
variable {P : Program} {w : World} {K : PySem.W.Frag} {tg : Expr} {d : Addr} {o : Obj} {es : Array DictEntry} {ep : Nat}
theorem turn_keys {kvs : List (Key × V)} (it : Addr) (hod : o.data = .dict es ep) : Turn P w K tg (Itk d o kvs) [it] it (fun i h => h.IsKeyIter it d i kvs.length ep) where
  mem := by simp
  obj := fun i h st b hb => by
    have e : b = it := by simpa using hb
    subst e
    obtain ⟨oi, e, c, dd⟩ := st
    exact ⟨oi, e, fun v z => by rw [dd] at z; cases z⟩
  keep := fun i h h' st k => st.at fun oi e => k it (by simp) oi e
  item := by
    intro X hP hw hK hc i pins s σ H E I hf st hg
    subst hP hw hK
    obtain ⟨hd, hi⟩ := hg
    obtain ⟨f0, f1, f2, f3, f4, f5⟩ := hf it (by simp)
    obtain ⟨hs, hgd, hx, es', ep', vs, hdt, hsz, kv, hm⟩ := I.frzK hd
    obtain ⟨rfl, rfl⟩ := dict_ep hod hdt
    obtain ⟨⟨k, v⟩, hkv⟩ : ∃ p, kvs[i]? = some p := ⟨kvs[i], List.getElem?_eq_getElem hi⟩
    obtain ⟨u, hu, ru⟩ := kv_get kv hkv
    have hl : kvs.length = vs.length := Paired.length kv
    rw [hl] at st
    refine wpAny_pyNext_dict_item st hm hu fun key h' hkey st' sb => ?_
    have I1 : Inv X pins σ H { s with heap := h' } := I.turned (t' := s.toks) (fun b ob hb e => (sb.2 b hb).trans e) f0 f1 f3 f4 f5
    obtain ⟨oi, e, c, dd⟩ := id st'
    refine ⟨key, rfl, go_of (s := { s with heap := h' }) e c dd (by decide) ⟨kV k, H, I1, relV_key (show keyIs k key = true from hkey), ⟨rfl, k, v, hkv, rfl⟩, ?_, fun b hb => (hf b hb).1⟩⟩
    show h'.IsKeyIter it d (i + 1) kvs.length _
    rw [hl]
    exact st'
  done := by
    intro X hP hw hK hc i pins s σ H E I hf st hg
    subst hP hw hK
    obtain ⟨hd, hi⟩ := hg
    obtain ⟨f0, f1, f2, f3, f4, f5⟩ := hf it (by simp)
    obtain ⟨hs, hgd, hx, es', ep', vs, hdt, hsz, kv, hm⟩ := I.frzK hd
    obtain ⟨rfl, rfl⟩ := dict_ep hod hdt
    exact next_key_end (I.ok.hd hc) st hgd hdt hsz hi fun h' eb => ⟨rfl, I.turned (t' := s.toks) (fun b ob hb e => eb b ob hb e) f0 f1 f3 f4 f5⟩
  self := fun A i s Q E st h => wpAny_pyIter_keyiter st h
theorem turn_keysT {kvs : List (List Key × V)} (it : Addr) (hod : o.data = .dict es ep) : Turn P w K tg (Itkt d o kvs) [it] it (fun i h => h.IsKeyIter it d i kvs.length ep) where
  mem := by simp
  obj := fun i h st b hb => by
    have e : b = it := by simpa using hb
    subst e
    obtain ⟨oi, e, c, dd⟩ := st
    exact ⟨oi, e, fun v z => by rw [dd] at z; cases z⟩
  keep := fun i h h' st k => st.at fun oi e => k it (by simp) oi e
  item := by
    intro X hP hw hK hc i pins s σ H E I hf st hg
    subst hP hw hK
    obtain ⟨hd, hi⟩ := hg
    obtain ⟨f0, f1, f2, f3, f4, f5⟩ := hf it (by simp)
    obtain ⟨hs, hgd, hx, es', ep', hdt, hsz, ent⟩ := I.frzT hd
    obtain ⟨rfl, rfl⟩ := dict_ep hod hdt
    obtain ⟨⟨k, v⟩, hkv⟩ : ∃ p, kvs[i]? = some p := ⟨kvs[i], List.getElem?_eq_getElem hi⟩
    obtain ⟨en, q, hen, hkey, hq⟩ := ent i k v hkv
    refine next_key_item st hgd hdt hsz hen fun h' st' sb => ?_
    have I1 : Inv X pins σ H { s with heap := h' } := I.turned (t' := s.toks) (fun b ob hb e => (sb.2 b hb).trans e) f0 f1 f3 f4 f5
    obtain ⟨oi, e, c, dd⟩ := id st'
    exact ⟨en.key, rfl, go_of (s := { s with heap := h' }) e c dd (by decide) ⟨.ref q, H, I1, hkey, ⟨rfl, k, v, q, hkv, rfl, hq⟩, st', fun b hb => (hf b hb).1⟩⟩
  done := by
    intro X hP hw hK hc i pins s σ H E I hf st hg
    subst hP hw hK
    obtain ⟨hd, hi⟩ := hg
    obtain ⟨f0, f1, f2, f3, f4, f5⟩ := hf it (by simp)
    obtain ⟨hs, hgd, hx, es', ep', hdt, hsz, ent⟩ := I.frzT hd
    obtain ⟨rfl, rfl⟩ := dict_ep hod hdt
    exact next_key_end (I.ok.hd hc) st hgd hdt hsz hi fun h' eb => ⟨rfl, I.turned (t' := s.toks) (fun b ob hb e => eb b ob hb e) f0 f1 f3 f4 f5⟩
  self := fun A i s Q E st h => by
    refine wpAny_pyIter_slot st.typeIs F.slot_dict_keyiterator_iter (wpAny_call_entry F.slot_dict_keyiterator_iter st.typeIs F.entry_dict_keyiterator_iter ?_ (F.args_dict_keyiterator_iter_1 _))
    show wpAny _ _ (ret (.ref it)) _ _ s
    exact wpAny_pure ⟨_, rfl, "dict_keyiterator", _, st.typeIs, F.slot_dict_keyiterator_next.lookup, h⟩
end

def iKeys (td : TE) : TI := fun σ H R => td σ H fun x H1 => ∃ d o, x = .ref d ∧ ((∃ kvs, H1 d = some (.frz o (.dK kvs)) ∧ R (Itk d o kvs) H1) ∨ ∃ kvs, H1 d = some (.frz o (.dT kvs)) ∧ R (Itkt d o kvs) H1)
section
variable {X : Cx} {tg e : Expr} {td : TE} {apos cpos : Pos}
theorem pi_keys (he : PE X e td) : PI X tg e (iKeys td) := by
  intro pins s σ H R I h
  refine thn (he pins s σ H _ I h) fun u s1 ⟨x, H1, I1, rx, d, o, ex, q⟩ => ?_
  subst ex
  obtain rfl : u = Value.ref d := rx
  rcases q with ⟨kvs, hd, q⟩ | ⟨kvs, hd, q⟩
  · obtain ⟨hs, hgd, hx, es, ep, vs, hdt, hsz, kv, hm⟩ := I1.frzK hd
    refine iter_keys hs hgd hx hdt (pi_one (tk := s1.toks) I1 _ (turn_keys _ hdt) ⟨_, Heap.get?_push_size _ rfl, rfl, ?_⟩ q)
    rw [hsz] <;> rfl
  · obtain ⟨hs, hgd, hx, es, ep, hdt, hsz, ent⟩ := I1.frzT hd
    refine iter_keys hs hgd hx hdt (pi_one (tk := s1.toks) I1 _ (turn_keysT _ hdt) ⟨_, Heap.get?_push_size _ rfl, rfl, ?_⟩ q)
    rw [hsz] <;> rfl
end

def Ite (K : PySem.W.Frag) (a : Addr) : It :=
  ⟨fun i H => ∃ (xs : List V) (x : V), SqL K H a xs ∧ xs[i]? = some x, fun i H v H' => ∃ T x, v = .ref T ∧ H T = none ∧ H' = upd H T (.tup [.int (i : Nat), x]) ∧ ∀ xs, SqL K H a xs → xs[i]? = some x, fun i H => ∃ xs : List V, SqL K H a xs ∧ xs.length ≤ i⟩
theorem turn_enum {P : Program} {w : World} {K : PySem.W.Frag} {elts : List Expr} {kk : Nat} {tpos : Pos} (a e it : Addr) :
    Turn P w K (.Tuple elts kk tpos) (Ite K a) [e, it] e (fun i h => (∃ old, IsEnum h e it ((i : Nat) : Int) old) ∧ h.IsListIter it a i ∧ e ≠ it) where
  mem := by simp
  obj := fun i h st b hb => by
    obtain ⟨⟨old, he⟩, ⟨o, ho, hc, hd⟩, _⟩ := st
    have e' : b = e ∨ b = it := by simpa using hb
    rcases e' with z | z
    · rw [z]; exact ⟨_, he, fun v q => nomatch q⟩
    · rw [z]; exact ⟨o, ho, fun v q => by rw [hd] at q; cases q⟩
  keep := fun i h h' st k => let ⟨⟨old, he⟩, hi, hne⟩ := st; ⟨⟨old, k e (by simp) _ he⟩, hi.at fun o q => k it (by simp) o q, hne⟩
  item := by
    intro X hP hw hK hc i pins s σ H E I hf st hg
    subst hP hw hK
    obtain ⟨⟨old, he⟩, hit, hne⟩ := st
    obtain ⟨xs, x, hq, hx⟩ := hg
    obtain ⟨its, rv, p, hz⟩ := I.list hq
    obtain ⟨u, hu, ru⟩ := rv.get hx
    have hel : e < s.heap.objs.size := Heap.lt_size he
    have hil : it < s.heap.objs.size := by obtain ⟨_, q, _⟩ := hit; exact Heap.lt_size q
    refine wpAny_pyNext_enum_item he hit p.isList (x := u) (by simpa using hu) hne fun h' ho hit' hT hsz hk => ?_
    refine ⟨_, rfl, wpAny_letOwnedTupleGo_enum (s := { s with heap := h', toks := s.toks + 1 }) ho fun h'' he' sb => ?_⟩
    have hT2 : h''.get? s.heap.objs.size = some { cls := .type "tuple", data := .seq #[.int i s.toks, u] } := (sb.2 _ (Nat.ne_of_gt hel)).trans hT
    have new : ObjOk X.prog X.w (upd H s.heap.objs.size (.tup [.int (i : Nat), x])) h'' s.heap.objs.size (.tup [.int (i : Nat), x]) :=
      ⟨by show 2 ≤ sizeLine; decide, [.int i s.toks, u], .cons ⟨_, rfl⟩ (.cons ru .nil), ⟨_, hT2, rfl, _, rfl⟩⟩
    have I1 : Inv X pins σ (upd H s.heap.objs.size (.tup [.int (i : Nat), x])) { s with heap := h'', toks := s.toks + 1 } :=
      I.turnedNew (ch := [e, it]) (fun b ob hb q => (sb.2 b (fun z => hb (by simp [z]))).trans (hk b ob (fun z => hb (by simp [z])) (fun z => hb (by simp [z])) q)) hf (Nat.le_refl _) new
    refine ⟨.ref s.heap.objs.size, _, I1, rfl, ⟨_, x, rfl, I.hok.fresh (Nat.le_refl _), rfl, fun ys hy => by rw [I.list_inj hy hq]; exact hx⟩, ⟨⟨u, ?_⟩, hit'.at fun o q => (sb.2 it (Ne.symm hne)).trans q, hne⟩, fun b hb => ?_⟩
    · have e1 : ((i + 1 : Nat) : Int) = (i : Int) + 1 := by omega
      rw [e1]; exact he'
    · have hb' : b < s.heap.objs.size := by
        have e' : b = e ∨ b = it := by simpa using hb
        rcases e' with z | z
        · rw [z]; exact hel
        · rw [z]; exact hil
      rw [upd_ne (Nat.ne_of_lt hb')]
      exact (hf b hb).1
  done := by
    intro X hP hw hK hc i pins s σ H E I hf st hg
    subst hP hw hK
    obtain ⟨⟨old, he⟩, hit, hne⟩ := st
    obtain ⟨xs, hq, hx⟩ := hg
    obtain ⟨its, rv, p, hz⟩ := I.list hq
    obtain ⟨f0, f1, f2, f3, f4, f5⟩ := hf it (by simp)
    have hl := rv.length
    exact wpAny_pyNext_enum_end (I.ok.hd hc) he hit p.isList (by simp; omega) fun h' eb => ⟨rfl, I.turned (t' := s.toks) (fun b o hb q => eb b o hb q) f0 f1 f3 f4 f5⟩
  self := fun A i s Q E st h => let ⟨⟨_, he⟩, _⟩ := st; wpAny_pyIter_enum he h
def iEnum (K : PySem.W.Frag) (ta : TA) : TI := fun σ H R => ta σ H fun vs H1 => ∃ a xs, vs = [.ref a] ∧ SqL K H1 a xs ∧ R (Ite K a) H1
theorem pi_enum {X : Cx} {e : Expr} {ta : TA} {p pos tpos : Pos} {elts : List Expr} {kk : Nat} (hg : Gl X "enumerate") (hm : X.mg "enumerate" = none) (ha : PA X [e] ta) (hs : starEach [e] X.env = [(false, eval e X.env)] := by rfl) :
    PI X (.Tuple elts kk tpos) (.Call (.Name "enumerate" p) [e] [] pos) (iEnum X.K ta) := by
  intro pins s σ H R I h
  refine Call_ (ld_blt I hg hm boot_enumerate (PyProof.Rows.callWith_type1 (thn (ha pos pins s σ H _ I h) fun us s1 ⟨vs, H1, I1, r1, q1⟩ => ?_) hs rfl))
  obtain ⟨a, xs, ex, hq, q⟩ := q1
  subst ex
  cases r1 with
  | cons r rr =>
    cases rr
    cases r
    obtain ⟨its, rv, p', hz⟩ := I1.list hq
    refine call_enumerate_list p'.isList fun h' he hit hsz hk => wpAny_pyIter_enum he ?_
    have I2 : Inv X pins σ H1 { s1 with heap := h' } := I1.kept (t' := s1.toks) hk
    refine ⟨s1.heap.objs.size + 1, [s1.heap.objs.size + 1, s1.heap.objs.size], _, _, H1, rfl, I2, turn_enum a (s1.heap.objs.size + 1) s1.heap.objs.size, ⟨⟨.none, he⟩, hit, Nat.succ_ne_self _⟩, fun b hb => ?_, q⟩
    have e' : b = s1.heap.objs.size + 1 ∨ b = s1.heap.objs.size := by simpa using hb
    have hle : s1.heap.objs.size ≤ b := by
      rcases e' with z | z
      · rw [z]; exact Nat.le_add_right _ _
      · rw [z]; exact Nat.le_refl _
    exact I1.fpOk hle (I1.hok.fresh hle)
end L2

section 
namespace Bits
open PySem PyProof.Rows

end Bits
end 

section 
namespace TL
open PySem PySem.Builtin PySem.Builtin.Str PySem.StrLaws

abbrev tl (x : Str) : List Nat := x.cps.toList
def pre (S l : List Nat) : Bool := l.take S.length == S
def par (S : List Nat) : List Nat → List Nat → Option (List Nat × List Nat)
  | _, [] => none
  | acc, c :: r => if pre S (c :: r) = true then some (acc, (c :: r).drop S.length) else par S (acc ++ [c]) r

end TL
end 

namespace L2
open PySem PySem.Spec PyProof.Rows

section
variable {X : Cx} {pins : List (Addr × Obj)} {σ : St} {H : Hp} {s : Shared} {Q : VK}
end

section
variable {X : Cx}

end

section
variable {X : Cx} {o e : Expr} {to te : TE}
end
end L2

namespace L2
open PySem PySem.Spec PyProof.Rows

section
variable {X : Cx}
end

theorem IsPart.raw {v : Value} {o : Option Int} (p : IsPart v o) : ∃ l : Option (Int × Tok), v = partValue l ∧ l.map (·.1) = o := by
  cases p with
  | none => exact ⟨none, rfl, rfl⟩
  | int i t => exact ⟨some (i, t), rfl, rfl⟩

end L2

namespace Att
open PySem PySem.W PySem.Calls PyProof.Rows

section
variable {prog : Program} {w : World} {A : Around} {E : Value → Shared → Prop} {s : Shared} {K : Frag}

end
end Att

namespace L2
open PySem PySem.Spec PyProof.Rows

end L2

namespace L2
open PySem PySem.Spec PyProof.Rows

end L2


namespace L2
open PySem PySem.Spec PyProof.Rows

def inClass (s : Stmt) (j : Nat) : Stmt := match s with
  | .ClassDef _ _ _ body _ _ _ _ _ _ _ => body.getD j (.Pass ⟨0, 0, 0, 0⟩)
  | _ => .Pass ⟨0, 0, 0, 0⟩
def defArgs (s : Stmt) : Arguments := match s with
  | .FunctionDef _ a _ _ _ _ _ _ _ _ => a
  | _ => { posonlyargs := [], args := [], vararg := none, kwonlyargs := [], kw_defaults := [], kwarg := none, defaults := [] }
def defBody (s : Stmt) : List Stmt := match s with
  | .FunctionDef _ _ b _ _ _ _ _ _ _ => b
  | _ => []
def defScope (s : Stmt) : Scope := match s with
  | .FunctionDef _ _ _ _ _ _ sc _ _ _ => sc
  | _ => { kind := .function, names := [], isGenerator := false, isCoroutine := false }

abbrev CX0 : CXT := fun _ _ _ _ _ _ => False
abbrev E0 : XK := fun _ _ _ => False
theorem pass0 {X : Cx} : Passes CX0 X E0 := fun _ _ _ _ _ _ _ h => h.elim

structure Fun (K : PySem.W.Frag) (x qual : Str) (st : Stmt) (f : Addr) (fd : FuncData) : Prop where
  ex : ∃ (oc : Value) (od : Option Addr) (kV doc pm : Value) (an : Option Addr) (cdv ct : Value) (osl : Array (Option Value)),
    fd = PySem.W.fnOf x qual (defArgs st) (defBody st) (defScope st) .none kV doc pm an cdv ct ∧ K.lookup f = some ⟨oc, od, .func fd, osl⟩ ∧ PySem.W.codeIn K cdv qual = true
  kp : PySem.W.keepIn K (.ref f) = true
section
variable {P : Program} {w : World} {K : PySem.W.Frag} {mg : Str → Option Value} {base : Heap}
theorem Fun.ok {x qual : Str} {st : Stmt} {f : Addr} {fd : FuncData} {N ps : List Str} {k : Nat} {sp : Sp} (F : Fun K x qual st f fd) (S : FnScope N ps (defScope st)) (len : ∀ vs H Q E, sp vs H Q E → vs.length = ps.length)
    (hbody : ∀ (cdv : Value) (A : Around) (outer : List Env) (s : Shared) (H : Hp) (vs : List V) (Q : VK) (E : XK), Room k (A.deeper (envOfC qual (defScope st) s.heap.objs.size f cdv)) → sp vs H Q E →
      ∃ t, PSs (cxOf CX0 P w K mg base N qual (defScope st) f cdv A outer s H E).nox (defBody st) t ∧ t { nx := fun _ H' => Q .non H', rt := Q } (start N vs) H) : FnOk P w K mg base CX0 (k + 1) f fd ps sp := by
  obtain ⟨oc, od, kV, doc, pm, an, cdv, ct, osl, rfl, lk, hcd⟩ := F.ex
  refine fn_of lk hcd S len fun A outer s H vs Q E hr hsp => ?_
  obtain ⟨t, h, q⟩ := hbody cdv A outer s H vs Q E hr hsp
  exact ⟨t, h.nox, q⟩
theorem Fun.binds {x qual : Str} {st : Stmt} {f : Addr} {fd : FuncData} {ps : List Str} (F : Fun K x qual st f fd)
    (h : ∀ (kV doc pm : Value) (an : Option Addr) (cdv ct : Value) (us : List Value), us.length = ps.length → bindArgs (PySem.W.fnOf x qual (defArgs st) (defBody st) (defScope st) .none kV doc pm an cdv ct) ⟨us, []⟩ = pure (ps.zip us)) : Binds K fd ps [] := by
  obtain ⟨oc, od, kV, doc, pm, an, cdv, ct, osl, rfl, lk, hcd⟩ := F.ex
  exact .all (h kV doc pm an cdv ct)
theorem fun_mk {x qual : Str} {st : Stmt} {f : Addr} {oc : Value} {od an : Option Addr} {osl : Array (Option Value)} {kV doc pm cdv ct : Value} (l : K.lookup f = some ⟨oc, od, .func (PySem.W.fnOf x qual (defArgs st) (defBody st) (defScope st) .none kV doc pm an cdv ct), osl⟩)
    (c : PySem.W.codeIn K cdv qual = true) (k : PySem.W.keepIn K (.ref f) = true) : Fun K x qual st f (PySem.W.fnOf x qual (defArgs st) (defBody st) (defScope st) .none kV doc pm an cdv ct) := ⟨⟨oc, od, kV, doc, pm, an, cdv, ct, osl, rfl, l, c⟩, k⟩
end
theorem hu_of {A : Around} {k : Nat} (hr : Room k A) : A.units + 1 < cLine := Nat.lt_of_le_of_lt (Nat.add_le_add_left (by decide : 1 ≤ 64) _) hr.units
section
variable {X : Cx}
theorem pv (i : Nat) {x : Str} {pos : Pos} (hN : X.N[i]? = some x := by rfl) (hv : Vis X.env.scope x := by first | exact Or.inl rfl | exact Or.inr (Or.inl rfl) | exact Or.inr (Or.inr rfl)) (hd : (x == ("__debug__" : Str)) = false := by decide)
    (hcd : (x == ("__classdict__" : Str)) = false := by decide) : PE X (.Name x pos) (tVar i) := pe_var hN hv hd hcd
end

theorem iteF {A B : Prop} (h : B) : if false = true then A else B := by
  rw [if_neg Bool.false_ne_true]
  exact h
theorem iteT {A B : Prop} (h : A) : if true = true then A else B := by
  rw [if_pos rfl]
  exact h
theorem ite2 {c A B : Prop} [Decidable c] (h1 : c → A) (h2 : ¬ c → B) : if c then A else B := by
  by_cases h : c
  · rw [if_pos h]
    exact h1 h
  · rw [if_neg h]
    exact h2 h
def Same (H H' : Hp) : Prop := ∀ b o, H b = some o → H' b = some o
theorem Same.refl (H : Hp) : Same H H := fun _ _ h => h
theorem Same.trans {H H1 H2 : Hp} (a : Same H H1) (b : Same H1 H2) : Same H H2 := fun c o h => b c o (a c o h)
theorem Same.free {H H' : Hp} (e : Same H H') {l : Addr} (h : H' l = Option.none) : H l = Option.none := by
  cases q : H l with
  | none => rfl
  | some o =>
    rw [e l o q] at h
    cases h
theorem Same.seq {K : PySem.W.Frag} {H H' : Hp} {a : Addr} {xs : List V} (e : Same H H') (h : SqL K H a xs) : SqL K H' a xs := by
  rcases h with (h | ⟨o, h⟩) | h
  · exact .inl (.inl (e _ _ h))
  · exact .inl (.inr ⟨o, e _ _ h⟩)
  · exact .inr h

section
variable {κ : Type} [DecidableEq κ]
end
theorem Same.made {H H1 : Hp} {x dx C : Addr} (nx : H x = Option.none) (nd : H dx = Option.none) (k : ∀ b o, (upd (upd H dx (.own x)) x (.ins C dx [])) b = some o → b ≠ x → H1 b = some o) : Same H H1 := fun b o e =>
  k b o (by rw [upd_ne (ne_of_none e nx), upd_ne (ne_of_none e nd)]; exact e) (ne_of_none e nx)
end L2

section
set_option Elab.async false
set_option linter.all false
set_option maxRecDepth 100000
set_option maxHeartbeats 2000000
namespace L2
open PySem PySem.Spec PyProof.Rows
open PySem.W (WData Codec OpenSpec Well WellAll ReadsW ReadsAllW)
mutual
/-- x stands for the datum d, lists and tuples all the way -/
inductive Dw (K : PySem.W.Frag) (H : Hp) : V → WData → Prop
  | non : Dw K H .non .none
  | bl (b : Bool) : Dw K H (.bl b) (.bool b)
  | int (i : Int) : Dw K H (.int i) (.int i)
  | str (x : Str) : Dw K H (.str x) (.str x)
  | byt (b : Array UInt8) : Dw K H (.byt b) (.bytes b.toList)
  | lst {a : Addr} {xs : List V} {ds : List WData} : SqL K H a xs → DwAll K H xs ds → Dw K H (.ref a) (.list ds)
  | tup {a : Addr} {xs : List V} {ds : List WData} : SqT K H a xs → DwAll K H xs ds → Dw K H (.ref a) (.tuple ds)
inductive DwAll (K : PySem.W.Frag) (H : Hp) : List V → List WData → Prop
  | nil : DwAll K H [] []
  | cons {v : V} {vs : List V} {d : WData} {ds : List WData} : Dw K H v d → DwAll K H vs ds → DwAll K H (v :: vs) (d :: ds)
end
theorem dw_ints {K : PySem.W.Frag} {H : Hp} : ∀ ns : List Int, DwAll K H (ns.map V.int) (ns.map WData.int)
  | [] => .nil
  | n :: r => .cons (.int n) (dw_ints r)
theorem ints_dw {K : PySem.W.Frag} {H : Hp} : ∀ (ns : List Int) (xs : List V), DwAll K H xs (ns.map WData.int) → xs = ns.map V.int
  | [], xs, h => by
    cases h
    rfl
  | n :: r, xs, h => by
    cases h with
    | cons h1 h2 =>
      cases h1
      rw [ints_dw r _ h2] <;> rfl
section
variable {P : Program} {w : World} {K : PySem.W.Frag} {H : Hp} {h : Heap} {R : PySem.W.WRecords} {cl : Str → Option Addr}
theorem sqL_at {a : Addr} {xs : List V} (hok : HOk P w H h) (KX : K.In h) (q : SqL K H a xs) : ∃ (its : List Value) (o : Obj) (n : Nat), Vals xs its ∧ h.get? a = some o ∧ o.cls = .type "list" ∧ o.data = .seq its.toArray n := by
  rcases q with q | ⟨o, its, n, e, hc, _, hd, _, hv⟩
  · obtain ⟨_, its, n, hv, e⟩ := (show ObjOk P w H h a (.lst xs) from q.ok hok)
    exact ⟨its, _, n, hv, e, rfl, rfl⟩
  · exact ⟨its.toList, o, n, hv, KX _ _ e, hc, by simp [hd]⟩
theorem sqT_at {a : Addr} {xs : List V} (hok : HOk P w H h) (KX : K.In h) (q : SqT K H a xs) : ∃ (its : List Value) (o : Obj) (n : Nat), Vals xs its ∧ h.get? a = some o ∧ o.cls = .type "tuple" ∧ o.data = .seq its.toArray n := by
  rcases q with q | ⟨o, its, n, e, hc, hd, _, hv⟩
  · obtain ⟨_, its, hv, o, e, hc, n, hd⟩ := (show ObjOk P w H h a (.tup xs) from q.ok hok)
    exact ⟨its, o, n, hv, e, hc, hd⟩
  · exact ⟨its.toList, o, n, hv, KX _ _ e, hc, by simp [hd]⟩
mutual
theorem Dw.reads (hok : HOk P w H h) (KX : K.In h) : ∀ (d : WData) (v : V) (u : Value), Dw K H v d → RelV v u → ∃ as, ReadsW R cl h u d as
  | .none, _, _, x, r => by
    cases x
    cases r
    exact ⟨_, ReadsW.none⟩
  | .bool b, _, _, x, r => by
    cases x
    cases r
    exact ⟨_, ReadsW.bool b⟩
  | .int i, _, _, x, r => by
    cases x
    obtain ⟨t, rfl⟩ := r
    exact ⟨_, ReadsW.int i t⟩
  | .str s, _, _, x, r => by
    cases x
    obtain ⟨t, rfl⟩ := r
    exact ⟨_, ReadsW.str s t⟩
  | .bytes b, _, _, x, r => by
    cases x
    obtain ⟨t, rfl⟩ := r
    exact ⟨_, ReadsW.bytes _ t⟩
  | .list ds, _, _, x, r => by
    cases x with
    | lst hs ha =>
      cases r
      obtain ⟨its, o, n, rv, ho, hc, hd⟩ := sqL_at hok KX hs
      obtain ⟨as, hr⟩ := Dw.readsAll hok KX ds _ its ha rv
      exact ⟨_, ReadsW.list ho hc hd hr⟩
  | .tuple ds, _, _, x, r => by
    cases x with
    | tup hs ha =>
      cases r
      obtain ⟨its, o, n, rv, ho, hc, hd⟩ := sqT_at hok KX hs
      obtain ⟨as, hr⟩ := Dw.readsAll hok KX ds _ its ha rv
      exact ⟨_, ReadsW.tuple ho hc hd hr⟩
  | .float _, _, _, x, _ => by cases x
  | .dict _, _, _, x, _ => by cases x
  | .bytearray _, _, _, x, _ => by cases x
  | .set _, _, _, x, _ => by cases x
  | .frozenset _, _, _, x, _ => by cases x
  | .obj _ _, _, _, x, _ => by cases x
theorem Dw.readsAll (hok : HOk P w H h) (KX : K.In h) : ∀ (ds : List WData) (vs : List V) (us : List Value), DwAll K H vs ds → Vals vs us → ∃ as, ReadsAllW R cl h us ds as
  | [], _, _, x, r => by
    cases x
    cases r
    exact ⟨_, ReadsAllW.nil⟩
  | d :: ds, _, _, x, r => by
    cases x with
    | cons h1 h2 =>
      cases r with
      | cons r1 r2 =>
        obtain ⟨as, q1⟩ := Dw.reads hok KX d _ _ h1 r1
        obtain ⟨bs, q2⟩ := Dw.readsAll hok KX ds _ _ h2 r2
        exact ⟨_, ReadsAllW.cons q1 q2⟩
end
end
mutual
/-- data that a codec tells -/
def plW : WData → Bool
  | .none => true
  | .bool _ => true
  | .int _ => true
  | .str _ => true
  | .bytes _ => true
  | .list xs => plWs xs
  | .tuple xs => plWs xs
  | _ => false
def plWs : List WData → Bool
  | [] => true
  | x :: r => plW x && plWs r
end
theorem plWs_map {α : Type} {f : α → WData} (h : ∀ a, plW (f a) = true) : ∀ l : List α, plWs (l.map f) = true
  | [] => rfl
  | x :: r => by
    show (plW (f x) && plWs (r.map f)) = true
    rw [h x, plWs_map h r] <;> rfl
theorem pl_enc : ∀ (c : Codec) (a : c.denote), plW (c.enc a) = true
  | .unit, _ => rfl
  | .bool, _ => rfl
  | .int _ _, _ => rfl
  | .nat _ _, _ => rfl
  | .u8, _ => rfl
  | .bytes _ _, _ => rfl
  | .text _ _ _ _, _ => rfl
  | .list _ _ c, a => plWs_map (fun x => pl_enc c x) a
  | .pair c d, a => by
    show (plW (c.enc a.1) && (plW (d.enc a.2) && true)) = true
    rw [pl_enc c a.1, pl_enc d a.2] <;> rfl
  | .triple c d e, a => by
    show (plW (c.enc a.1) && (plW (d.enc a.2.1) && (plW (e.enc a.2.2) && true))) = true
    rw [pl_enc c a.1, pl_enc d a.2.1, pl_enc e a.2.2] <;> rfl
  | .option c, none => rfl
  | .option c, some x => pl_enc c x
theorem pl_encAll : ∀ (cs : List Codec) (a : Codec.denoteAll cs), plWs (Codec.encAll cs a) = true
  | [], _ => rfl
  | c :: cs, a => by
    show (plW (c.enc a.1) && plWs (Codec.encAll cs a.2)) = true
    rw [pl_enc c a.1, pl_encAll cs a.2] <;> rfl
theorem weight_mem : ∀ {xs : List WData} {d : WData}, d ∈ xs → d.weight ≤ WData.weightAll xs
  | [], d, h => absurd h (by simp)
  | x :: r, d, h => by
    show d.weight ≤ x.weight + 1 + WData.weightAll r
    rcases List.mem_cons.mp h with e | m
    · rw [e]
      omega
    · have z := weight_mem m
      omega
def toV : Value → V
  | .none => .non
  | .bool b => .bl b
  | .int i _ => .int i
  | .str x _ => .str x
  | .bytes b _ => .byt b
  | .ref a => .ref a
  | _ => .non
def OkU (A : List Addr) : Value → Prop
  | .none => True
  | .bool _ => True
  | .int _ _ => True
  | .str _ _ => True
  | .bytes _ _ => True
  | .ref a => a ∈ A
  | _ => False
theorem OkU.mono {A B : List Addr} (h : ∀ a ∈ A, a ∈ B) : ∀ {u : Value}, OkU A u → OkU B u := fun {u} x => by
  cases u with
  | ref a => exact h a x
  | none => trivial
  | bool b => trivial
  | int i t => trivial
  | str s t => trivial
  | bytes b t => trivial
  | _ => exact False.elim x
theorem relV_toV {A : List Addr} {u : Value} (x : OkU A u) : RelV (toV u) u := by
  cases u with
  | ref a => rfl
  | none => rfl
  | bool b => rfl
  | int i t => exact ⟨t, rfl⟩
  | str s t => exact ⟨t, rfl⟩
  | bytes b t => exact ⟨t, rfl⟩
  | _ => exact False.elim x
theorem vals_toV {A : List Addr} : ∀ {vs : List Value}, (∀ u ∈ vs, OkU A u) → Vals (vs.map toV) vs
  | [], _ => .nil
  | u :: r, h => .cons (relV_toV (h u (List.mem_cons_self ..))) (vals_toV fun x hx => h x (List.mem_cons_of_mem _ hx))
def ArgOb (h : Heap) (A : List Addr) (a : Addr) : Prop := ∃ vs : List Value, vs.length ≤ sizeLine ∧ (∀ u ∈ vs, OkU A u) ∧
  (h.get? a = some { cls := .type "list", data := .seq vs.toArray } ∨ h.get? a = some { cls := .type "tuple", data := .seq vs.toArray })
theorem ArgOb.mono {h : Heap} {A B : List Addr} {a : Addr} (k : ∀ a ∈ A, a ∈ B) (x : ArgOb h A a) : ArgOb h B a := by
  obtain ⟨vs, h1, h2, h3⟩ := x
  exact ⟨vs, h1, fun u hu => (h2 u hu).mono k, h3⟩
theorem wellAll_len {P : Params} {h : Heap} : ∀ {vs : List Value} {ds : List WData}, WellAll P h vs ds → vs.length = ds.length
  | _, _, .nil => rfl
  | _, _, .cons _ b => by
    show _ + 1 = _ + 1
    rw [wellAll_len b]
theorem well_list {P : Params} {h : Heap} {v : Value} {ds : List WData} (x : Well P h v (.list ds)) : ∃ (a : Addr) (vs : List Value), v = .ref a ∧ h.get? a = some { cls := .type "list", data := .seq vs.toArray } ∧ WellAll P h vs ds := by
  cases x with
  | list ho hall => exact ⟨_, _, rfl, ho, hall⟩
theorem well_tuple {P : Params} {h : Heap} {v : Value} {ds : List WData} (x : Well P h v (.tuple ds)) : ∃ (a : Addr) (vs : List Value), v = .ref a ∧ h.get? a = some { cls := .type "tuple", data := .seq vs.toArray } ∧ WellAll P h vs ds := by
  cases x with
  | tuple ho hall => exact ⟨_, _, rfl, ho, hall⟩
theorem well_cons {P : Params} {h : Heap} {us : List Value} {d : WData} {ds : List WData} (x : WellAll P h us (d :: ds)) : ∃ (v : Value) (vs : List Value), us = v :: vs ∧ Well P h v d ∧ WellAll P h vs ds := by
  cases x with
  | cons a b => exact ⟨_, _, rfl, a, b⟩
theorem line_of {n : Nat} (h : n ≤ 1048576) : n ≤ sizeLine := Nat.le_trans h (by decide)
section
variable {P : Params} {h : Heap}
mutual
theorem area_one : ∀ (d : WData) (v : Value), Well P h v d → plW d = true → d.weight ≤ 1048576 → ∃ A : List Addr, OkU A v ∧ ∀ a ∈ A, ArgOb h A a
  | .none, _, x, _, _ => by
    cases x
    exact ⟨[], trivial, fun a m => absurd m (by simp)⟩
  | .bool b, _, x, _, _ => by
    cases x
    exact ⟨[], trivial, fun a m => absurd m (by simp)⟩
  | .int i, _, x, _, _ => by
    cases x
    exact ⟨[], trivial, fun a m => absurd m (by simp)⟩
  | .str s, _, x, _, _ => by
    cases x
    exact ⟨[], trivial, fun a m => absurd m (by simp)⟩
  | .bytes b, _, x, _, _ => by
    cases x
    exact ⟨[], trivial, fun a m => absurd m (by simp)⟩
  | .list ds, _, x, p, z => by
    obtain ⟨a, vs, rfl, ho, hall⟩ := well_list x
    have z2 : WData.weightAll ds ≤ 1048576 := z
    obtain ⟨A, h1, h2⟩ := area_all ds _ hall p fun d hd => Nat.le_trans (weight_mem hd) z2
    have k : ∀ b ∈ A, b ∈ a :: A := fun b hb => List.mem_cons_of_mem _ hb
    refine ⟨a :: A, List.mem_cons_self .., fun b hb => ?_⟩
    rcases List.mem_cons.mp hb with e | m
    · rw [e]
      exact ⟨vs, line_of (by rw [wellAll_len hall]; exact Nat.le_trans (PySem.W.length_le_weightAllW ds) z2), fun u hu => (h1 u hu).mono k, .inl ho⟩
    · exact (h2 b m).mono k
  | .tuple ds, _, x, p, z => by
    obtain ⟨a, vs, rfl, ho, hall⟩ := well_tuple x
    have z2 : WData.weightAll ds ≤ 1048576 := z
    obtain ⟨A, h1, h2⟩ := area_all ds _ hall p fun d hd => Nat.le_trans (weight_mem hd) z2
    have k : ∀ b ∈ A, b ∈ a :: A := fun b hb => List.mem_cons_of_mem _ hb
    refine ⟨a :: A, List.mem_cons_self .., fun b hb => ?_⟩
    rcases List.mem_cons.mp hb with e | m
    · rw [e]
      exact ⟨vs, line_of (by rw [wellAll_len hall]; exact Nat.le_trans (PySem.W.length_le_weightAllW ds) z2), fun u hu => (h1 u hu).mono k, .inr ho⟩
    · exact (h2 b m).mono k
  | .float _, _, _, p, _ => Bool.noConfusion (show false = true from p)
  | .dict _, _, _, p, _ => Bool.noConfusion (show false = true from p)
  | .bytearray _, _, _, p, _ => Bool.noConfusion (show false = true from p)
  | .set _, _, _, p, _ => Bool.noConfusion (show false = true from p)
  | .frozenset _, _, _, p, _ => Bool.noConfusion (show false = true from p)
  | .obj _ _, _, _, p, _ => Bool.noConfusion (show false = true from p)
theorem area_all : ∀ (ds : List WData) (vs : List Value), WellAll P h vs ds → plWs ds = true → (∀ d ∈ ds, d.weight ≤ 1048576) → ∃ A : List Addr, (∀ u ∈ vs, OkU A u) ∧ ∀ a ∈ A, ArgOb h A a
  | [], _, x, _, _ => by
    cases x
    exact ⟨[], fun u m => absurd m (by simp), fun a m => absurd m (by simp)⟩
  | d :: ds, _, x, p, z => by
    obtain ⟨v, vs, rfl, x1, x2⟩ := well_cons x
    have q : plW d = true ∧ plWs ds = true := Bool.and_eq_true_iff.mp p
    obtain ⟨A, a1, a2⟩ := area_one d v x1 q.1 (z d (List.mem_cons_self ..))
    obtain ⟨B, b1, b2⟩ := area_all ds vs x2 q.2 fun e he => z e (List.mem_cons_of_mem _ he)
    have kA : ∀ b ∈ A, b ∈ A ++ B := fun b hb => List.mem_append.mpr (.inl hb)
    have kB : ∀ b ∈ B, b ∈ A ++ B := fun b hb => List.mem_append.mpr (.inr hb)
    refine ⟨A ++ B, fun u hu => ?_, fun b hb => ?_⟩
    · rcases List.mem_cons.mp hu with e | m
      · rw [e]
        exact a1.mono kA
      · exact (b1 u m).mono kB
    · rcases List.mem_append.mp hb with m | m
      · exact (a2 b m).mono kA
      · exact (b2 b m).mono kB
end
end
def hoOf (o : Obj) : Option HO := match o.data with
  | .seq vs _ => if (o.cls == Value.type "list") = true then some (.frz o (.lst (vs.toList.map toV))) else some (.frz o (.tup (vs.toList.map toV)))
  | _ => none
def argH (K : PySem.W.Frag) (h : Heap) (A : List Addr) : Hp := fun b => if b ∈ A then (if (K.lookup b).isNone = true then (h.get? b).bind hoOf else none) else none
def OnlyF (H : Hp) : Prop := ∀ b, H b = none ∨ ∃ o u, H b = some (.frz o u)
theorem hoOf_lst (vs : List Value) : hoOf { cls := .type "list", data := .seq vs.toArray } = some (.frz { cls := .type "list", data := .seq vs.toArray } (.lst (vs.map toV))) := by
  show (if (Value.type "list" == Value.type "list") = true then some (HO.frz { cls := .type "list", data := .seq vs.toArray } (.lst (vs.toArray.toList.map toV))) else some (HO.frz { cls := .type "list", data := .seq vs.toArray } (.tup (vs.toArray.toList.map toV)))) = _
  rw [if_pos (beq_self_eq_true _)]
theorem hoOf_tup (vs : List Value) : hoOf { cls := .type "tuple", data := .seq vs.toArray } = some (.frz { cls := .type "tuple", data := .seq vs.toArray } (.tup (vs.map toV))) := by
  show (if (Value.type "tuple" == Value.type "list") = true then some (HO.frz { cls := .type "tuple", data := .seq vs.toArray } (.lst (vs.toArray.toList.map toV))) else some (HO.frz { cls := .type "tuple", data := .seq vs.toArray } (.tup (vs.toArray.toList.map toV)))) = _
  rw [if_neg (by decide)]
section
variable {P : Program} {w : World} {K : PySem.W.Frag} {h : Heap} {A : List Addr}
theorem argH_at {b : Addr} {o : Obj} (hb : b ∈ A) (hk : K.lookup b = none) (e : h.get? b = some o) : argH K h A b = hoOf o := by
  unfold argH
  rw [if_pos hb, hk, if_pos (show (none : Option Obj).isNone = true from rfl), e] <;> rfl
theorem of_argH {b : Addr} {u : HO} (q : argH K h A b = some u) : b ∈ A ∧ K.lookup b = none := by
  unfold argH at q
  by_cases hb : b ∈ A
  · rw [if_pos hb] at q
    cases hk : K.lookup b with
    | none => exact ⟨hb, rfl⟩
    | some o =>
      rw [hk, if_neg (by simp)] at q
      cases q
  · rw [if_neg hb] at q
    cases q
theorem argH_is (ar : ∀ a ∈ A, ArgOb h A a) {b : Addr} {u : HO} (q : argH K h A b = some u) : K.lookup b = none ∧ ∃ vs : List Value, vs.length ≤ sizeLine ∧ (∀ u ∈ vs, OkU A u) ∧
    ((h.get? b = some { cls := .type "list", data := .seq vs.toArray } ∧ u = .frz { cls := .type "list", data := .seq vs.toArray } (.lst (vs.map toV))) ∨
     (h.get? b = some { cls := .type "tuple", data := .seq vs.toArray } ∧ u = .frz { cls := .type "tuple", data := .seq vs.toArray } (.tup (vs.map toV)))) := by
  obtain ⟨hb, hk⟩ := of_argH q
  obtain ⟨vs, h1, h2, h3⟩ := ar b hb
  refine ⟨hk, vs, h1, h2, ?_⟩
  rcases h3 with e | e
  · rw [argH_at hb hk e, hoOf_lst] at q
    exact .inl ⟨e, (Option.some.inj q).symm⟩
  · rw [argH_at hb hk e, hoOf_tup] at q
    exact .inr ⟨e, (Option.some.inj q).symm⟩
theorem argH_only (ar : ∀ a ∈ A, ArgOb h A a) : OnlyF (argH K h A) := fun b => by
  cases q : argH K h A b with
  | none => exact .inl rfl
  | some u =>
    obtain ⟨_, vs, _, _, ⟨_, e⟩ | ⟨_, e⟩⟩ := argH_is ar q
    · exact .inr ⟨_, _, by rw [e]⟩
    · exact .inr ⟨_, _, by rw [e]⟩
theorem argH_ok (ar : ∀ a ∈ A, ArgOb h A a) : HOk P w (argH K h A) h := fun b u q => by
  obtain ⟨_, vs, h1, h2, ⟨e, rfl⟩ | ⟨e, rfl⟩⟩ := argH_is ar q
  · exact ⟨e, by rw [List.length_map]; exact h1, vs, _, vals_toV h2, e⟩
  · exact ⟨e, by rw [List.length_map]; exact h1, vs, vals_toV h2, _, e, rfl, _, rfl⟩
theorem seq_inj {c c' : Value} {vs us : List Value} (e : (some { cls := c, data := .seq vs.toArray } : Option Obj) = some { cls := c', data := .seq us.toArray }) : c = c' ∧ vs = us := by
  have e1 := Option.some.inj e
  have e2 : c = c' := congrArg Obj.cls e1
  have e3 : Data.seq vs.toArray = Data.seq us.toArray := congrArg Obj.data e1
  injection e3 with e4
  refine ⟨e2, ?_⟩
  have e5 := congrArg Array.toList e4
  simpa using e5
theorem argL (KX : K.In h) (ar : ∀ a ∈ A, ArgOb h A a) {a : Addr} {vs : List Value} (ha : a ∈ A) (e : h.get? a = some { cls := .type "list", data := .seq vs.toArray }) : (∀ u ∈ vs, OkU A u) ∧ SqL K (argH K h A) a (vs.map toV) := by
  obtain ⟨us, h1, h2, h3⟩ := ar a ha
  have hu : us = vs := by
    rcases h3 with q | q
    · rw [e] at q
      exact (seq_inj q).2.symm
    · rw [e] at q
      exact absurd (Value.type.inj (seq_inj q).1) (by decide)
  subst hu
  refine ⟨h2, ?_⟩
  cases hk : K.lookup a with
  | none => exact .inl (.inr ⟨_, by rw [argH_at ha hk e, hoOf_lst]⟩)
  | some o =>
    have e2 := KX a o hk
    rw [e] at e2
    obtain rfl := Option.some.inj e2
    exact .inr ⟨_, us.toArray, _, hk, rfl, rfl, rfl, by rw [List.size_toArray]; exact h1, by simpa using vals_toV h2⟩
theorem argT (KX : K.In h) (ar : ∀ a ∈ A, ArgOb h A a) {a : Addr} {vs : List Value} (ha : a ∈ A) (e : h.get? a = some { cls := .type "tuple", data := .seq vs.toArray }) : (∀ u ∈ vs, OkU A u) ∧ SqT K (argH K h A) a (vs.map toV) := by
  obtain ⟨us, h1, h2, h3⟩ := ar a ha
  have hu : us = vs := by
    rcases h3 with q | q
    · rw [e] at q
      exact absurd (Value.type.inj (seq_inj q).1) (by decide)
    · rw [e] at q
      exact (seq_inj q).2.symm
  subst hu
  refine ⟨h2, ?_⟩
  cases hk : K.lookup a with
  | none => exact .inl (.inr ⟨_, by rw [argH_at ha hk e, hoOf_tup]⟩)
  | some o =>
    have e2 := KX a o hk
    rw [e] at e2
    obtain rfl := Option.some.inj e2
    exact .inr ⟨_, us.toArray, _, hk, rfl, rfl, by rw [List.size_toArray]; exact h1, by simpa using vals_toV h2⟩
mutual
theorem dw_one {Pm : Params} (KX : K.In h) (ar : ∀ a ∈ A, ArgOb h A a) : ∀ (d : WData) (v : Value), Well Pm h v d → plW d = true → OkU A v → Dw K (argH K h A) (toV v) d
  | .none, _, x, _, _ => by
    cases x
    exact .non
  | .bool b, _, x, _, _ => by
    cases x
    exact .bl b
  | .int i, _, x, _, _ => by
    cases x
    exact .int i
  | .str s, _, x, _, _ => by
    cases x
    exact .str s
  | .bytes b, _, x, _, _ => by
    cases x
    have z := Dw.byt (K := K) (H := argH K h A) b.toArray
    exact z
  | .list ds, _, x, p, hu => by
    obtain ⟨a, vs, rfl, ho, hall⟩ := well_list x
    obtain ⟨h2, hs⟩ := argL KX ar hu ho
    exact .lst hs (dw_all KX ar ds _ hall p h2)
  | .tuple ds, _, x, p, hu => by
    obtain ⟨a, vs, rfl, ho, hall⟩ := well_tuple x
    obtain ⟨h2, hs⟩ := argT KX ar hu ho
    exact .tup hs (dw_all KX ar ds _ hall p h2)
  | .float _, _, _, p, _ => Bool.noConfusion (show false = true from p)
  | .dict _, _, _, p, _ => Bool.noConfusion (show false = true from p)
  | .bytearray _, _, _, p, _ => Bool.noConfusion (show false = true from p)
  | .set _, _, _, p, _ => Bool.noConfusion (show false = true from p)
  | .frozenset _, _, _, p, _ => Bool.noConfusion (show false = true from p)
  | .obj _ _, _, _, p, _ => Bool.noConfusion (show false = true from p)
theorem dw_all {Pm : Params} (KX : K.In h) (ar : ∀ a ∈ A, ArgOb h A a) : ∀ (ds : List WData) (vs : List Value), WellAll Pm h vs ds → plWs ds = true → (∀ u ∈ vs, OkU A u) → DwAll K (argH K h A) (vs.map toV) ds
  | [], _, x, _, _ => by
    cases x
    exact .nil
  | d :: ds, _, x, p, hu => by
    obtain ⟨v, vs, rfl, x1, x2⟩ := well_cons x
    have q : plW d = true ∧ plWs ds = true := Bool.and_eq_true_iff.mp p
    exact .cons (dw_one KX ar d v x1 q.1 (hu _ (List.mem_cons_self ..))) (dw_all KX ar ds vs x2 q.2 fun u m => hu u (List.mem_cons_of_mem _ m))
end
end
theorem layable_weight {ds : List WData} (h : WData.layableAll ds = true) : ∀ d ∈ ds, d.weight ≤ 1048576 := fun d hd =>
  (PySem.W.layableW_iff.mp (List.all_eq_true.mp h d hd)).2.2
theorem encAll_len : ∀ (cs : List Codec) (a : Codec.denoteAll cs), (Codec.encAll cs a).length = cs.length
  | [], _ => rfl
  | c :: cs, a => by
    show (Codec.encAll cs a.2).length + 1 = cs.length + 1
    rw [encAll_len cs a.2]
end L2
end

end
section
namespace PM
open Kh351
/-! The leftmost least of pairs, and the best order by its first strip. -/
section
variable {α β : Type}
def pick (b x : α × Nat) : α × Nat := if x.2 < b.2 then x else b
theorem pick_assoc (a b c : α × Nat) : pick (pick a b) c = pick a (pick b c) := by
  unfold pick
  by_cases h1 : b.2 < a.2 <;> by_cases h2 : c.2 < b.2 <;> by_cases h3 : c.2 < a.2 <;> simp [h1, h2, h3] <;> omega
theorem fold_pick (x b : α × Nat) : ∀ L : List (α × Nat), L.foldl pick (pick b x) = pick b (L.foldl pick x)
  | [] => rfl
  | y :: L => by
    show L.foldl pick (pick (pick b x) y) = pick b (L.foldl pick (pick x y))
    rw [pick_assoc, fold_pick (pick x y) b L]
def fm : List (α × Nat) → Option (α × Nat)
  | [] => none
  | x :: L => some (L.foldl pick x)
def mg2 : Option (α × Nat) → Option (α × Nat) → Option (α × Nat)
  | none, y => y
  | some x, none => some x
  | some x, some y => some (pick x y)
theorem fm_append : ∀ L M : List (α × Nat), fm (L ++ M) = mg2 (fm L) (fm M)
  | [], M => by
    show fm M = mg2 none (fm M)
    rfl
  | x :: L, [] => by
    show fm ((x :: L) ++ []) = _
    rw [List.append_nil]
    rfl
  | x :: L, y :: M => by
    show some ((L ++ y :: M).foldl pick x) = some (pick (L.foldl pick x) (M.foldl pick y))
    rw [List.foldl_append]
    show some (M.foldl pick (pick (L.foldl pick x) y)) = _
    rw [fold_pick]
theorem fm_snoc (L : List (α × Nat)) (x : α × Nat) : fm (L ++ [x]) = mg2 (fm L) (some x) := fm_append L [x]
theorem fm_flatMap (h : β → List (α × Nat)) (g : β → α × Nat) : ∀ l : List β, (∀ i ∈ l, fm (h i) = some (g i)) → fm (l.flatMap h) = fm (l.map g)
  | [], _ => rfl
  | i :: l, H => by
    rw [List.flatMap_cons, List.map_cons, fm_append, H i (List.mem_cons_self ..), fm_flatMap h g l fun j hj => H j (List.mem_cons_of_mem _ hj)]
    show mg2 (fm [g i]) (fm (l.map g)) = fm ([g i] ++ l.map g)
    rw [fm_append]
theorem pick_map {γ : Type} (u : α → γ) (c : Nat) (b x : α × Nat) : pick (u b.1, c + b.2) (u x.1, c + x.2) = (u (pick b x).1, c + (pick b x).2) := by
  unfold pick
  by_cases h : x.2 < b.2
  · rw [if_pos h, if_pos (show c + x.2 < c + b.2 by omega)]
  · rw [if_neg h, if_neg (show ¬ c + x.2 < c + b.2 by omega)]
theorem fold_map {γ : Type} (u : α → γ) (c : Nat) : ∀ (L : List (α × Nat)) (b : α × Nat), (L.map fun x => (u x.1, c + x.2)).foldl pick (u b.1, c + b.2) = (u (L.foldl pick b).1, c + (L.foldl pick b).2)
  | [], b => rfl
  | x :: L, b => by
    show (L.map fun x => (u x.1, c + x.2)).foldl pick (pick (u b.1, c + b.2) (u x.1, c + x.2)) = _
    rw [pick_map, fold_map u c L]
    rfl
theorem fm_map {γ : Type} (u : α → γ) (c : Nat) : ∀ L : List (α × Nat), fm (L.map fun x => (u x.1, c + x.2)) = (fm L).map fun x => (u x.1, c + x.2)
  | [] => rfl
  | x :: L => by
    show some ((L.map fun x => (u x.1, c + x.2)).foldl pick (u x.1, c + x.2)) = some _
    rw [fold_map]
end
theorem filter_len {l : List Nat} (hl : l.Nodup) {i : Nat} (hi : i ∈ l) : (l.filter fun j => j != i).length + 1 = l.length := by
  induction l with
  | nil => simp at hi
  | cons a l ih =>
    have hn := List.nodup_cons.mp hl
    by_cases e : a = i
    · subst e
      have h1 : (l.filter fun j => j != a) = l := List.filter_eq_self.mpr fun b hb => by
        have : b ≠ a := fun q => hn.1 (q ▸ hb)
        simpa using this
      rw [List.filter_cons, if_neg (by simp), h1]
      rfl
    · have hi' : i ∈ l := by
        rcases List.mem_cons.mp hi with q | q
        · exact absurd q.symm e
        · exact q
      rw [List.filter_cons, if_pos (by simpa using e)]
      show (l.filter fun j => j != i).length + 1 + 1 = l.length + 1
      rw [ih hn.2 hi']
theorem all_cons {l : List Nat} (hl : l.Nodup) (hne : l ≠ []) : all l = l.flatMap fun i => (all (l.filter fun j => j != i)).map fun o => i :: o := by
  unfold all
  cases h : l.length with
  | zero => exact absurd (List.length_eq_zero_iff.mp h) hne
  | succ n =>
    show (l.flatMap fun i => (orders (l.filter fun j => j != i) n).map fun o => i :: o) = _
    rw [List.flatMap_def, List.flatMap_def]
    congr 1
    refine List.map_congr_left fun i hi => ?_
    have := filter_len hl hi
    rw [show (l.filter fun j => j != i).length = n by omega]
theorem all_nil : all [] = [[]] := rfl
theorem filter_head {i : Nat} {l : List Nat} (hl : (i :: l).Nodup) : ((i :: l).filter fun j => j != i) = l := by
  have hn := List.nodup_cons.mp hl
  rw [List.filter_cons, if_neg (by simp)]
  exact List.filter_eq_self.mpr fun b hb => by
    have : b ≠ i := fun q => hn.1 (q ▸ hb)
    simpa using this
theorem all_head : ∀ {l : List Nat}, l.Nodup → ∃ T, all l = l :: T
  | [], _ => ⟨[], rfl⟩
  | i :: l, hl => by
    obtain ⟨T, hT⟩ := all_head (List.nodup_cons.mp hl).2
    rw [all_cons hl (by simp), List.flatMap_cons, filter_head hl, hT]
    exact ⟨_, rfl⟩
/-- the best order is the leftmost least of all -/
theorem best_fm (a : Abs) (f : Nat) {l : List Nat} (hl : l.Nodup) : fm ((all l).map fun o => (o, need a.repeat_ f (ofOrder a o))) = some (best a f l) := by
  obtain ⟨T, hT⟩ := all_head hl
  unfold best
  rw [hT]
  show some ((T.map fun o => (o, need a.repeat_ f (ofOrder a o))).foldl pick (l, need a.repeat_ f (ofOrder a l))) = some ((T.map fun o => (o, need a.repeat_ f (ofOrder a o))).foldl pick (pick (l, need a.repeat_ f (ofOrder a l)) (l, need a.repeat_ f (ofOrder a l))))
  rw [show pick (l, need a.repeat_ f (ofOrder a l)) (l, need a.repeat_ f (ofOrder a l)) = (l, need a.repeat_ f (ofOrder a l)) from if_neg (Nat.lt_irrefl _)]
theorem best_nil (a : Abs) (f : Nat) : best a f [] = ([], 0) := rfl
theorem gap_mod (r f t : Nat) : gap r (f % r) t = gap r f t := by
  unfold gap
  rw [Nat.mod_mod]
theorem need_mod (r f : Nat) : ∀ l : List Strip, need r (f % r) l = need r f l
  | [] => rfl
  | s :: l => by
    show gap r (f % r) _ + _ + _ = gap r f _ + _ + _
    rw [gap_mod]
theorem best_mod (a : Abs) (f : Nat) (l : List Nat) : best a (f % a.repeat_) l = best a f l := by
  unfold best
  simp only [need_mod]
def stripAt (a : Abs) (i : Nat) : Strip := a.strips.getD i ⟨0, 0⟩
/-- strip i first, then the best order of the others -/
def grp (a : Abs) (f : Nat) (l : List Nat) (i : Nat) : List Nat × Nat :=
  (i :: (best a ((stripAt a i).begins + (stripAt a i).long) (l.filter fun j => j != i)).1,
    gap a.repeat_ f ((stripAt a i).begins % a.repeat_) + (stripAt a i).long + (best a ((stripAt a i).begins + (stripAt a i).long) (l.filter fun j => j != i)).2)
theorem best_step (a : Abs) (f : Nat) {l : List Nat} (hl : l.Nodup) (hne : l ≠ []) : fm (l.map (grp a f l)) = some (best a f l) := by
  rw [← best_fm a f hl, all_cons hl hne, List.map_flatMap]
  refine (fm_flatMap _ _ _ fun i hi => ?_).symm
  have h1 : (l.filter fun j => j != i).Nodup := hl.filter _
  have h2 := best_fm a ((stripAt a i).begins + (stripAt a i).long) h1
  have h3 := fm_map (fun o => i :: o) (gap a.repeat_ f ((stripAt a i).begins % a.repeat_) + (stripAt a i).long) ((all (l.filter fun j => j != i)).map fun o => (o, need a.repeat_ ((stripAt a i).begins + (stripAt a i).long) (ofOrder a o)))
  rw [h2, List.map_map] at h3
  rw [List.map_map]
  refine Eq.trans (congrArg fm (List.map_congr_left fun o ho => ?_)) h3
  show (i :: o, gap a.repeat_ f ((stripAt a i).begins % a.repeat_) + (stripAt a i).long + need a.repeat_ (((stripAt a i).begins + (stripAt a i).long) % a.repeat_) (ofOrder a o)) = _
  rw [need_mod]
  rfl
/-- the loop's value behind k turns -/
def upto (a : Abs) (f : Nat) (l : List Nat) (k : Nat) : List Nat × Nat := (fm ((l.take k).map (grp a f l))).getD ([], 0)
theorem upto_zero (a : Abs) (f : Nat) (l : List Nat) : upto a f l 0 = ([], 0) := rfl
theorem upto_all (a : Abs) (f : Nat) {l : List Nat} (hl : l.Nodup) : upto a f l l.length = best a f l := by
  unfold upto
  rw [List.take_length]
  by_cases h : l = []
  · subst h
    rfl
  · rw [best_step a f hl h]
    rfl
theorem upto_succ (a : Abs) (f : Nat) {l : List Nat} {k i : Nat} (hk : l[k]? = some i) :
    upto a f l (k + 1) = if k = 0 ∨ (grp a f l i).2 < (upto a f l k).2 then grp a f l i else upto a f l k := by
  unfold upto
  have e : l.take (k + 1) = l.take k ++ [i] := by
    rw [List.take_add_one, hk]
    rfl
  rw [e, List.map_append, List.map_cons, List.map_nil, fm_snoc]
  cases h : fm ((l.take k).map (grp a f l)) with
  | none =>
    have h0 : k = 0 := by
      cases k with
      | zero => rfl
      | succ k =>
        have hlt : k + 1 < l.length := (List.getElem?_eq_some_iff.mp hk).1
        cases l with
        | nil => simp at hlt
        | cons b l => simp [fm] at h
    rw [if_pos (.inl h0)]
    rfl
  | some x =>
    have h0 : k ≠ 0 := by
      intro q
      subst q
      simp [fm] at h
    show pick x (grp a f l i) = _
    unfold pick
    by_cases hlt : (grp a f l i).2 < x.2
    · rw [if_pos hlt, if_pos (.inr hlt)]
    · rw [if_neg hlt, if_neg (by intro q; rcases q with q | q; exact h0 q; exact hlt q)]
      rfl
theorem eraseIdx_filter : ∀ {l : List Nat} {k i : Nat}, l.Nodup → l[k]? = some i → l.take k ++ l.drop (k + 1) = l.filter fun j => j != i
  | [], _, _, _, h => by simp at h
  | b :: l, 0, i, hl, h => by
    have e : b = i := Option.some.inj h
    subst e
    rw [filter_head hl]
    rfl
  | b :: l, k + 1, i, hl, h => by
    have hn := List.nodup_cons.mp hl
    have h' : l[k]? = some i := h
    have hm : i ∈ l := List.mem_of_getElem? h'
    have : b ≠ i := fun q => hn.1 (q ▸ hm)
    rw [List.filter_cons, if_pos (by simpa using this), ← eraseIdx_filter hn.2 h']
    rfl
theorem gap_int {r : Nat} (hr : 0 < r) (f t : Nat) : ((gap r f t : Nat) : Int) = ((t : Int) - f) % r := by
  unfold gap
  have h1 : f % r < r := Nat.mod_lt _ hr
  have h2 : ((t + r - f % r : Nat) : Int) = ((t : Int) - f) + r * (1 + (f / r : Nat)) := by
    have h3 : (r : Int) * (f / r : Nat) + (f % r : Nat) = f := by
      exact_mod_cast Nat.div_add_mod f r
    rw [Int.mul_add, Int.mul_one]
    omega
  rw [Int.natCast_emod, h2, Int.add_mul_emod_self_left]
theorem gap_int_mod {r : Nat} (hr : 0 < r) (f t : Nat) : ((gap r f (t % r) : Nat) : Int) = ((t : Int) - f) % r := by
  rw [gap_int hr, Int.natCast_emod, Int.emod_sub_emod]
end PM

end

section
set_option linter.all false
namespace PM
open Kh351
/-! ### bits -/
theorem tb_add : ∀ (i m j : Nat), m.testBit i = false → (m + 2 ^ i).testBit j = (m.testBit j || decide (j = i))
  | 0, m, j, h => by
    rw [Nat.testBit_zero, decide_eq_false_iff_not] at h
    cases j with
    | zero =>
      rw [Nat.testBit_zero, Nat.testBit_zero]
      have h1 : (m + 2 ^ 0) % 2 = 1 := by omega
      rw [h1]
      simp
    | succ j =>
      rw [Nat.testBit_succ, Nat.testBit_succ, show (m + 2 ^ 0) / 2 = m / 2 by omega]
      simp
  | i + 1, m, j, h => by
    rw [Nat.testBit_succ] at h
    cases j with
    | zero =>
      rw [Nat.testBit_zero, Nat.testBit_zero, show (m + 2 ^ (i + 1)) % 2 = m % 2 by rw [Nat.pow_succ]; omega]
      simp
    | succ j =>
      rw [Nat.testBit_succ, Nat.testBit_succ, show (m + 2 ^ (i + 1)) / 2 = m / 2 + 2 ^ i by rw [Nat.pow_succ]; omega, tb_add i (m / 2) j h]
      simp
theorem tb_ge {m i : Nat} (h : m.testBit i = true) : 2 ^ i ≤ m := Nat.ge_two_pow_of_testBit h
theorem tb_sub : ∀ (i m j : Nat), m.testBit i = true → (m - 2 ^ i).testBit j = (m.testBit j && decide (j ≠ i))
  | 0, m, j, h => by
    rw [Nat.testBit_zero, decide_eq_true_iff] at h
    cases j with
    | zero =>
      rw [Nat.testBit_zero, Nat.testBit_zero]
      have h1 : (m - 2 ^ 0) % 2 = 0 := by omega
      rw [h1]
      simp
    | succ j =>
      rw [Nat.testBit_succ, Nat.testBit_succ, show (m - 2 ^ 0) / 2 = m / 2 by omega]
      simp
  | i + 1, m, j, h => by
    have hg := tb_ge h
    rw [Nat.testBit_succ] at h
    cases j with
    | zero =>
      rw [Nat.testBit_zero, Nat.testBit_zero, show (m - 2 ^ (i + 1)) % 2 = m % 2 by rw [Nat.pow_succ] at hg ⊢; omega]
      simp
    | succ j =>
      rw [Nat.testBit_succ, Nat.testBit_succ, show (m - 2 ^ (i + 1)) / 2 = m / 2 - 2 ^ i by rw [Nat.pow_succ] at hg ⊢; omega, tb_sub i (m / 2) j h]
      simp
/-- a set's strips, going up -/
def bl (n m : Nat) : List Nat := (List.range n).filter fun i => m.testBit i
theorem mem_bl {n m i : Nat} : i ∈ bl n m ↔ i < n ∧ m.testBit i = true := by
  unfold bl
  rw [List.mem_filter, List.mem_range]
theorem bl_nodup (n m : Nat) : (bl n m).Nodup := List.nodup_range.filter _
theorem bl_zero (n : Nat) : bl n 0 = [] := by
  unfold bl
  rw [List.filter_eq_nil_iff]
  intro i _
  simp
theorem bl_full (n : Nat) : bl n (2 ^ n - 1) = List.range n := by
  unfold bl
  rw [List.filter_eq_self]
  intro i hi
  rw [Nat.testBit_two_pow_sub_one]
  exact decide_eq_true (List.mem_range.mp hi)
theorem bl_sub {n m i : Nat} (h : m.testBit i = true) : bl n (m - 2 ^ i) = (bl n m).filter fun j => j != i := by
  unfold bl
  rw [List.filter_filter]
  refine List.filter_congr fun j _ => ?_
  rw [tb_sub i m j h, Bool.and_comm]
  congr 1
  by_cases e : j = i <;> simp [e]
theorem bl_succ (t m : Nat) : bl (t + 1) m = bl t m ++ if m.testBit t = true then [t] else [] := by
  unfold bl
  rw [List.range_succ, List.filter_append]
  congr 1
  by_cases h : m.testBit t = true
  · rw [if_pos h, List.filter_cons, if_pos h]
    rfl
  · rw [if_neg h, List.filter_cons, if_neg h]
    rfl
theorem bl_ne {n m : Nat} (h : m < 2 ^ n) (h0 : m ≠ 0) : bl n m ≠ [] := by
  intro e
  refine h0 (Nat.eq_of_testBit_eq fun i => ?_)
  rw [Nat.zero_testBit]
  cases hb : m.testBit i with
  | false => rfl
  | true =>
    have hi : i < n := by
      have := tb_ge hb
      exact (Nat.pow_lt_pow_iff_right (by decide)).mp (Nat.lt_of_le_of_lt this h)
    have : i ∈ bl n m := mem_bl.mpr ⟨hi, hb⟩
    rw [e] at this
    cases this
theorem perm_nd {l m : List Nat} (hl : l.Nodup) (hm : m.Nodup) (h : ∀ x, x ∈ l ↔ x ∈ m) : l.Perm m := (List.perm_ext_iff_of_nodup hl hm).mpr h
/-! ### the least of some -/
section
variable {α : Type}
theorem pick_le (b x : α × Nat) : (pick b x).2 ≤ b.2 ∧ (pick b x).2 ≤ x.2 ∧ (pick b x = b ∨ pick b x = x) := by
  unfold pick
  by_cases h : x.2 < b.2
  · rw [if_pos h]
    exact ⟨by omega, by omega, .inr rfl⟩
  · rw [if_neg h]
    exact ⟨by omega, by omega, .inl rfl⟩
theorem fold_min : ∀ (L : List (α × Nat)) (b : α × Nat), (L.foldl pick b).2 ≤ b.2 ∧ (∀ y ∈ L, (L.foldl pick b).2 ≤ y.2) ∧ (L.foldl pick b = b ∨ L.foldl pick b ∈ L)
  | [], b => ⟨Nat.le_refl _, fun y hy => (by cases hy), .inl rfl⟩
  | x :: L, b => by
    obtain ⟨h1, h2, h3⟩ := fold_min L (pick b x)
    obtain ⟨p1, p2, p3⟩ := pick_le b x
    refine ⟨Nat.le_trans h1 p1, fun y hy => ?_, ?_⟩
    · rcases List.mem_cons.mp hy with rfl | hy
      · exact Nat.le_trans h1 p2
      · exact h2 y hy
    · show L.foldl pick (pick b x) = b ∨ L.foldl pick (pick b x) ∈ x :: L
      rcases h3 with h3 | h3
      · rcases p3 with p3 | p3
        · exact .inl (h3.trans p3)
        · exact .inr (by rw [h3, p3]; exact List.mem_cons_self ..)
      · exact .inr (List.mem_cons_of_mem _ h3)
theorem fm_min {L : List (α × Nat)} {x : α × Nat} (h : fm L = some x) : x ∈ L ∧ ∀ y ∈ L, x.2 ≤ y.2 := by
  cases L with
  | nil => cases h
  | cons b L =>
    have e : L.foldl pick b = x := Option.some.inj h
    obtain ⟨h1, h2, h3⟩ := fold_min L b
    rw [e] at h1 h2 h3
    refine ⟨?_, fun y hy => ?_⟩
    · rcases h3 with h3 | h3
      · rw [h3]
        exact List.mem_cons_self ..
      · exact List.mem_cons_of_mem _ h3
    · rcases List.mem_cons.mp hy with rfl | hy
      · exact h1
      · exact h2 y hy
theorem fold_keep : ∀ (L : List (α × Nat)) (b : α × Nat), (∀ y ∈ L, b.2 ≤ y.2) → L.foldl pick b = b
  | [], _, _ => rfl
  | x :: L, b, h => by
    show L.foldl pick (pick b x) = b
    have : pick b x = b := if_neg (Nat.not_lt.mpr (h x (List.mem_cons_self ..)))
    rw [this]
    exact fold_keep L b fun y hy => h y (List.mem_cons_of_mem _ hy)
theorem fold_at : ∀ (L : List (α × Nat)) (b : α × Nat) (k : Nat) (x : α × Nat), L[k]? = some x → x.2 < b.2 → (∀ j y, L[j]? = some y → x.2 ≤ y.2 ∧ (j < k → x.2 < y.2)) → L.foldl pick b = x
  | [], _, _, _, h, _, _ => by simp at h
  | z :: L, b, 0, x, h, hb, hm => by
    have e : z = x := Option.some.inj h
    subst e
    show L.foldl pick (pick b z) = z
    have : pick b z = z := if_pos hb
    rw [this]
    refine fold_keep L z fun y hy => ?_
    obtain ⟨j, hj⟩ := List.mem_iff_getElem?.mp hy
    exact (hm (j + 1) y hj).1
  | z :: L, b, k + 1, x, h, hb, hm => by
    show L.foldl pick (pick b z) = x
    have hz : x.2 < z.2 := (hm 0 z rfl).2 (Nat.succ_pos _)
    refine fold_at L (pick b z) k x h ?_ fun j y hj => ?_
    · rcases (pick_le b z).2.2 with e | e
      · rw [e]
        exact hb
      · rw [e]
        exact hz
    · have := hm (j + 1) y hj
      exact ⟨this.1, fun q => this.2 (by omega)⟩
theorem fm_at {L : List (α × Nat)} {k : Nat} {x : α × Nat} (h : L[k]? = some x) (hm : ∀ j y, L[j]? = some y → x.2 ≤ y.2 ∧ (j < k → x.2 < y.2)) : fm L = some x := by
  cases L with
  | nil => simp at h
  | cons b L =>
    show some (L.foldl pick b) = some x
    congr 1
    cases k with
    | zero =>
      have e : b = x := Option.some.inj h
      subst e
      refine fold_keep L b fun y hy => ?_
      obtain ⟨j, hj⟩ := List.mem_iff_getElem?.mp hy
      exact (hm (j + 1) y hj).1
    | succ k =>
      refine fold_at L b k x h ((hm 0 b rfl).2 (Nat.succ_pos _)) fun j y hj => ?_
      have := hm (j + 1) y hj
      exact ⟨this.1, fun q => this.2 (by omega)⟩
end
/-! ### all orders are the permutations -/
theorem filter_erase {l : List Nat} (hl : l.Nodup) (i : Nat) : (l.filter fun j => j != i) = l.erase i := (hl.erase_eq_filter i).symm
theorem mem_all : ∀ (n : Nat) {l : List Nat}, l.length = n → l.Nodup → ∀ o, o ∈ all l ↔ o.Perm l
  | 0, l, hn, hl, o => by
    have e : l = [] := List.length_eq_zero_iff.mp hn
    subst e
    rw [all_nil, List.mem_singleton, List.perm_nil]
  | n + 1, l, hn, hl, o => by
    have hne : l ≠ [] := fun e => by rw [e] at hn; cases hn
    rw [all_cons hl hne, List.mem_flatMap]
    constructor
    · rintro ⟨i, hi, ho⟩
      obtain ⟨o', ho', rfl⟩ := List.mem_map.mp ho
      have hfl := filter_len hl hi
      have h1 := (mem_all n (l := l.filter fun j => j != i) (by omega) (hl.filter _) o').mp ho'
      rw [filter_erase hl] at h1
      exact (List.Perm.cons i h1).trans (List.perm_cons_erase hi).symm
    · intro h
      cases o with
      | nil => exact absurd (List.nil_perm.mp h) hne
      | cons i o =>
        have hi : i ∈ l := h.mem_iff.mp (List.mem_cons_self ..)
        refine ⟨i, hi, List.mem_map.mpr ⟨o, ?_, rfl⟩⟩
        have hfl := filter_len hl hi
        refine (mem_all n (l := l.filter fun j => j != i) (by omega) (hl.filter _) o).mpr ?_
        rw [filter_erase hl]
        exact List.Perm.cons_inv (h.trans (List.perm_cons_erase hi))
theorem best_min (a : Abs) (f : Nat) {l : List Nat} (hl : l.Nodup) : (best a f l).1.Perm l ∧ need a.repeat_ f (ofOrder a (best a f l).1) = (best a f l).2 ∧ ∀ o, o.Perm l → (best a f l).2 ≤ need a.repeat_ f (ofOrder a o) := by
  obtain ⟨h1, h2⟩ := fm_min (best_fm a f hl)
  obtain ⟨o, ho, e⟩ := List.mem_map.mp h1
  refine ⟨?_, ?_, fun o' ho' => h2 _ (List.mem_map.mpr ⟨o', (mem_all _ rfl hl o').mpr ho', rfl⟩)⟩
  · rw [← e]
    exact (mem_all _ rfl hl o).mp ho
  · rw [← e]
theorem perm_map_inv {α : Type} (g : Nat → α) : ∀ (S : List α) (l : List Nat), S.Perm (l.map g) → ∃ o : List Nat, o.Perm l ∧ o.map g = S
  | [], l, h => by
    have : l.map g = [] := List.nil_perm.mp h
    exact ⟨[], by rw [List.map_eq_nil_iff.mp this], rfl⟩
  | s :: S, l, h => by
    obtain ⟨i, hi, rfl⟩ := List.mem_map.mp (h.mem_iff.mp (List.mem_cons_self ..))
    have h2 : (l.map g).Perm (g i :: (l.erase i).map g) := (List.perm_cons_erase hi).map g
    obtain ⟨o, ho, e⟩ := perm_map_inv g S (l.erase i) (List.Perm.cons_inv (h.trans h2))
    exact ⟨i :: o, (List.Perm.cons i ho).trans (List.perm_cons_erase hi).symm, by rw [List.map_cons, e]⟩
theorem best_le {a a' : Abs} (f : Nat) {l l' : List Nat} (hl : l.Nodup) (hl' : l'.Nodup) (hr : a.repeat_ = a'.repeat_) (hS : (ofOrder a l).Perm (ofOrder a' l')) : (best a f l).2 ≤ (best a' f l').2 := by
  obtain ⟨h1, h2, h3⟩ := best_min a' f hl'
  have h4 : (ofOrder a' (best a' f l').1).Perm (ofOrder a l) := (h1.map _).trans hS.symm
  obtain ⟨o, ho, e⟩ := perm_map_inv _ _ _ h4
  rw [← h2, ← hr]
  have := (best_min a f hl).2.2 o ho
  rw [show ofOrder a o = ofOrder a' (best a' f l').1 from e] at this
  exact this
theorem best_congr {a a' : Abs} (f : Nat) {l l' : List Nat} (hl : l.Nodup) (hl' : l'.Nodup) (hr : a.repeat_ = a'.repeat_) (hS : (ofOrder a l).Perm (ofOrder a' l')) : (best a f l).2 = (best a' f l').2 :=
  Nat.le_antisymm (best_le f hl hl' hr hS) (best_le f hl' hl hr.symm hS.symm)
theorem best_perm (a : Abs) (f : Nat) {l l' : List Nat} (hl : l.Nodup) (h : l.Perm l') : (best a f l).2 = (best a f l').2 := best_congr f hl (h.nodup_iff.mp hl) rfl (h.map _)
/-! ### a strip fewer never needs more -/
theorem gap_tri {r : Nat} (hr : 0 < r) (f t b l : Nat) : gap r f (t % r) ≤ gap r f (b % r) + l + gap r (b + l) (t % r) := by
  have h1 := gap_int_mod hr f t
  have h2 := gap_int_mod hr f b
  have h3 := gap_int_mod hr (b + l) t
  have h4 : ((gap r f (b % r) + l + gap r (b + l) (t % r) : Nat) : Int) % r = ((t : Int) - f) % r := by
    rw [Int.natCast_add, Int.natCast_add, h2, h3]
    rw [Int.add_emod, Int.emod_emod, ← Int.add_emod, Int.add_assoc, Int.add_emod, Int.emod_emod, ← Int.add_emod]
    congr 1
    omega
  have h5 : ((gap r f (b % r) + l + gap r (b + l) (t % r) : Nat) : Int) % r ≤ ((gap r f (b % r) + l + gap r (b + l) (t % r) : Nat) : Int) := by
    have := Nat.mod_le (gap r f (b % r) + l + gap r (b + l) (t % r)) r
    omega
  omega
theorem need_tri {r : Nat} (hr : 0 < r) (f : Nat) (s : Strip) : ∀ S : List Strip, need r f S ≤ gap r f (s.begins % r) + s.long + need r (s.begins + s.long) S
  | [] => Nat.zero_le _
  | t :: S => by
    have := gap_tri hr f t.begins s.begins s.long
    show gap r f (t.begins % r) + t.long + _ ≤ gap r f (s.begins % r) + s.long + (gap r (s.begins + s.long) (t.begins % r) + t.long + _)
    omega
theorem need_sub {r : Nat} (hr : 0 < r) {S' S : List Strip} (h : S'.Sublist S) : ∀ f, need r f S' ≤ need r f S := by
  induction h with
  | slnil => exact fun _ => Nat.le_refl _
  | cons s _ ih =>
    intro f
    refine Nat.le_trans (need_tri hr f s _) ?_
    show _ ≤ gap r f (s.begins % r) + s.long + need r ((s.begins + s.long) % r) _
    rw [need_mod]
    have := ih (s.begins + s.long)
    omega
  | cons_cons s _ ih =>
    intro f
    show gap r f (s.begins % r) + s.long + need r ((s.begins + s.long) % r) _ ≤ gap r f (s.begins % r) + s.long + need r ((s.begins + s.long) % r) _
    have := ih ((s.begins + s.long) % r)
    omega
theorem best_mono (a : Abs) (h0 : 0 < a.repeat_) (f : Nat) {l l' : List Nat} (hl : l.Nodup) (hl' : l'.Nodup) (hs : ∀ x ∈ l', x ∈ l) : (best a f l').2 ≤ (best a f l).2 := by
  obtain ⟨h1, h2, h3⟩ := best_min a f hl
  have hp : ((best a f l).1.filter fun x => decide (x ∈ l')).Perm l' := perm_nd ((h1.nodup_iff.mpr hl).filter _) hl' fun x => by
    rw [List.mem_filter, decide_eq_true_iff, h1.mem_iff]
    exact ⟨fun q => q.2, fun q => ⟨hs x q, q⟩⟩
  refine Nat.le_trans ((best_min a f hl').2.2 _ hp) ?_
  rw [← h2]
  exact need_sub h0 ((List.filter_sublist).map _) f
/-! ### what is needed from a strip's beginning on -/
def F (a : Abs) (l : List Nat) (i : Nat) : Nat := (stripAt a i).long + (best a ((stripAt a i).begins + (stripAt a i).long) (l.filter fun j => j != i)).2
def gF (a : Abs) (f : Nat) (l : List Nat) (i : Nat) : Nat := gap a.repeat_ f ((stripAt a i).begins % a.repeat_) + F a l i
theorem grp_gF (a : Abs) (f : Nat) (l : List Nat) (i : Nat) : (grp a f l i).2 = gF a f l i := by
  unfold grp gF F
  omega
theorem least_is (a : Abs) (f : Nat) {l : List Nat} (hl : l.Nodup) {M : Nat} (h1 : M ∈ l.map (gF a f l)) (h2 : ∀ y ∈ l.map (gF a f l), M ≤ y) : M = (best a f l).2 := by
  have hne : l ≠ [] := fun e => by rw [e] at h1; cases h1
  obtain ⟨b1, b2⟩ := fm_min (best_step a f hl hne)
  obtain ⟨i, hi, rfl⟩ := List.mem_map.mp h1
  obtain ⟨j, hj, e⟩ := List.mem_map.mp b1
  have q1 := b2 _ (List.mem_map.mpr ⟨i, hi, rfl⟩)
  have q2 := h2 _ (List.mem_map.mpr ⟨j, hj, rfl⟩)
  rw [grp_gF] at q1
  rw [← grp_gF a f l j, e] at q2
  omega
theorem first_is (a : Abs) (f : Nat) {l : List Nat} (hl : l.Nodup) {k i : Nat} (hk : l[k]? = some i) (hm : ∀ j y, l[j]? = some y → gF a f l i ≤ gF a f l y ∧ (j < k → gF a f l i < gF a f l y)) : best a f l = grp a f l i := by
  have hne : l ≠ [] := fun e => by rw [e] at hk; simp at hk
  have h1 : fm (l.map (grp a f l)) = some (grp a f l i) := fm_at (k := k) (by rw [List.getElem?_map, hk]; rfl) fun j y hj => by
    rw [List.getElem?_map] at hj
    cases e : l[j]? with
    | none => rw [e] at hj; cases hj
    | some z =>
      rw [e] at hj
      cases hj
      rw [grp_gF, grp_gF]
      exact hm j z e
  exact Option.some.inj ((best_step a f hl hne).symm.trans h1)
end PM

end

section
set_option linter.all false
namespace PM
open Kh351
/-! ### where an order ends -/
theorem gap_end {r : Nat} (hr : 0 < r) (e b : Nat) : (e + gap r e (b % r)) % r = b % r := by
  have h1 : (((e + gap r e (b % r)) % r : Nat) : Int) = ((b % r : Nat) : Int) := by
    rw [Int.natCast_emod, Int.natCast_add, gap_int_mod hr, Int.natCast_emod]
    rw [Int.add_emod_emod]
    congr 1
    omega
  omega
theorem need_go {r : Nat} (hr : 0 < r) (e : Nat) (s : Strip) (l : List Strip) : need r e (s :: l) = gap r e (s.begins % r) + s.long + need r (e + gap r e (s.begins % r) + s.long) l := by
  show gap r e (s.begins % r) + s.long + need r ((s.begins + s.long) % r) l = _
  rw [← need_mod r (e + gap r e (s.begins % r) + s.long) l]
  rw [show (s.begins + s.long) % r = (e + gap r e (s.begins % r) + s.long) % r by rw [Nat.add_mod (e + gap r e (s.begins % r)), gap_end hr, ← Nat.add_mod]]
theorem need_snoc {r : Nat} (hr : 0 < r) (s : Strip) : ∀ (X : List Strip) (f : Nat), need r f (X ++ [s]) = need r f X + gap r (f + need r f X) (s.begins % r) + s.long
  | [], f => by
    show gap r f (s.begins % r) + s.long + 0 = 0 + gap r (f + 0) (s.begins % r) + s.long
    rw [Nat.add_zero f]
    omega
  | t :: X, f => by
    rw [List.cons_append, need_go hr, need_go hr f t X, need_snoc hr s X]
    rw [show f + gap r f (t.begins % r) + t.long + need r (f + gap r f (t.begins % r) + t.long) X = f + (gap r f (t.begins % r) + t.long + need r (f + gap r f (t.begins % r) + t.long) X) by omega]
    omega
theorem need_last {r : Nat} (hr : 0 < r) (s : Strip) (X : List Strip) : need r 0 (X ++ [s]) % r = (s.begins + s.long) % r := by
  rw [need_snoc hr, Nat.zero_add, Nat.add_mod, gap_end hr, ← Nat.add_mod]
theorem gap_same {r e e' t : Nat} (h : e % r = e' % r) : gap r e t = gap r e' t := by
  unfold gap
  rw [h]
/-! ### best_last -/
def IsLast (a : Abs) (l : List Nat) (i v : Nat) : Prop := (∃ o : List Nat, o.Perm l ∧ need a.repeat_ 0 (ofOrder a (o ++ [i])) = v) ∧ ∀ o : List Nat, o.Perm l → v ≤ need a.repeat_ 0 (ofOrder a (o ++ [i]))
theorem IsLast.uniq {a : Abs} {l : List Nat} {i v w : Nat} (h : IsLast a l i v) (h' : IsLast a l i w) : v = w := by
  obtain ⟨⟨o, p, e⟩, q⟩ := h
  obtain ⟨⟨o', p', e'⟩, q'⟩ := h'
  have h1 := q o' p'
  have h2 := q' o p
  omega
theorem fold_mins : ∀ (L : List Nat) (b : Nat), L.foldl min b ≤ b ∧ (∀ y ∈ L, L.foldl min b ≤ y) ∧ (L.foldl min b = b ∨ L.foldl min b ∈ L)
  | [], b => ⟨Nat.le_refl _, fun y hy => (by cases hy), .inl rfl⟩
  | x :: L, b => by
    obtain ⟨h1, h2, h3⟩ := fold_mins L (min b x)
    show L.foldl min (min b x) ≤ b ∧ (∀ y ∈ x :: L, L.foldl min (min b x) ≤ y) ∧ (L.foldl min (min b x) = b ∨ L.foldl min (min b x) ∈ x :: L)
    refine ⟨by omega, fun y hy => ?_, ?_⟩
    · rcases List.mem_cons.mp hy with rfl | hy
      · omega
      · exact h2 y hy
    · rcases h3 with h3 | h3
      · by_cases hb : b ≤ x
        · exact .inl (by omega)
        · exact .inr (by rw [h3, Nat.min_eq_right (by omega)]; exact List.mem_cons_self ..)
      · exact .inr (List.mem_cons_of_mem _ h3)
theorem bestLast_is (a : Abs) (i : Nat) : IsLast a ((List.range a.strips.length).filter fun j => j != i) i (bestLast a i) := by
  have hl : ((List.range a.strips.length).filter fun j => j != i).Nodup := List.nodup_range.filter _
  unfold bestLast
  obtain ⟨h1, h2, h3⟩ := fold_mins ((all ((List.range a.strips.length).filter fun j => j != i)).map fun o => need a.repeat_ 0 (ofOrder a (o ++ [i]))) (need a.repeat_ 0 (ofOrder a (((List.range a.strips.length).filter fun j => j != i) ++ [i])))
  refine ⟨?_, fun o ho => h2 _ (List.mem_map.mpr ⟨o, (mem_all _ rfl hl o).mpr ho, rfl⟩)⟩
  rcases h3 with h3 | h3
  · exact ⟨_, List.Perm.refl _, h3.symm⟩
  · obtain ⟨o, ho, e⟩ := List.mem_map.mp h3
    exact ⟨o, (mem_all _ rfl hl o).mp ho, e⟩
theorem ofOrder_snoc (a : Abs) (o : List Nat) (i : Nat) : ofOrder a (o ++ [i]) = ofOrder a o ++ [stripAt a i] := List.map_append ..
theorem last_nil (a : Abs) (i : Nat) (h : (stripAt a i).begins < a.repeat_) : IsLast a [] i ((stripAt a i).begins + (stripAt a i).long) := by
  have hv : ∀ o : List Nat, o.Perm [] → need a.repeat_ 0 (ofOrder a (o ++ [i])) = (stripAt a i).begins + (stripAt a i).long := fun o ho => by
    rw [List.perm_nil.mp ho, ofOrder_snoc]
    show gap a.repeat_ 0 ((stripAt a i).begins % a.repeat_) + (stripAt a i).long + 0 = _
    unfold gap
    rw [Nat.zero_mod, Nat.sub_zero, Nat.add_mod_right, Nat.mod_mod, Nat.mod_eq_of_lt h]
    omega
  exact ⟨⟨[], List.Perm.refl _, hv [] (List.Perm.refl _)⟩, fun o ho => Nat.le_of_eq (hv o ho).symm⟩
/-- strip i behind an order that ends at e -/
def nxtE (a : Abs) (i e : Nat) : Nat := e + gap a.repeat_ e ((stripAt a i).begins % a.repeat_) + (stripAt a i).long
theorem last_step (a : Abs) (h0 : 0 < a.repeat_) {l : List Nat} (hl : l.Nodup) (i : Nat) (e : Nat → Nat) (he : ∀ j ∈ l, IsLast a (l.filter fun k => k != j) j (e j)) {M : Nat} (h1 : M ∈ l.map fun j => nxtE a i (e j)) (h2 : ∀ y ∈ l.map (fun j => nxtE a i (e j)), M ≤ y) : IsLast a l i M := by
  have key : ∀ (o : List Nat) (j : Nat), need a.repeat_ 0 (ofOrder a ((o ++ [j]) ++ [i])) = nxtE a i (need a.repeat_ 0 (ofOrder a (o ++ [j]))) := fun o j => by
    rw [ofOrder_snoc a (o ++ [j]), need_snoc h0, Nat.zero_add]
    rfl
  have modj : ∀ (o : List Nat) (j : Nat), need a.repeat_ 0 (ofOrder a (o ++ [j])) % a.repeat_ = ((stripAt a j).begins + (stripAt a j).long) % a.repeat_ := fun o j => by
    rw [ofOrder_snoc, need_last h0]
  have same : ∀ (x y : Nat), x % a.repeat_ = y % a.repeat_ → x ≤ y → nxtE a i x ≤ nxtE a i y := fun x y hm hle => by
    unfold nxtE
    rw [gap_same hm]
    omega
  refine ⟨?_, fun o ho => ?_⟩
  · obtain ⟨j, hj, rfl⟩ := List.mem_map.mp h1
    obtain ⟨⟨o, po, eo⟩, _⟩ := he j hj
    refine ⟨o ++ [j], ?_, by rw [key, eo]⟩
    rw [filter_erase hl] at po
    exact (List.perm_append_comm.trans (List.Perm.cons j po)).trans (List.perm_cons_erase hj).symm
  · have hne : o ≠ [] := fun e => by
      rw [e] at ho
      rw [List.nil_perm.mp ho] at h1
      cases h1
    obtain ⟨o', j, rfl⟩ : ∃ o' j, o = o' ++ [j] := ⟨o.dropLast, o.getLast hne, (List.dropLast_concat_getLast hne).symm⟩
    have hj : j ∈ l := ho.mem_iff.mp (by simp)
    have po : o'.Perm (l.filter fun k => k != j) := by
      rw [filter_erase hl]
      exact List.Perm.cons_inv ((List.perm_append_comm.symm.trans ho).trans (List.perm_cons_erase hj))
    obtain ⟨⟨o2, po2, eo2⟩, hle⟩ := he j hj
    rw [key]
    refine Nat.le_trans (h2 _ (List.mem_map.mpr ⟨j, hj, rfl⟩)) (same _ _ ?_ (hle o' po))
    rw [modj, ← eo2, modj]
/-! ### best_move -/
def mvS (r k : Nat) (s : Strip) : Strip := { s with begins := (s.begins + k) % r }
theorem gap_mv {r : Nat} (hr : 0 < r) (f b k : Nat) : gap r (f + k) ((b + k) % r % r) = gap r f (b % r) := by
  have h1 := gap_int_mod hr (f + k) ((b + k) % r)
  have h2 := gap_int_mod hr f b
  have h3 : (((b + k) % r : Nat) : Int) = ((b : Int) + k) % r := by rw [Int.natCast_emod, Int.natCast_add]
  rw [h3, Int.emod_sub_emod, Int.natCast_add] at h1
  have : ((b : Int) + k - (f + k)) = b - f := by omega
  rw [this] at h1
  omega
theorem need_mv {r : Nat} (hr : 0 < r) (k : Nat) : ∀ (S : List Strip) (f : Nat), need r (f + k) (S.map (mvS r k)) = need r f S
  | [], f => rfl
  | s :: S, f => by
    show gap r (f + k) ((s.begins + k) % r % r) + s.long + need r (((s.begins + k) % r + s.long) % r) (S.map (mvS r k)) = gap r f (s.begins % r) + s.long + need r ((s.begins + s.long) % r) S
    rw [gap_mv hr, need_mod, ← need_mv hr k S, ← need_mod r ((s.begins + k) % r + s.long), ← need_mod r ((s.begins + s.long) % r + k)]
    rw [Nat.mod_add_mod, Nat.mod_add_mod, show s.begins + s.long + k = s.begins + k + s.long by omega]
theorem strip_mv {a : Abs} {i : Nat} (k : Nat) (h : i < a.strips.length) : stripAt (moved a k) i = mvS a.repeat_ k (stripAt a i) := by
  unfold stripAt moved
  rw [List.getD_eq_getElem?_getD, List.getD_eq_getElem?_getD, List.getElem?_map, List.getElem?_eq_getElem h]
  rfl
theorem ofOrder_mv {a : Abs} (k : Nat) {o : List Nat} (h : ∀ i ∈ o, i < a.strips.length) : ofOrder (moved a k) o = (ofOrder a o).map (mvS a.repeat_ k) := by
  unfold ofOrder
  rw [List.map_map]
  exact List.map_congr_left fun i hi => strip_mv k (h i hi)
theorem best_mv {a : Abs} (h0 : 0 < a.repeat_) (k f : Nat) {l : List Nat} (hl : l.Nodup) (h : ∀ i ∈ l, i < a.strips.length) : (best (moved a k) (f + k) l).2 = (best a f l).2 := by
  obtain ⟨p1, p2, p3⟩ := best_min a f hl
  obtain ⟨q1, q2, q3⟩ := best_min (moved a k) (f + k) hl
  have e : ∀ o : List Nat, o.Perm l → need (moved a k).repeat_ (f + k) (ofOrder (moved a k) o) = need a.repeat_ f (ofOrder a o) := fun o ho => by
    rw [ofOrder_mv k fun i hi => h i (ho.mem_iff.mp hi)]
    exact need_mv h0 k _ f
  refine Nat.le_antisymm ?_ ?_
  · rw [← p2, ← e _ p1]
    exact q3 _ p1
  · rw [← q2, e _ q1]
    exact p3 _ q1
theorem F_mv {a : Abs} (h0 : 0 < a.repeat_) (k : Nat) {l : List Nat} (hl : l.Nodup) (h : ∀ i ∈ l, i < a.strips.length) {i : Nat} (hi : i ∈ l) : F (moved a k) l i = F a l i := by
  unfold F
  rw [strip_mv k (h i hi)]
  show (stripAt a i).long + (best (moved a k) (((stripAt a i).begins + k) % a.repeat_ + (stripAt a i).long) _).2 = _
  congr 1
  rw [← best_mv h0 k ((stripAt a i).begins + (stripAt a i).long) (hl.filter _) fun j hj => h j (List.mem_filter.mp hj).1]
  have e1 := best_mod (moved a k) (((stripAt a i).begins + k) % a.repeat_ + (stripAt a i).long) (l.filter fun j => j != i)
  have e2 := best_mod (moved a k) ((stripAt a i).begins + (stripAt a i).long + k) (l.filter fun j => j != i)
  rw [← e1, ← e2]
  show (best (moved a k) ((((stripAt a i).begins + k) % a.repeat_ + (stripAt a i).long) % a.repeat_) _).2 = (best (moved a k) (((stripAt a i).begins + (stripAt a i).long + k) % a.repeat_) _).2
  rw [Nat.mod_add_mod, show (stripAt a i).begins + (stripAt a i).long + k = (stripAt a i).begins + k + (stripAt a i).long by omega]
theorem fold_move (g : Nat → Nat) : ∀ (r : Nat), (List.range (r + 1)).foldl (fun (b : Nat × Nat) k => if g k < b.2 then (k, g k) else b) (0, g 0) = ((List.range (r + 1)).foldl (fun (b : Nat × Nat) k => if g k < b.2 then (k, g k) else b) (0, g 0)) ∧
    ∃ s, s < r + 1 ∧ (List.range (r + 1)).foldl (fun (b : Nat × Nat) k => if g k < b.2 then (k, g k) else b) (0, g 0) = (s, g s) ∧ (∀ j, j < r + 1 → g s ≤ g j) ∧ ∀ j, j < s → g s < g j
  | 0 => ⟨rfl, 0, Nat.zero_lt_one, by simp, fun j hj => by rw [show j = 0 by omega]; exact Nat.le_refl _, fun j hj => absurd hj (Nat.not_lt_zero _)⟩
  | r + 1 => by
    refine ⟨rfl, ?_⟩
    obtain ⟨_, s, h1, h2, h3, h4⟩ := fold_move g r
    rw [List.range_succ, List.foldl_append, h2]
    show ∃ s', s' < r + 2 ∧ (if g (r + 1) < g s then (r + 1, g (r + 1)) else (s, g s)) = (s', g s') ∧ _
    by_cases h : g (r + 1) < g s
    · rw [if_pos h]
      refine ⟨r + 1, by omega, rfl, fun j hj => ?_, fun j hj => ?_⟩
      · by_cases e : j = r + 1
        · rw [e]
          exact Nat.le_refl _
        · have := h3 j (by omega)
          omega
      · have := h3 j (by omega)
        omega
    · rw [if_neg h]
      refine ⟨s, by omega, rfl, fun j hj => ?_, h4⟩
      by_cases e : j = r + 1
      · rw [e]
        omega
      · exact h3 j (by omega)
theorem moved_zero {a : Abs} (h : ∀ x ∈ a.strips, x.begins < a.repeat_) : moved a 0 = a := by
  unfold moved
  have : (a.strips.map fun s => { s with begins := (s.begins + 0) % a.repeat_ }) = a.strips := by
    conv => rhs; rw [← List.map_id a.strips]
    exact List.map_congr_left fun x hx => by
      show Strip.mk x.long ((x.begins + 0) % a.repeat_) = x
      rw [Nat.add_zero, Nat.mod_eq_of_lt (h x hx)]
  rw [this]
theorem move_is {a : Abs} (h0 : 0 < a.repeat_) (h : ∀ x ∈ a.strips, x.begins < a.repeat_) {s v : Nat} (hs : s < a.repeat_) (hv : (best (moved a s) 0 (List.range a.strips.length)).2 = v)
    (h1 : ∀ j, j < a.repeat_ → v ≤ (best (moved a j) 0 (List.range a.strips.length)).2) (h2 : ∀ j, j < s → v < (best (moved a j) 0 (List.range a.strips.length)).2) : bestMove a = (s, v) := by
  unfold bestMove
  obtain ⟨r, hr⟩ : ∃ r, a.repeat_ = r + 1 := ⟨a.repeat_ - 1, by omega⟩
  obtain ⟨_, s', k1, k2, k3, k4⟩ := fold_move (fun k => (best (moved a k) 0 (List.range a.strips.length)).2) r
  have e0 : (best (moved a 0) 0 (List.range a.strips.length)).2 = (best a 0 (List.range a.strips.length)).2 := by rw [moved_zero h]

  rw [e0] at k2
  rw [hr]
  refine Eq.trans k2 ?_
  have hss : s' = s := by
    have a1 := h1 s' (by omega)
    have a2 := k3 s (by omega)
    rcases Nat.lt_trichotomy s' s with q | q | q
    · have := h2 s' q
      omega
    · exact q
    · have := k4 s q
      omega
  subst hss
  rw [hv]
theorem gap_zero {r b : Nat} (hb : b < r) : gap r 0 (b % r) = b := by
  unfold gap
  rw [Nat.zero_mod, Nat.sub_zero, Nat.add_mod_right, Nat.mod_mod, Nat.mod_eq_of_lt hb]
/-- by how much strip i has to go on, to begin with the roll -/
def sh (a : Abs) (i : Nat) : Nat := (a.repeat_ - (stripAt a i).begins) % a.repeat_
theorem shift_is {a : Abs} (h0 : 0 < a.repeat_) (h : ∀ x ∈ a.strips, x.begins < a.repeat_) {v s : Nat} (hn : a.strips ≠ []) (hv1 : v ∈ (List.range a.strips.length).map (F a (List.range a.strips.length))) (hv2 : ∀ y ∈ (List.range a.strips.length).map (F a (List.range a.strips.length)), v ≤ y)
    (hs1 : ∃ i, i < a.strips.length ∧ F a (List.range a.strips.length) i = v ∧ s = sh a i) (hs2 : ∀ i, i < a.strips.length → F a (List.range a.strips.length) i = v → s ≤ sh a i) : bestMove a = (s, v) := by
  have hnd : (List.range a.strips.length).Nodup := List.nodup_range
  have hb : ∀ i, i < a.strips.length → (stripAt a i).begins < a.repeat_ := fun i hi => h _ (by
    unfold stripAt
    rw [List.getD_eq_getElem?_getD, List.getElem?_eq_getElem hi]
    exact List.getElem_mem hi)
  have g : ∀ k i, i < a.strips.length → gF (moved a k) 0 (List.range a.strips.length) i = ((stripAt a i).begins + k) % a.repeat_ + F a (List.range a.strips.length) i := fun k i hi => by
    unfold gF
    rw [F_mv h0 k hnd (fun j hj => List.mem_range.mp hj) (List.mem_range.mpr hi), strip_mv k hi]
    show gap a.repeat_ 0 (((stripAt a i).begins + k) % a.repeat_ % a.repeat_) + _ = _
    rw [gap_zero (Nat.mod_lt _ h0)]
  have hne : List.range a.strips.length ≠ [] := fun e => hn (List.length_eq_zero_iff.mp (List.range_eq_nil.mp e))
  have val : ∀ k, ∃ i, i < a.strips.length ∧ (best (moved a k) 0 (List.range a.strips.length)).2 = ((stripAt a i).begins + k) % a.repeat_ + F a (List.range a.strips.length) i := fun k => by
    obtain ⟨b1, b2⟩ := fm_min (best_step (moved a k) 0 hnd hne)
    obtain ⟨i, hi, e⟩ := List.mem_map.mp b1
    refine ⟨i, List.mem_range.mp hi, ?_⟩
    rw [← e, grp_gF, g k i (List.mem_range.mp hi)]
  have le : ∀ k i, i < a.strips.length → (best (moved a k) 0 (List.range a.strips.length)).2 ≤ ((stripAt a i).begins + k) % a.repeat_ + F a (List.range a.strips.length) i := fun k i hi => by
    obtain ⟨b1, b2⟩ := fm_min (best_step (moved a k) 0 hnd hne)
    have := b2 _ (List.mem_map.mpr ⟨i, List.mem_range.mpr hi, rfl⟩)
    rw [grp_gF, g k i hi] at this
    exact this
  have vle : ∀ i, i < a.strips.length → v ≤ F a (List.range a.strips.length) i := fun i hi => hv2 _ (List.mem_map.mpr ⟨i, List.mem_range.mpr hi, rfl⟩)
  obtain ⟨i, hi, hFi, rfl⟩ := hs1
  have shb : ∀ i, i < a.strips.length → ((stripAt a i).begins + sh a i) % a.repeat_ = 0 := fun i hi => by
    have := hb i hi
    unfold sh
    rw [Nat.add_mod_mod, show (stripAt a i).begins + (a.repeat_ - (stripAt a i).begins) = a.repeat_ by omega, Nat.mod_self]
  have low : ∀ j, v ≤ (best (moved a j) 0 (List.range a.strips.length)).2 := fun j => by
    obtain ⟨m, hm, e⟩ := val j
    have := vle m hm
    omega
  refine move_is h0 h (Nat.mod_lt _ h0) ?_ (fun j _ => low j) fun j hj => ?_
  · have := le (sh a i) i hi
    rw [shb i hi, hFi] at this
    have := low (sh a i)
    omega
  · refine Nat.lt_of_le_of_ne (low j) fun e => ?_
    obtain ⟨m, hm, e2⟩ := val j
    have h3 := vle m hm
    have hm0 : ((stripAt a m).begins + j) % a.repeat_ = 0 := by omega
    have hmF : F a (List.range a.strips.length) m = v := by omega
    have h4 := hs2 m hm hmF
    have hbm := hb m hm
    have hsr : sh a i < a.repeat_ := Nat.mod_lt _ h0
    have hjr : j < a.repeat_ := by omega
    have : sh a m = j := by
      unfold sh
      by_cases hz : (stripAt a m).begins + j < a.repeat_
      · rw [Nat.mod_eq_of_lt hz] at hm0
        rw [show (stripAt a m).begins = 0 by omega, Nat.sub_zero, Nat.mod_self]
        omega
      · rw [Nat.mod_eq_sub_mod (by omega), Nat.mod_eq_of_lt (by omega)] at hm0
        rw [show a.repeat_ - (stripAt a m).begins = j by omega, Nat.mod_eq_of_lt hjr]
    omega
theorem move_nil {a : Abs} (hn : a.strips = []) : bestMove a = (0, 0) := by
  unfold bestMove
  have e : ∀ k, (best (moved a k) 0 (List.range a.strips.length)).2 = 0 := fun k => by
    rw [hn]
    rfl
  have e0 : (best a 0 (List.range a.strips.length)).2 = 0 := by
    rw [hn]
    rfl
  rw [e0]
  have : ∀ L : List Nat, L.foldl (fun (b : Nat × Nat) k => let n := (best (moved a k) 0 (List.range a.strips.length)).2
      if n < b.2 then (k, n) else b) (0, 0) = (0, 0) := fun L => by
    induction L with
    | nil => rfl
    | cons k L ih =>
      rw [List.foldl_cons]
      dsimp only
      rw [if_neg (Nat.not_lt_zero _)]
      exact ih
  exact this _
end PM

end

section
set_option linter.all false
namespace PM
open Kh351
/-! ### strips given to rolls -/
def ld (loads : List Nat) (j : Nat) : Nat := loads.getD j 0
theorem ld_set_self {loads : List Nat} {j v : Nat} (h : j < loads.length) : ld (loads.set j v) j = v := by
  unfold ld
  rw [List.getD_eq_getElem?_getD, List.getElem?_set_self h]
  rfl
theorem ld_set_ne {loads : List Nat} {i j v : Nat} (h : i ≠ j) : ld (loads.set i v) j = ld loads j := by
  unfold ld
  rw [List.getD_eq_getElem?_getD, List.getElem?_set_ne h, List.getD_eq_getElem?_getD]
/-- roll j is given strip i -/
def giv (loads : List Nat) (j i : Nat) : List Nat := loads.set j (ld loads j + 2 ^ i)
theorem giv_len (loads : List Nat) (j i : Nat) : (giv loads j i).length = loads.length := List.length_set ..
def wayR (ok : Nat → Nat → Bool) : List Nat → List Nat → Option (List Nat)
  | [], _ => some []
  | i :: left, loads => (List.range loads.length).findSome? fun j => if ok j (ld loads j + 2 ^ i) = true then (wayR ok left (giv loads j i)).map fun w => j :: w else none
def run : List Nat → List Nat → List Nat → List Nat
  | i :: left, j :: w, loads => run left w (giv loads j i)
  | _, _, loads => loads
theorem run_len : ∀ (left w loads : List Nat), (run left w loads).length = loads.length
  | [], _, _ => by
    unfold run
    rfl
  | _ :: _, [], _ => rfl
  | i :: left, j :: w, loads => by
    show (run left w (giv loads j i)).length = _
    rw [run_len, giv_len]
theorem run_app : ∀ (l1 w1 : List Nat) (l2 w2 loads : List Nat), l1.length = w1.length → run (l1 ++ l2) (w1 ++ w2) loads = run l2 w2 (run l1 w1 loads)
  | [], [], _, _, _, _ => by
    rw [List.nil_append, List.nil_append]
    rfl
  | i :: l1, j :: w1, l2, w2, loads, h => by
    show run (l1 ++ l2) (w1 ++ w2) (giv loads j i) = run l2 w2 (run l1 w1 (giv loads j i))
    exact run_app l1 w1 l2 w2 _ (Nat.succ.inj h)
def allOk (ok : Nat → Nat → Bool) (loads : List Nat) : Bool := (List.range loads.length).all fun j => ok j (ld loads j)
theorem allOk_iff {ok : Nat → Nat → Bool} {loads : List Nat} : allOk ok loads = true ↔ ∀ j, j < loads.length → ok j (ld loads j) = true := by
  unfold allOk
  rw [List.all_eq_true]
  exact ⟨fun h j hj => h j (List.mem_range.mpr hj), fun h j hj => h j (List.mem_range.mp hj)⟩
/-- no strip that is left has been given -/
def Apart (left loads : List Nat) : Prop := left.Nodup ∧ ∀ j, j < loads.length → ∀ i ∈ left, (ld loads j).testBit i = false
theorem Apart.giv {i : Nat} {left loads : List Nat} (h : Apart (i :: left) loads) {j : Nat} (hj : j < loads.length) : Apart left (giv loads j i) := by
  obtain ⟨h1, h2⟩ := h
  have hn := List.nodup_cons.mp h1
  refine ⟨hn.2, fun j' hj' i' hi' => ?_⟩
  rw [giv_len] at hj'
  unfold PM.giv
  by_cases e : j = j'
  · subst e
    rw [ld_set_self hj, tb_add i _ i' (h2 j hj i (List.mem_cons_self ..)), h2 j hj i' (List.mem_cons_of_mem _ hi'), Bool.false_or]
    exact decide_eq_false fun q => hn.1 (q ▸ hi')
  · rw [ld_set_ne e]
    exact h2 j' hj' i' (List.mem_cons_of_mem _ hi')
section
variable {ok : Nat → Nat → Bool} (mono : ∀ j m i, m.testBit i = false → ok j (m + 2 ^ i) = true → ok j m = true)
include mono
theorem run_mono : ∀ (left w loads : List Nat), Apart left loads → (∀ x ∈ w, x < loads.length) → allOk ok (run left w loads) = true → allOk ok loads = true
  | [], _, _, _, _, h => by
    unfold run at h
    exact h
  | _ :: _, [], _, _, _, h => h
  | i :: left, j :: w, loads, A, hw, h => by
    have hj : j < loads.length := hw j (List.mem_cons_self ..)
    have ih := run_mono left w (giv loads j i) (A.giv hj) (fun x hx => by rw [giv_len]; exact hw x (List.mem_cons_of_mem _ hx)) h
    rw [allOk_iff] at ih ⊢
    intro j' hj'
    have := ih j' (by rw [giv_len]; exact hj')
    unfold giv at this
    by_cases e : j = j'
    · subst e
      rw [ld_set_self hj] at this
      exact mono _ _ _ (A.2 j hj i (List.mem_cons_self ..)) this
    · rw [ld_set_ne e] at this
      exact this
theorem find_congr {α : Type} {p q : α → Bool} : ∀ {l : List α}, (∀ x ∈ l, p x = q x) → l.find? p = l.find? q
  | [], _ => rfl
  | x :: l, h => by
    rw [List.find?_cons, List.find?_cons, h x (List.mem_cons_self ..), find_congr fun y hy => h y (List.mem_cons_of_mem _ hy)]
theorem findSome_congr {α β : Type} {p q : α → Option β} : ∀ {l : List α}, (∀ x ∈ l, p x = q x) → l.findSome? p = l.findSome? q
  | [], _ => rfl
  | x :: l, h => by
    rw [List.findSome?_cons, List.findSome?_cons, h x (List.mem_cons_self ..), findSome_congr fun y hy => h y (List.mem_cons_of_mem _ hy)]
omit mono in
theorem givings_mem : ∀ (m k : Nat) (w : List Nat), w ∈ givings m k → w.length = m ∧ ∀ x ∈ w, x < k
  | 0, k, w, h => by
    rw [List.mem_singleton.mp h]
    exact ⟨rfl, fun x hx => (by cases hx)⟩
  | m + 1, k, w, h => by
    obtain ⟨j, hj, h2⟩ := List.mem_flatMap.mp h
    obtain ⟨w', h3, rfl⟩ := List.mem_map.mp h2
    obtain ⟨e1, e2⟩ := givings_mem m k w' h3
    refine ⟨by rw [List.length_cons, e1], fun x hx => ?_⟩
    rcases List.mem_cons.mp hx with rfl | hx
    · exact List.mem_range.mp hj
    · exact e2 x hx
theorem way_spec : ∀ (left loads : List Nat), Apart left loads → allOk ok loads = true → wayR ok left loads = (givings left.length loads.length).find? fun w => allOk ok (run left w loads)
  | [], loads, _, h => by
    show some [] = List.find? _ [[]]
    rw [List.find?_cons]
    have e : allOk ok (run [] [] loads) = true := h
    rw [e]
  | i :: left, loads, A, h => by
    show (List.range loads.length).findSome? _ = ((List.range loads.length).flatMap fun j => (givings left.length loads.length).map fun w => j :: w).find? _
    rw [List.find?_flatMap]
    refine findSome_congr mono fun j hj => ?_
    have hj := List.mem_range.mp hj
    rw [List.find?_map]
    have e : ((fun w => allOk ok (run (i :: left) w loads)) ∘ fun w => j :: w) = fun w => allOk ok (run left w (giv loads j i)) := rfl
    rw [e]
    by_cases hk : ok j (ld loads j + 2 ^ i) = true
    · rw [if_pos hk]
      have h2 : allOk ok (giv loads j i) = true := by
        rw [allOk_iff] at h ⊢
        intro j' hj'
        rw [giv_len] at hj'
        unfold giv
        by_cases e : j = j'
        · subst e
          rw [ld_set_self hj]
          exact hk
        · rw [ld_set_ne e]
          exact h j' hj'
      rw [way_spec left (giv loads j i) (A.giv hj) h2, giv_len]
    · rw [if_neg hk]
      symm
      rw [Option.map_eq_none_iff, List.find?_eq_none]
      intro w hw hx
      obtain ⟨e1, e2⟩ := givings_mem _ _ _ hw
      have := run_mono mono left w (giv loads j i) (A.giv hj) (fun x hx => by rw [giv_len]; exact e2 x hx) hx
      have := allOk_iff.mp this j (by rw [giv_len]; exact hj)
      unfold giv at this
      rw [ld_set_self hj] at this
      exact hk this
end
/-! ### the loads behind a way, as sets -/
def sel (left w : List Nat) (j : Nat) : List Nat := (left.zip w).filterMap fun x => if x.2 = j then some x.1 else none
theorem bl_add_perm {n m i : Nat} (hi : i < n) (h : m.testBit i = false) : (bl n (m + 2 ^ i)).Perm (i :: bl n m) := by
  refine perm_nd (bl_nodup _ _) (List.nodup_cons.mpr ⟨fun q => by rw [mem_bl, h] at q; exact absurd q.2 (by decide), bl_nodup _ _⟩) fun x => ?_
  rw [List.mem_cons, mem_bl, mem_bl, tb_add i m x h, Bool.or_eq_true, decide_eq_true_iff]
  constructor
  · rintro ⟨h1, h2 | h2⟩
    · exact .inr ⟨h1, h2⟩
    · exact .inl h2
  · rintro (rfl | ⟨h1, h2⟩)
    · exact ⟨hi, .inr rfl⟩
    · exact ⟨h1, .inl h2⟩
theorem run_bl {n : Nat} : ∀ (left w loads : List Nat), Apart left loads → left.length = w.length → (∀ x ∈ w, x < loads.length) → (∀ x ∈ left, x < n) → ∀ j, j < loads.length → (bl n (ld (run left w loads) j)).Perm (sel left w j ++ bl n (ld loads j))
  | [], [], loads, _, _, _, _, j, _ => List.Perm.refl _
  | i :: left, y :: w, loads, A, hl, hw, hn, j, hj => by
    have hy : y < loads.length := hw y (List.mem_cons_self ..)
    have ih := run_bl (n := n) left w (giv loads y i) (A.giv hy) (Nat.succ.inj hl) (fun x hx => by rw [giv_len]; exact hw x (List.mem_cons_of_mem _ hx)) (fun x hx => hn x (List.mem_cons_of_mem _ hx)) j (by rw [giv_len]; exact hj)
    show (bl n (ld (run left w (giv loads y i)) j)).Perm _
    have es : sel (i :: left) (y :: w) j = (if y = j then [i] else []) ++ sel left w j := by
      unfold sel
      rw [List.zip_cons_cons, List.filterMap_cons]
      by_cases e : y = j
      · rw [if_pos e, if_pos e]
        rfl
      · rw [if_neg e, if_neg e]
        rfl
    rw [es]
    by_cases e : y = j
    · subst e
      rw [if_pos rfl]
      unfold giv at ih
      rw [ld_set_self hy] at ih
      have h2 := bl_add_perm (n := n) (hn i (List.mem_cons_self ..)) (A.2 y hy i (List.mem_cons_self ..))
      exact (ih.trans (List.Perm.append_left _ h2)).trans (by simpa using List.perm_middle)
    · rw [if_neg e, List.nil_append]
      unfold giv at ih
      rw [ld_set_ne e] at ih
      exact ih
theorem ofRoll_cons (y : Nat) (w : List Nat) (j : Nat) : ofRoll (y :: w) j = (if y = j then [0] else []) ++ (ofRoll w j).map (· + 1) := by
  unfold ofRoll
  rw [List.length_cons, List.range_succ_eq_map, List.filter_cons, List.filter_map]
  have e : ((fun i => (y :: w).getD i 0 == j) ∘ Nat.succ) = fun i => w.getD i 0 == j := rfl
  rw [e]
  by_cases h : y = j
  · rw [if_pos h, if_pos (show ((y :: w).getD 0 0 == j) = true from beq_iff_eq.mpr h)]
    rfl
  · rw [if_neg h, if_neg (show ¬ ((y :: w).getD 0 0 == j) = true from fun q => h (beq_iff_eq.mp q))]
    rfl
theorem sel_ofRoll : ∀ (left w : List Nat) (j : Nat), left.length = w.length → sel left w j = (ofRoll w j).map fun t => left.getD t 0
  | [], [], j, _ => rfl
  | i :: left, y :: w, j, h => by
    have es : sel (i :: left) (y :: w) j = (if y = j then [i] else []) ++ sel left w j := by
      unfold sel
      rw [List.zip_cons_cons, List.filterMap_cons]
      by_cases e : y = j
      · rw [if_pos e, if_pos e]
        rfl
      · rw [if_neg e, if_neg e]
        rfl
    rw [es, ofRoll_cons, sel_ofRoll left w j (Nat.succ.inj h), List.map_append, List.map_map]
    congr 1
    by_cases e : y = j
    · rw [if_pos e, if_pos e]
      rfl
    · rw [if_neg e, if_neg e]
      rfl
theorem ofRoll_nodup (w : List Nat) (j : Nat) : (ofRoll w j).Nodup := List.nodup_range.filter _
theorem ofRoll_lt {w : List Nat} {j t : Nat} (h : t ∈ ofRoll w j) : t < w.length := List.mem_range.mp (List.mem_filter.mp h).1
/-- whether roll j is long enough for the set m -/
def okL (a : Abs) (j m : Nat) : Bool := match a.rolls[j]? with
  | some x => decide ((best a x.2 (bl a.strips.length m)).2 ≤ x.1)
  | none => false
theorem okL_mono {a : Abs} (h0 : 0 < a.repeat_) (j m i : Nat) (hb : m.testBit i = false) (h : okL a j (m + 2 ^ i) = true) : okL a j m = true := by
  unfold okL at h ⊢
  cases e : a.rolls[j]? with
  | none => rw [e] at h; exact h
  | some x =>
    rw [e] at h
    dsimp only at h ⊢
    rw [decide_eq_true_iff] at h ⊢
    refine Nat.le_trans (best_mono a h0 x.2 (bl_nodup _ _) (bl_nodup _ _) fun y hy => ?_) h
    rw [mem_bl] at hy ⊢
    exact ⟨hy.1, by rw [tb_add i m y hb, hy.2]; rfl⟩
/-- a' is a with the strips that are left alone, numbered anew -/
structure Part (a a' : Abs) (left : List Nat) : Prop where
  r : a'.repeat_ = a.repeat_
  l : a'.rolls = a.rolls
  s : a'.strips = left.map (stripAt a)
  nd : left.Nodup
  lt : ∀ x ∈ left, x < a.strips.length
def zeros (k : Nat) : List Nat := List.replicate k 0
theorem ld_zeros (k j : Nat) : ld (zeros k) j = 0 := by
  unfold ld zeros
  rw [List.getD_eq_getElem?_getD, List.getElem?_replicate]
  split <;> rfl
theorem apart_zeros {left : List Nat} (h : left.Nodup) (k : Nat) : Apart left (zeros k) := ⟨h, fun j _ i _ => by rw [ld_zeros, Nat.zero_testBit]⟩
theorem ok_zeros (a : Abs) : allOk (okL a) (zeros a.rolls.length) = true := by
  rw [allOk_iff]
  intro j hj
  rw [show (zeros a.rolls.length).length = a.rolls.length from List.length_replicate ..] at hj
  unfold okL
  rw [List.getElem?_eq_getElem hj, ld_zeros, bl_zero]
  exact decide_eq_true (Nat.zero_le _)
theorem part_best {a a' : Abs} {left : List Nat} (P : Part a a' left) {w : List Nat} (hw : w.length = left.length) (hk : ∀ x ∈ w, x < a.rolls.length) {j : Nat} (hj : j < a.rolls.length) (f : Nat) :
    (best a' f (ofRoll w j)).2 = (best a f (bl a.strips.length (ld (run left w (zeros a.rolls.length)) j))).2 := by
  have hz : (zeros a.rolls.length).length = a.rolls.length := List.length_replicate ..
  have h1 := run_bl (n := a.strips.length) left w (zeros a.rolls.length) (apart_zeros P.nd _) hw.symm (fun x hx => by rw [hz]; exact hk x hx) P.lt j (by rw [hz]; exact hj)
  rw [ld_zeros, bl_zero, List.append_nil, sel_ofRoll left w j hw.symm] at h1
  refine best_congr f (ofRoll_nodup _ _) (bl_nodup _ _) P.r ?_
  refine List.Perm.trans ?_ (h1.map _).symm
  rw [List.map_map]
  refine List.Perm.of_eq (List.map_congr_left fun t ht => ?_)
  have hlt : t < left.length := by rw [← hw]; exact ofRoll_lt ht
  show a'.strips.getD t ⟨0, 0⟩ = stripAt a (left.getD t 0)
  rw [P.s, List.getD_eq_getElem?_getD, List.getElem?_map, List.getD_eq_getElem?_getD, List.getElem?_eq_getElem hlt]
  rfl
theorem part_fits {a a' : Abs} (h0 : 0 < a.repeat_) {left : List Nat} (P : Part a a' left) : fits a' = wayR (okL a) left (zeros a.rolls.length) := by
  have hz : (zeros a.rolls.length).length = a.rolls.length := List.length_replicate ..
  rw [way_spec (okL_mono h0) left _ (apart_zeros P.nd _) (ok_zeros a), hz]
  unfold fits
  rw [P.l, P.s, List.length_map]
  refine find_congr (okL_mono h0) fun w hw => ?_
  obtain ⟨e1, e2⟩ := givings_mem _ _ _ hw
  unfold allOk
  rw [run_len, hz]
  have : ∀ j, j < a.rolls.length → fitsRoll a' w j = okL a j (ld (run left w (zeros a.rolls.length)) j) := fun j hj => by
    unfold fitsRoll okL
    rw [P.l, List.getElem?_eq_getElem hj]
    dsimp only
    rw [part_best P e1 e2 hj]
  rw [Bool.eq_iff_iff, List.all_eq_true, List.all_eq_true]
  exact ⟨fun h j hj => by rw [← this j (List.mem_range.mp hj)]; exact h j hj, fun h j hj => by rw [this j (List.mem_range.mp hj)]; exact h j hj⟩
theorem strips_range (a : Abs) : a.strips = (List.range a.strips.length).map (stripAt a) := by
  apply List.ext_getElem
  · rw [List.length_map, List.length_range]
  · intro i h1 h2
    rw [List.getElem_map, List.getElem_range]
    unfold stripAt
    rw [List.getD_eq_getElem?_getD, List.getElem?_eq_getElem h1]
    rfl
theorem part_all (a : Abs) : Part a a (List.range a.strips.length) := ⟨rfl, rfl, strips_range a, List.nodup_range, fun x hx => List.mem_range.mp hx⟩
theorem filterMap_if {α β : Type} (p : α → Bool) (g : α → β) : ∀ l : List α, (l.filterMap fun x => if p x = true then some (g x) else none) = (l.filter p).map g
  | [] => rfl
  | x :: l => by
    rw [List.filterMap_cons, List.filter_cons, filterMap_if p g l]
    cases h : p x with
    | true => simp
    | false => simp
theorem part_set (a : Abs) (m : Nat) : Part a (subset a m) (bl a.strips.length m) := by
  refine ⟨rfl, rfl, ?_, bl_nodup _ _, fun x hx => (mem_bl.mp hx).1⟩
  show (a.strips.zipIdx.filterMap fun x => if m.testBit x.2 = true then some x.1 else none) = _
  have e : a.strips.zipIdx = (List.range a.strips.length).map fun i => (stripAt a i, i) := by
    apply List.ext_getElem
    · rw [List.length_zipIdx, List.length_map, List.length_range]
    · intro i h1 h2
      rw [List.getElem_map, List.getElem_range, List.getElem_zipIdx]
      rw [List.length_zipIdx] at h1
      unfold stripAt
      rw [List.getD_eq_getElem?_getD, List.getElem?_eq_getElem h1, Nat.zero_add]
      rfl
  rw [e, List.filterMap_map]
  exact filterMap_if (fun i => m.testBit i) (stripAt a) _
theorem way_mem {ok : Nat → Nat → Bool} : ∀ (left loads : List Nat) {w : List Nat}, wayR ok left loads = some w → w.length = left.length ∧ ∀ x ∈ w, x < loads.length
  | [], loads, w, h => by
    rw [← Option.some.inj h]
    exact ⟨rfl, fun x hx => (by cases hx)⟩
  | i :: left, loads, w, h => by
    obtain ⟨j, hj, e⟩ := List.exists_of_findSome?_eq_some (show (List.range loads.length).findSome? _ = some w from h)
    by_cases hk : ok j (ld loads j + 2 ^ i) = true
    · rw [if_pos hk] at e
      obtain ⟨w', h2, rfl⟩ := Option.map_eq_some_iff.mp e
      obtain ⟨e1, e2⟩ := way_mem left _ h2
      rw [giv_len] at e2
      refine ⟨by rw [List.length_cons, List.length_cons, e1], fun x hx => ?_⟩
      rcases List.mem_cons.mp hx with rfl | hx
      · exact List.mem_range.mp hj
      · exact e2 x hx
    · rw [if_neg hk] at e
      cases e
/-- the roll's rest behind its strips -/
theorem way_ok {a : Abs} (h0 : 0 < a.repeat_) {w : List Nat} (h : wayR (okL a) (List.range a.strips.length) (zeros a.rolls.length) = some w) : allOk (okL a) (run (List.range a.strips.length) w (zeros a.rolls.length)) = true := by
  rw [way_spec (okL_mono h0) _ _ (apart_zeros List.nodup_range _) (ok_zeros a)] at h
  exact List.find?_some (p := fun w => allOk (okL a) (run (List.range a.strips.length) w (zeros a.rolls.length))) h
/-! ### most -/
def mostK (a : Abs) (t : Nat) : Nat := (List.range t).foldl (fun b m => if bits b a.strips.length < bits m a.strips.length ∧ (fits (subset a m)).isSome = true then m else b) 0
theorem most_all (a : Abs) : mostK a (2 ^ a.strips.length) = most a := rfl
theorem mostK_succ (a : Abs) (t : Nat) : mostK a (t + 1) = if bits (mostK a t) a.strips.length < bits t a.strips.length ∧ (fits (subset a t)).isSome = true then t else mostK a t := by
  unfold mostK
  rw [List.range_succ, List.foldl_append]
  rfl
theorem bits_bl (m n : Nat) : bits m n = (bl n m).length := rfl
/-! ### the search's loop -/
theorem fs_found {β : Type} {f : Nat → Option β} {k j : Nat} {w : β} (hj : j < k) (hn : ∀ i, i < j → f i = none) (h : f j = some w) : (List.range k).findSome? f = some w := by
  induction k with
  | zero => exact absurd hj (Nat.not_lt_zero _)
  | succ k ih =>
    rw [List.range_succ, List.findSome?_append]
    by_cases e : j < k
    · rw [ih e]
      rfl
    · have : j = k := by omega
      subst this
      have h2 : (List.range j).findSome? f = none := List.findSome?_eq_none_iff.mpr fun x hx => hn x (List.mem_range.mp hx)
      rw [h2]
      show List.findSome? f [j] = some w
      rw [List.findSome?_cons, h]
theorem fs_none {β : Type} {f : Nat → Option β} {k : Nat} (hn : ∀ i, i < k → f i = none) : (List.range k).findSome? f = none := List.findSome?_eq_none_iff.mpr fun x hx => hn x (List.mem_range.mp hx)
end PM

end

section
set_option linter.all false
namespace PM
open Kh351
/-! ### the calls as they are written -/
inductive IsCall : Nat → List Nat → Kh351.Call → Prop
  | begin_ (r : Nat) : IsCall 0 [r] (.begin_ r)
  | strip (l b : Nat) : IsCall 1 [l, b] (.strip l b)
  | drop (i : Nat) : IsCall 2 [i] (.drop i)
  | begins (i x : Nat) : IsCall 3 [i, x] (.begins i x)
  | roll (l b : Nat) : IsCall 4 [l, b] (.roll l b)
  | unroll (j : Nat) : IsCall 5 [j] (.unroll j)
  | pattern (r : Nat) : IsCall 6 [r] (.pattern r)
  | back : IsCall 7 [] .back
  | gap (i j : Nat) : IsCall 8 [i, j] (.gap i j)
  | need (os : List Nat) (h : os.length ≤ 8) : IsCall 9 (os.length :: os) (.need os)
  | best : IsCall 10 [] .best
  | bestLast (i : Nat) : IsCall 11 [i] (.bestLast i)
  | finer (r : Nat) : IsCall 12 [r] (.finer r)
  | bestMove : IsCall 13 [] .bestMove
  | setMove : IsCall 14 [] .setMove
  | fits : IsCall 15 [] .fits
  | spare : IsCall 16 [] .spare
  | most : IsCall 17 [] .most
  | could (l b : Nat) : IsCall 18 [l, b] (.could l b)
  | alone (i j : Nat) : IsCall 19 [i, j] (.alone i j)
  | look (i : Nat) : IsCall 20 [i] (.look i)
  | state : IsCall 21 [] .state
abbrev ci (l : List Nat) : List Int := l.map fun (i : Nat) => (i : Int)
theorem ci_take (l : List Nat) (n : Nat) : (ci l).take n = ci (l.take n) := by
  exact List.map_take.symm
theorem ci_drop (l : List Nat) (n : Nat) : (ci l).drop n = ci (l.drop n) := by
  exact List.map_drop.symm
theorem nats_ci (l : List Nat) : Kh351Neutral.nats (ci l) = l := by
  unfold Kh351Neutral.nats ci
  rw [List.map_map]
  have e : (Kh351Neutral.nat ∘ fun (i : Nat) => (i : Int)) = id := by
    funext i
    exact Int.toNat_natCast i
  rw [e, List.map_id]
theorem call0 {p : Int} {n : Nat} {r : List Int} {c : List (List Int)} {t : List Int} (hs : PyKh351.shape p = some (n, 0)) (h : PyFlat.call PyKh351.shape (p :: r) = some (c, t)) : n ≤ r.length ∧ c = [p :: r.take n] ∧ t = r.drop n := by
  unfold PyFlat.call at h
  dsimp only at h
  rw [hs] at h
  dsimp only [PyFlat.rows] at h
  by_cases hl : r.length < n
  · rw [if_pos hl] at h
    cases h
  · rw [if_neg hl] at h
    have e := Option.some.inj h
    exact ⟨Nat.le_of_not_lt hl, (congrArg Prod.fst e).symm, (congrArg Prod.snd e).symm⟩
theorem shape_far (p : Nat) : PyKh351.shape ((p + 22 : Nat) : Int) = none := by
  unfold PyKh351.shape
  repeat rw [if_neg (by omega)]
theorem call_is : ∀ {p : Nat} {L : List Nat} {c : List (List Int)} {t : List Int}, PyFlat.call PyKh351.shape ((p : Int) :: ci L) = some (c, t) → PyInside.call PyKh351.bound c = true → ∃ hs k T, IsCall p hs k ∧ Kh351Neutral.callOf1 c = k ∧ L = hs ++ T ∧ t = ci T ∧ PyKh351.whole c = c
  | 0, L, c, t, h, hb => by
    obtain ⟨h1, rfl, rfl⟩ := call0 (n := 1) rfl h
    match L, h1 with
    | [], h1 => exact absurd h1 (by simp)
    | x :: L, _ => exact ⟨[x], _, L, .begin_ x, rfl, rfl, rfl, rfl⟩
  | 1, L, c, t, h, hb => by
    obtain ⟨h1, rfl, rfl⟩ := call0 (n := 2) rfl h
    match L, h1 with
    | [], h1 => exact absurd h1 (by simp)
    | [x], h1 => exact absurd h1 (by simp)
    | x :: y :: L, _ => exact ⟨[x, y], _, L, .strip x y, rfl, rfl, rfl, rfl⟩
  | 2, L, c, t, h, hb => by
    obtain ⟨h1, rfl, rfl⟩ := call0 (n := 1) rfl h
    match L, h1 with
    | [], h1 => exact absurd h1 (by simp)
    | x :: L, _ => exact ⟨[x], _, L, .drop x, rfl, rfl, rfl, rfl⟩
  | 3, L, c, t, h, hb => by
    obtain ⟨h1, rfl, rfl⟩ := call0 (n := 2) rfl h
    match L, h1 with
    | [], h1 => exact absurd h1 (by simp)
    | [x], h1 => exact absurd h1 (by simp)
    | x :: y :: L, _ => exact ⟨[x, y], _, L, .begins x y, rfl, rfl, rfl, rfl⟩
  | 4, L, c, t, h, hb => by
    obtain ⟨h1, rfl, rfl⟩ := call0 (n := 2) rfl h
    match L, h1 with
    | [], h1 => exact absurd h1 (by simp)
    | [x], h1 => exact absurd h1 (by simp)
    | x :: y :: L, _ => exact ⟨[x, y], _, L, .roll x y, rfl, rfl, rfl, rfl⟩
  | 5, L, c, t, h, hb => by
    obtain ⟨h1, rfl, rfl⟩ := call0 (n := 1) rfl h
    match L, h1 with
    | [], h1 => exact absurd h1 (by simp)
    | x :: L, _ => exact ⟨[x], _, L, .unroll x, rfl, rfl, rfl, rfl⟩
  | 6, L, c, t, h, hb => by
    obtain ⟨h1, rfl, rfl⟩ := call0 (n := 1) rfl h
    match L, h1 with
    | [], h1 => exact absurd h1 (by simp)
    | x :: L, _ => exact ⟨[x], _, L, .pattern x, rfl, rfl, rfl, rfl⟩
  | 7, L, c, t, h, hb => by
    obtain ⟨h1, rfl, rfl⟩ := call0 (n := 0) rfl h
    exact ⟨[], _, L, .back, rfl, rfl, rfl, rfl⟩
  | 8, L, c, t, h, hb => by
    obtain ⟨h1, rfl, rfl⟩ := call0 (n := 2) rfl h
    match L, h1 with
    | [], h1 => exact absurd h1 (by simp)
    | [x], h1 => exact absurd h1 (by simp)
    | x :: y :: L, _ => exact ⟨[x, y], _, L, .gap x y, rfl, rfl, rfl, rfl⟩
  | 9, L, c, t, h, hb => by
    unfold PyFlat.call at h
    dsimp only at h
    rw [show PyKh351.shape ((9 : Nat) : Int) = some (0, 1) from rfl] at h
    dsimp only at h
    rw [if_neg (Nat.not_lt_zero _), List.drop_zero, List.take_zero] at h
    match L, h with
    | [], h => cases h
    | m :: L, h =>
      unfold PyFlat.rows PyFlat.rows PyFlat.row ci at h
      rw [List.map_cons] at h
      dsimp only at h
      by_cases hm : (0 : Int) ≤ (m : Int) ∧ ((m : Int)).toNat ≤ (L.map fun (i : Nat) => (i : Int)).length
      · rw [if_pos hm] at h
        dsimp only at h
        have e := Option.some.inj h
        have e1 : [[(9 : Int)], ci (L.take m)] = c := by
          rw [← ci_take]
          exact congrArg Prod.fst e
        have e2 : ci (L.drop m) = t := by
          rw [← ci_drop]
          exact congrArg Prod.snd e
        have hl : m ≤ L.length := by
          have := hm.2
          rw [List.length_map, Int.toNat_natCast] at this
          exact this
        have hlen : (L.take m).length = m := by rw [List.length_take]; omega
        subst e1
        have h8 : (L.take m).length ≤ 8 := by
          unfold PyInside.call at hb
          dsimp only at hb
          rw [show PyKh351.bound 9 = ([], [(0, 4294967295, 0, 8)]) from rfl] at hb
          dsimp only [PyInside.lists, PyInside.each] at hb
          rw [Bool.true_and, Bool.and_true, Bool.and_eq_true, Bool.and_eq_true, decide_eq_true_iff, decide_eq_true_iff] at hb
          have := hb.1.2
          rw [List.length_map] at this
          exact this
        refine ⟨m :: L.take m, _, L.drop m, ?_, rfl, by rw [List.cons_append, List.take_append_drop], e2.symm, rfl⟩
        have q := IsCall.need (L.take m) h8
        rw [hlen] at q
        show IsCall 9 _ (Kh351.Call.need (Kh351Neutral.nats (ci (L.take m))))
        rw [nats_ci]
        exact q
      · rw [if_neg hm] at h
        cases h
  | 10, L, c, t, h, hb => by
    obtain ⟨h1, rfl, rfl⟩ := call0 (n := 0) rfl h
    exact ⟨[], _, L, .best, rfl, rfl, rfl, rfl⟩
  | 11, L, c, t, h, hb => by
    obtain ⟨h1, rfl, rfl⟩ := call0 (n := 1) rfl h
    match L, h1 with
    | [], h1 => exact absurd h1 (by simp)
    | x :: L, _ => exact ⟨[x], _, L, .bestLast x, rfl, rfl, rfl, rfl⟩
  | 12, L, c, t, h, hb => by
    obtain ⟨h1, rfl, rfl⟩ := call0 (n := 1) rfl h
    match L, h1 with
    | [], h1 => exact absurd h1 (by simp)
    | x :: L, _ => exact ⟨[x], _, L, .finer x, rfl, rfl, rfl, rfl⟩
  | 13, L, c, t, h, hb => by
    obtain ⟨h1, rfl, rfl⟩ := call0 (n := 0) rfl h
    exact ⟨[], _, L, .bestMove, rfl, rfl, rfl, rfl⟩
  | 14, L, c, t, h, hb => by
    obtain ⟨h1, rfl, rfl⟩ := call0 (n := 0) rfl h
    exact ⟨[], _, L, .setMove, rfl, rfl, rfl, rfl⟩
  | 15, L, c, t, h, hb => by
    obtain ⟨h1, rfl, rfl⟩ := call0 (n := 0) rfl h
    exact ⟨[], _, L, .fits, rfl, rfl, rfl, rfl⟩
  | 16, L, c, t, h, hb => by
    obtain ⟨h1, rfl, rfl⟩ := call0 (n := 0) rfl h
    exact ⟨[], _, L, .spare, rfl, rfl, rfl, rfl⟩
  | 17, L, c, t, h, hb => by
    obtain ⟨h1, rfl, rfl⟩ := call0 (n := 0) rfl h
    exact ⟨[], _, L, .most, rfl, rfl, rfl, rfl⟩
  | 18, L, c, t, h, hb => by
    obtain ⟨h1, rfl, rfl⟩ := call0 (n := 2) rfl h
    match L, h1 with
    | [], h1 => exact absurd h1 (by simp)
    | [x], h1 => exact absurd h1 (by simp)
    | x :: y :: L, _ => exact ⟨[x, y], _, L, .could x y, rfl, rfl, rfl, rfl⟩
  | 19, L, c, t, h, hb => by
    obtain ⟨h1, rfl, rfl⟩ := call0 (n := 2) rfl h
    match L, h1 with
    | [], h1 => exact absurd h1 (by simp)
    | [x], h1 => exact absurd h1 (by simp)
    | x :: y :: L, _ => exact ⟨[x, y], _, L, .alone x y, rfl, rfl, rfl, rfl⟩
  | 20, L, c, t, h, hb => by
    obtain ⟨h1, rfl, rfl⟩ := call0 (n := 1) rfl h
    match L, h1 with
    | [], h1 => exact absurd h1 (by simp)
    | x :: L, _ => exact ⟨[x], _, L, .look x, rfl, rfl, rfl, rfl⟩
  | 21, L, c, t, h, hb => by
    obtain ⟨h1, rfl, rfl⟩ := call0 (n := 0) rfl h
    exact ⟨[], _, L, .state, rfl, rfl, rfl, rfl⟩
  | p + 22, L, c, t, h, hb => by
    unfold PyFlat.call at h
    dsimp only at h
    rw [shape_far] at h
    cases h
theorem calls_cons {f : Nat} {p : Int} {r : List Int} {cs : List (List (List Int))} (h : PyFlat.calls PyKh351.shape f (p :: r) = some cs) :
    ∃ f' c t cs', PyFlat.call PyKh351.shape (p :: r) = some (c, t) ∧ PyFlat.calls PyKh351.shape f' t = some cs' ∧ cs = c :: cs' := by
  cases f with
  | zero => cases h
  | succ f =>
    unfold PyFlat.calls at h
    cases e : PyFlat.call PyKh351.shape (p :: r) with
    | none => rw [e] at h; cases h
    | some x =>
      obtain ⟨c, t⟩ := x
      rw [e] at h
      dsimp only at h
      cases e2 : PyFlat.calls PyKh351.shape f t with
      | none => rw [e2] at h; cases h
      | some cs' =>
        rw [e2] at h
        exact ⟨f, c, t, cs', rfl, e2, (Option.some.inj h).symm⟩
theorem calls_whole : ∀ {cs : List (List (List Int))} {f : Nat} {L : List Nat}, PyFlat.calls PyKh351.shape f (ci L) = some cs → PyInside.calls PyKh351.bound cs = true → cs.map PyKh351.whole = cs
  | [], _, _, _, _ => rfl
  | c :: cs, f, [], h, _ => by
    unfold PyFlat.calls at h
    cases f <;> cases h
  | c :: cs, f, p :: L, h, hi => by
    obtain ⟨f', c', t, cs', hc, hcs, e⟩ := calls_cons (p := (p : Int)) (r := ci L) h
    cases e
    unfold PyInside.calls at hi
    rw [List.all_cons, Bool.and_eq_true] at hi
    obtain ⟨hs, k, T, _, _, _, rfl, hw⟩ := call_is hc hi.1
    rw [List.map_cons, hw, calls_whole hcs (by unfold PyInside.calls; exact hi.2)]
end PM

end

section
set_option Elab.async false
set_option linter.all false
set_option maxRecDepth 100000
set_option maxHeartbeats 3000000
namespace L2
open PySem PySem.Spec PyProof.Rows
/-! ### two records of ours, pinned: the best so far, the iterator -/
theorem Inv.pin2 {X : Cx} {pins : List (Addr × Obj)} {σ : St} {H : Hp} {s : Shared} {S T : Addr} {oS oT : Obj} (I : Inv X pins σ H s) (fS : FpOk X pins H S) (fT : FpOk X pins H T) (eS : s.heap.get? S = some oS) (eT : s.heap.get? T = some oT)
    (dS : ∀ v, oS.data ≠ .cell v) (dT : ∀ v, oT.data ≠ .cell v) : Inv X (pins ++ [(S, oS), (T, oT)]) σ H s :=
  I.pins_of fun p hp => by
    rcases List.mem_append.mp hp with z | z
    · exact I.pin p (List.mem_append_right _ z)
    · rcases List.mem_cons.mp z with rfl | z
      · exact ⟨eS, fS.1, fS.2.1, fS.2.2.1, dS⟩
      · rw [List.mem_singleton.mp z]
        exact ⟨eT, fT.1, fT.2.1, fT.2.2.1, dT⟩
theorem Inv.at2 {X : Cx} {pins : List (Addr × Obj)} {σ : St} {H : Hp} {s : Shared} {S T : Addr} {oS oT : Obj} (I : Inv X (pins ++ [(S, oS), (T, oT)]) σ H s) : s.heap.get? S = some oS ∧ s.heap.get? T = some oT :=
  ⟨(I.pin (S, oS) (List.mem_append_right _ (List.mem_append_right _ (.head _)))).1, (I.pin (T, oT) (List.mem_append_right _ (List.mem_append_right _ (.tail _ (.head _))))).1⟩
theorem Inv.turn1 {X : Cx} {pins : List (Addr × Obj)} {σ : St} {H : Hp} {s : Shared} {h' : Heap} {t' : Nat} {T : Addr} (I : Inv X pins σ H s) (f : FpOk X pins H T) (k : ∀ b o, b ≠ T → s.heap.get? b = some o → h'.get? b = some o) : Inv X pins σ H { s with heap := h', toks := t' } :=
  I.turned (t' := t') k f.1 f.2.1 f.2.2.2.1 f.2.2.2.2.1 f.2.2.2.2.2
theorem ent_min : entryFor table "min" = some Builtin.«min» := PySem.F.entry_min

section
variable {X : Cx} {pins : List (Addr × Obj)} {σ : St} {H : Hp} {l S T : Addr} {xs : List V} {q : Addr} {R : Result → Shared → Prop} {Qx : V → Prop}
theorem minK_loop (hc : X.calm = true) (kf : Nat → Int) (hl : SqL X.K H l xs) (fS : FpOk X pins H S) (fT : FpOk X pins H T) (hST : S ≠ T) (hlT : l ≠ T)
    (turn : ∀ (pl : List (Addr × Obj)) (s : Shared) (i : Nat) (x : V) (u : Value), Inv X (pins ++ pl) σ H s → xs[i]? = some x → RelV x u →
      wpAny (model X.prog X.w) X.A.in1 (call (.ref q) [u]) (EP X (pins ++ pl) σ fun y H' => y = .int (kf i) ∧ H' = H) (fun _ _ => False) s)
    (hR : ∀ i x v s', xs[i]? = some x → (∀ j, j < xs.length → kf i ≤ kf j ∧ (j < i → kf i < kf j)) → RelV x v → Inv X pins σ H s' → R (.ok (.ret v)) s') :
    ∀ (r j i : Nat) (s : Shared) (xb : V) (vb : Value) (tb : Tok) (c : Nat) (oT : Obj), xs.length - (j + 1) = r → j + 1 ≤ xs.length → Inv X (pins ++ [(S, seqObj "list" #[vb, .int (kf i) tb] c), (T, oT)]) σ H s → s.heap.IsListIter T l (j + 1) → xs[i]? = some xb → RelV xb vb → i ≤ j →
      (∀ j', j' ≤ j → kf i ≤ kf j' ∧ (j' < i → kf i < kf j')) → codeAny (model X.prog X.w) X.A (.builtin "min.loop" ⟨[.ref T, .ref q, .ref S], []⟩) R s := by
  have nmL : (toString "min" ++ toString ".loop" : String) = "min.loop" := by decide
  intro r
  induction r with
  | zero =>
    intro j i s xb vb tb c oT hr hj I hit hxb rb hij hleast
    have hin : j + 1 = xs.length := by omega
    obtain ⟨eS, eT⟩ := I.at2
    have I1 := I.unpinned
    obtain ⟨its, rv, pl, _⟩ := I1.list hl
    have hlen := rv.length
    have W := Walks.list (prog := X.prog) (w := X.w) (A := X.A.in1) (show X.A.in1.handled = none from I.ok.hd hc) T l hlT its.toArray
    refine codeAny_builtin PySem.F.entry_min_loop ?_; rw [Around.under_plainId PySem.F.plain_min_loop _]
    show wpAny _ X.A.in1 (seqItems? (.ref S) >>= _) _ _ _
    refine wpAny_bind (wpAny_seqItems eS rfl ?_)
    show wpAny _ X.A.in1 (tryCatch (pyNext (.ref T)) _ >>= _) _ _ _
    refine wpAny_bind (wpAny_tryCatch (W.done _ _ _ ⟨by rw [List.size_toArray, ← hlen, ← hin]; exact hit, pl.isList⟩ fun h' tk' hk' => ?_))
    have I2 : Inv X pins σ H { s with heap := h', toks := tk' } := I1.turn1 fT fun b o hb e => hk' b o (by simpa using hb) e
    have eS' := hk' S _ (by simpa using hST) eS
    show wpAny _ X.A.in1 (updateSeq S (fun _ => #[]) >>= _) _ _ _
    refine wpAny_bind ?_
    refine wpAny_updateSeq eS' rfl (wpAny_bind (wpAny_letGo (wpAny_pure ?_)))
    have sbS := Heap.SameBut.update h' S (Obj.mapSeq fun _ => (#[] : Array Value))
    exact hR i xb vb _ hxb (fun j' hj' => hleast j' (by omega)) rb (I2.turn1 (t' := tk') fS fun b o hb e => (sbS.2 b hb).trans e)
  | succ r ih =>
    intro j i s xb vb tb c oT hr hj I hit hxb rb hij hleast
    have hlt : j + 1 < xs.length := by omega
    obtain ⟨eS, eT⟩ := I.at2
    have I1 := I.unpinned
    obtain ⟨its, rvs, pl, _⟩ := I1.list hl
    have hlen := rvs.length
    have W := Walks.list (prog := X.prog) (w := X.w) (A := X.A.in1) (show X.A.in1.handled = none from I.ok.hd hc) T l hlT its.toArray
    refine codeAny_builtin PySem.F.entry_min_loop ?_; rw [Around.under_plainId PySem.F.plain_min_loop _]
    show wpAny _ X.A.in1 (seqItems? (.ref S) >>= _) _ _ _
    refine wpAny_bind (wpAny_seqItems eS rfl ?_)
    show wpAny _ X.A.in1 (tryCatch (pyNext (.ref T)) _ >>= _) _ _ _
    refine wpAny_bind (wpAny_tryCatch (W.item (j + 1) _ _ _ (by rw [List.size_toArray, ← hlen]; exact hlt) ⟨hit, pl.isList⟩ fun v h' tk' hP hst' hk' => ?_))
    obtain ⟨x, hx⟩ : ∃ x, xs[j + 1]? = some x := ⟨_, List.getElem?_eq_getElem hlt⟩
    obtain ⟨u, hu, rv⟩ := rvs.get hx
    obtain rfl : u = v := Option.some.inj (hu.symm.trans (by simpa using hP))
    obtain ⟨oT', eT', hoc, hod⟩ := id hst'.1
    have eS' := hk' S _ (by simpa using hST) eS
    have dT' : ∀ v, oT'.data ≠ .cell v := fun v z => by rw [hod] at z; cases z
    have I2 : Inv X (pins ++ [(S, seqObj "list" #[vb, .int (kf i) tb] c), (T, oT')]) σ H { s with heap := h', toks := tk' } := (I1.turn1 (t' := tk') fT fun b o hb e => hk' b o (by simpa using hb) e).pin2 fS fT eS' eT' (fun v z => nomatch z) dT'
    show wpAny _ X.A.in1 (tryCatch (holding [u] (call (.ref q) [u])) _ >>= _) _ _ _
    refine wpAny_bind (wpAny_tryCatch (wpAny_holding (wpAny_mono (turn [(S, seqObj "list" #[vb, .int (kf i) tb] c), (T, oT')] _ (j + 1) x u I2 hx rv) (fun y s'' he => ?_) fun _ _ hF => hF.elim)))
    obtain ⟨yv, H3, I3, ry, rfl, rfl⟩ := he
    obtain ⟨t2, rfl⟩ := ry
    obtain ⟨eS3, eT3⟩ := I3.at2
    have I4 := I3.unpinned
    have hit3 : s''.heap.IsListIter T l (j + 1 + 1) := ⟨oT', eT3, hoc, hod⟩
    show wpAny _ X.A.in1 (tryCatch (holding [_, .int (kf (j + 1)) t2] (richCompare .Lt (.int (kf (j + 1)) t2) (.int (kf i) tb) >>= _)) _ >>= _) _ _ _
    refine wpAny_bind (wpAny_tryCatch (wpAny_holding (wpAny_bind (CmpOf.ints_lt (prog := X.prog) (w := X.w) (A := X.A.in1) (P := fun i v => ∃ t, v = .int (kf i) t) kf (fun i v h => h) (j + 1) i _ _ _ _ _ ⟨t2, rfl⟩ ⟨tb, rfl⟩ ?_))))
    refine wpAny_bind (wpAny_holding (wpAny_truthy_bool (wpAny_bind (wpAny_letGo (wpAny_pure ?_)))))
    by_cases ltB : kf (j + 1) < kf i
    · have sbS := Heap.SameBut.update s''.heap S (Obj.mapSeq fun _ => #[u, .int (kf (j + 1)) t2])
      obtain ⟨c2, hc2⟩ : ∃ c2, (s''.heap.update S (Obj.mapSeq fun _ => #[u, .int (kf (j + 1)) t2])).get? S = some (seqObj "list" #[u, .int (kf (j + 1)) t2] c2) := ⟨_, get?_update_seq eS3 fun _ => #[u, .int (kf (j + 1)) t2]⟩
      simp only [ltB, decide_true, if_true]
      refine wpAny_bind ?_
      
      refine wpAny_updateSeq eS3 rfl (wpAny_bind (wpAny_letGo ?_))
      rw [nmL]
      refine wpAny_pure ⟨plainId_quiet PySem.F.plain_min_loop _, ih (j + 1) (j + 1) _ x u t2 c2 oT' (by omega) hlt ((I4.turn1 fS fun b o hb e => (sbS.2 b hb).trans e).pin2 fS fT hc2 ((sbS.2 T (Ne.symm hST)).trans eT3) (fun v z => nomatch z) dT') ⟨oT', (sbS.2 T (Ne.symm hST)).trans eT3, hoc, hod⟩ hx rv (Nat.le_refl _) fun j' hj' => ?_⟩
      by_cases e : j' = j + 1
      · subst e
        exact ⟨by omega, fun _ => (by omega)⟩
      · have bb1 := hleast j' (by omega)
        have bb2 := bb1.1
        exact ⟨by omega, fun _ => (by omega)⟩
    · simp only [ltB, decide_false, Bool.false_eq_true, if_false]
      
      refine wpAny_bind (wpAny_letGo ?_)
      rw [nmL]
      refine wpAny_pure ⟨plainId_quiet PySem.F.plain_min_loop _, ih (j + 1) i _ xb vb tb c oT' (by omega) hlt I3 hit3 hxb rb (by omega) fun j' hj' => ?_⟩
      by_cases e : j' = j + 1
      · subst e
        exact ⟨by omega, fun _ => (by omega)⟩
      · exact hleast j' (by omega)
theorem minK_first (hc : X.calm = true) (kf : Nat → Int) (hl : SqL X.K H l xs) (fS : FpOk X pins H S) (fT : FpOk X pins H T) (hST : S ≠ T) (hlT : l ≠ T) (hne : 0 < xs.length)
    (turn : ∀ (pl : List (Addr × Obj)) (s : Shared) (i : Nat) (x : V) (u : Value), Inv X (pins ++ pl) σ H s → xs[i]? = some x → RelV x u →
      wpAny (model X.prog X.w) X.A.in1 (call (.ref q) [u]) (EP X (pins ++ pl) σ fun y H' => y = .int (kf i) ∧ H' = H) (fun _ _ => False) s)
    (hR : ∀ i x v s', xs[i]? = some x → (∀ j, j < xs.length → kf i ≤ kf j ∧ (j < i → kf i < kf j)) → RelV x v → Inv X pins σ H s' → R (.ok (.ret v)) s')
    {s : Shared} {oT : Obj} (I : Inv X (pins ++ [(S, seqObj "list" #[] 0), (T, oT)]) σ H s) (hit : s.heap.IsListIter T l 0) : codeAny (model X.prog X.w) X.A (.builtin "min.loop" ⟨[.ref T, .ref q, .ref S], []⟩) R s := by
  have nmL : (toString "min" ++ toString ".loop" : String) = "min.loop" := by decide
  obtain ⟨eS, eT⟩ := I.at2
  have I1 := I.unpinned
  obtain ⟨its, rvs, pl, _⟩ := I1.list hl
  have hlen := rvs.length
  have W := Walks.list (prog := X.prog) (w := X.w) (A := X.A.in1) (show X.A.in1.handled = none from I.ok.hd hc) T l hlT its.toArray
  refine codeAny_builtin PySem.F.entry_min_loop ?_; rw [Around.under_plainId PySem.F.plain_min_loop _]
  show wpAny _ X.A.in1 (seqItems? (.ref S) >>= _) _ _ _
  refine wpAny_bind (wpAny_seqItems eS rfl ?_)
  show wpAny _ X.A.in1 (tryCatch (pyNext (.ref T)) _ >>= _) _ _ _
  refine wpAny_bind (wpAny_tryCatch (W.item 0 _ _ _ (by rw [List.size_toArray, ← hlen]; exact hne) ⟨hit, pl.isList⟩ fun v h' tk' hP hst' hk' => ?_))
  obtain ⟨x, hx⟩ : ∃ x, xs[0]? = some x := ⟨_, List.getElem?_eq_getElem hne⟩
  obtain ⟨u, hu, rv⟩ := rvs.get hx
  obtain rfl : u = v := Option.some.inj (hu.symm.trans (by simpa using hP))
  obtain ⟨oT', eT', hoc, hod⟩ := id hst'.1
  have eS' := hk' S _ (by simpa using hST) eS
  have dT' : ∀ v, oT'.data ≠ .cell v := fun v z => by rw [hod] at z; cases z
  have I2 : Inv X (pins ++ [(S, seqObj "list" #[] 0), (T, oT')]) σ H { s with heap := h', toks := tk' } := (I1.turn1 (t' := tk') fT fun b o hb e => hk' b o (by simpa using hb) e).pin2 fS fT eS' eT' (fun v z => nomatch z) dT'
  show wpAny _ X.A.in1 (tryCatch (holding [u] (call (.ref q) [u])) _ >>= _) _ _ _
  refine wpAny_bind (wpAny_tryCatch (wpAny_holding (wpAny_mono (turn [(S, seqObj "list" #[] 0), (T, oT')] _ 0 x u I2 hx rv) (fun y s'' he => ?_) fun _ _ hF => hF.elim)))
  obtain ⟨yv, H3, I3, ry, rfl, rfl⟩ := he
  obtain ⟨t2, rfl⟩ := ry
  obtain ⟨eS3, eT3⟩ := I3.at2
  have I4 := I3.unpinned
  have sbS := Heap.SameBut.update s''.heap S (Obj.mapSeq fun _ => #[u, .int (kf 0) t2])
  obtain ⟨c2, hc2⟩ : ∃ c2, (s''.heap.update S (Obj.mapSeq fun _ => #[u, .int (kf 0) t2])).get? S = some (seqObj "list" #[u, .int (kf 0) t2] c2) := ⟨_, get?_update_seq eS3 fun _ => #[u, .int (kf 0) t2]⟩
  show wpAny _ X.A.in1 (updateSeq S (fun _ => #[u, .int (kf 0) t2]) >>= _) _ _ _
  refine wpAny_bind ?_
  refine wpAny_updateSeq eS3 rfl ?_
  rw [nmL]
  refine wpAny_pure ⟨plainId_quiet PySem.F.plain_min_loop _, minK_loop hc kf hl fS fT hST hlT turn hR _ 0 0 _ x u t2 c2 oT' rfl hne ((I4.turn1 fS fun b o hb e => (sbS.2 b hb).trans e).pin2 fS fT hc2 ((sbS.2 T (Ne.symm hST)).trans eT3) (fun v z => nomatch z) dT') ⟨oT', (sbS.2 T (Ne.symm hST)).trans eT3, hoc, hod⟩ hx rv (Nat.le_refl _) fun j' hj' => ?_⟩
  have e : j' = 0 := by omega
  subst e
  exact ⟨by omega, fun z => absurd z (Nat.lt_irrefl _)⟩
end

section
variable {X : Cx} {pins : List (Addr × Obj)} {σ : St} {H : Hp} {l S T : Addr} {xs : List V} {dv : Value} {R : Result → Shared → Prop} {Qx : V → Prop}
theorem minD_loop (hc : X.calm = true) (kf : Nat → Int) (hl : SqL X.K H l xs) (fS : FpOk X pins H S) (fT : FpOk X pins H T) (hST : S ≠ T) (hlT : l ≠ T)
    (hin : ∀ (i : Nat) (x : V), xs[i]? = some x → x = .int (kf i))
    (hR : ∀ i x v s', xs[i]? = some x → (∀ j, j < xs.length → kf i ≤ kf j ∧ (j < i → kf i < kf j)) → RelV x v → Inv X pins σ H s' → R (.ok (.ret v)) s') :
    ∀ (r j i : Nat) (s : Shared) (xb : V) (vb : Value) (tb : Tok) (c : Nat) (oT : Obj), xs.length - (j + 1) = r → j + 1 ≤ xs.length → Inv X (pins ++ [(S, seqObj "list" #[vb, .int (kf i) tb] c), (T, oT)]) σ H s → s.heap.IsListIter T l (j + 1) → xs[i]? = some xb → RelV xb vb → i ≤ j →
      (∀ j', j' ≤ j → kf i ≤ kf j' ∧ (j' < i → kf i < kf j')) → codeAny (model X.prog X.w) X.A (.builtin "min.loop" ⟨[.ref T, .none, .ref S], [("default", dv)]⟩) R s := by
  have nmL : (toString "min" ++ toString ".loop" : String) = "min.loop" := by decide
  intro r
  induction r with
  | zero =>
    intro j i s xb vb tb c oT hr hj I hit hxb rb hij hleast
    have hin : j + 1 = xs.length := by omega
    obtain ⟨eS, eT⟩ := I.at2
    have I1 := I.unpinned
    obtain ⟨its, rv, pl, _⟩ := I1.list hl
    have hlen := rv.length
    have W := Walks.list (prog := X.prog) (w := X.w) (A := X.A.in1) (show X.A.in1.handled = none from I.ok.hd hc) T l hlT its.toArray
    refine codeAny_builtin PySem.F.entry_min_loop ?_; rw [Around.under_plainId PySem.F.plain_min_loop _]
    show wpAny _ X.A.in1 (seqItems? (.ref S) >>= _) _ _ _
    refine wpAny_bind (wpAny_seqItems eS rfl ?_)
    show wpAny _ X.A.in1 (tryCatch (pyNext (.ref T)) _ >>= _) _ _ _
    refine wpAny_bind (wpAny_tryCatch (W.done _ _ _ ⟨by rw [List.size_toArray, ← hlen, ← hin]; exact hit, pl.isList⟩ fun h' tk' hk' => ?_))
    have I2 : Inv X pins σ H { s with heap := h', toks := tk' } := I1.turn1 fT fun b o hb e => hk' b o (by simpa using hb) e
    have eS' := hk' S _ (by simpa using hST) eS
    show wpAny _ X.A.in1 (updateSeq S (fun _ => #[]) >>= _) _ _ _
    refine wpAny_bind ?_
    refine wpAny_updateSeq eS' rfl (wpAny_bind (wpAny_letGo (wpAny_pure ?_)))
    have sbS := Heap.SameBut.update h' S (Obj.mapSeq fun _ => (#[] : Array Value))
    exact hR i xb vb _ hxb (fun j' hj' => hleast j' (by omega)) rb (I2.turn1 (t' := tk') fS fun b o hb e => (sbS.2 b hb).trans e)
  | succ r ih =>
    intro j i s xb vb tb c oT hr hj I hit hxb rb hij hleast
    have hlt : j + 1 < xs.length := by omega
    obtain ⟨eS, eT⟩ := I.at2
    have I1 := I.unpinned
    obtain ⟨its, rvs, pl, _⟩ := I1.list hl
    have hlen := rvs.length
    have W := Walks.list (prog := X.prog) (w := X.w) (A := X.A.in1) (show X.A.in1.handled = none from I.ok.hd hc) T l hlT its.toArray
    refine codeAny_builtin PySem.F.entry_min_loop ?_; rw [Around.under_plainId PySem.F.plain_min_loop _]
    show wpAny _ X.A.in1 (seqItems? (.ref S) >>= _) _ _ _
    refine wpAny_bind (wpAny_seqItems eS rfl ?_)
    show wpAny _ X.A.in1 (tryCatch (pyNext (.ref T)) _ >>= _) _ _ _
    refine wpAny_bind (wpAny_tryCatch (W.item (j + 1) _ _ _ (by rw [List.size_toArray, ← hlen]; exact hlt) ⟨hit, pl.isList⟩ fun v h' tk' hP hst' hk' => ?_))
    obtain ⟨x, hx⟩ : ∃ x, xs[j + 1]? = some x := ⟨_, List.getElem?_eq_getElem hlt⟩
    obtain ⟨u, hu, rv⟩ := rvs.get hx
    obtain rfl : u = v := Option.some.inj (hu.symm.trans (by simpa using hP))
    obtain ⟨oT', eT', hoc, hod⟩ := id hst'.1
    have eS' := hk' S _ (by simpa using hST) eS
    have dT' : ∀ v, oT'.data ≠ .cell v := fun v z => by rw [hod] at z; cases z
    have I2 : Inv X (pins ++ [(S, seqObj "list" #[vb, .int (kf i) tb] c), (T, oT')]) σ H { s with heap := h', toks := tk' } := (I1.turn1 (t' := tk') fT fun b o hb e => hk' b o (by simpa using hb) e).pin2 fS fT eS' eT' (fun v z => nomatch z) dT'
    obtain rfl := hin (j + 1) x hx
    obtain ⟨t2, rfl⟩ := rv
    have I3 := I2
    generalize hs'' : ({ s with heap := h', toks := tk' } : Shared) = s'' at I3
    show wpAny _ X.A.in1 (pure (Value.int (kf (j + 1)) t2) >>= _) _ _ _
    refine wpAny_bind (wpAny_pure ?_)
    obtain ⟨eS3, eT3⟩ := I3.at2
    have I4 := I3.unpinned
    have hit3 : s''.heap.IsListIter T l (j + 1 + 1) := ⟨oT', eT3, hoc, hod⟩
    show wpAny _ X.A.in1 (tryCatch (holding [_, .int (kf (j + 1)) t2] (richCompare .Lt (.int (kf (j + 1)) t2) (.int (kf i) tb) >>= _)) _ >>= _) _ _ _
    refine wpAny_bind (wpAny_tryCatch (wpAny_holding (wpAny_bind (CmpOf.ints_lt (prog := X.prog) (w := X.w) (A := X.A.in1) (P := fun i v => ∃ t, v = .int (kf i) t) kf (fun i v h => h) (j + 1) i _ _ _ _ _ ⟨t2, rfl⟩ ⟨tb, rfl⟩ ?_))))
    refine wpAny_bind (wpAny_holding (wpAny_truthy_bool (wpAny_bind (wpAny_letGo (wpAny_pure ?_)))))
    by_cases ltB : kf (j + 1) < kf i
    · have sbS := Heap.SameBut.update s''.heap S (Obj.mapSeq fun _ => #[(Value.int (kf (j + 1)) t2), .int (kf (j + 1)) t2])
      obtain ⟨c2, hc2⟩ : ∃ c2, (s''.heap.update S (Obj.mapSeq fun _ => #[(Value.int (kf (j + 1)) t2), .int (kf (j + 1)) t2])).get? S = some (seqObj "list" #[(Value.int (kf (j + 1)) t2), .int (kf (j + 1)) t2] c2) := ⟨_, get?_update_seq eS3 fun _ => #[(Value.int (kf (j + 1)) t2), .int (kf (j + 1)) t2]⟩
      simp only [ltB, decide_true, if_true]
      refine wpAny_bind ?_
      subst hs''
      refine wpAny_updateSeq eS3 rfl (wpAny_bind (wpAny_letGo ?_))
      rw [nmL]
      refine wpAny_pure ⟨plainId_quiet PySem.F.plain_min_loop _, ih (j + 1) (j + 1) _ (.int (kf (j + 1))) (Value.int (kf (j + 1)) t2) t2 c2 oT' (by omega) hlt ((I4.turn1 fS fun b o hb e => (sbS.2 b hb).trans e).pin2 fS fT hc2 ((sbS.2 T (Ne.symm hST)).trans eT3) (fun v z => nomatch z) dT') ⟨oT', (sbS.2 T (Ne.symm hST)).trans eT3, hoc, hod⟩ hx ⟨t2, rfl⟩ (Nat.le_refl _) fun j' hj' => ?_⟩
      by_cases e : j' = j + 1
      · subst e
        exact ⟨by omega, fun _ => (by omega)⟩
      · have bb1 := hleast j' (by omega)
        have bb2 := bb1.1
        exact ⟨by omega, fun _ => (by omega)⟩
    · simp only [ltB, decide_false, Bool.false_eq_true, if_false]
      subst hs''
      refine wpAny_bind (wpAny_letGo ?_)
      rw [nmL]
      refine wpAny_pure ⟨plainId_quiet PySem.F.plain_min_loop _, ih (j + 1) i _ xb vb tb c oT' (by omega) hlt I3 hit3 hxb rb (by omega) fun j' hj' => ?_⟩
      by_cases e : j' = j + 1
      · subst e
        exact ⟨by omega, fun _ => (by omega)⟩
      · exact hleast j' (by omega)
theorem minD_first (hc : X.calm = true) (kf : Nat → Int) (hl : SqL X.K H l xs) (fS : FpOk X pins H S) (fT : FpOk X pins H T) (hST : S ≠ T) (hlT : l ≠ T) (hne : 0 < xs.length)
    (hin : ∀ (i : Nat) (x : V), xs[i]? = some x → x = .int (kf i))
    (hR : ∀ i x v s', xs[i]? = some x → (∀ j, j < xs.length → kf i ≤ kf j ∧ (j < i → kf i < kf j)) → RelV x v → Inv X pins σ H s' → R (.ok (.ret v)) s')
    {s : Shared} {oT : Obj} (I : Inv X (pins ++ [(S, seqObj "list" #[] 0), (T, oT)]) σ H s) (hit : s.heap.IsListIter T l 0) : codeAny (model X.prog X.w) X.A (.builtin "min.loop" ⟨[.ref T, .none, .ref S], [("default", dv)]⟩) R s := by
  have nmL : (toString "min" ++ toString ".loop" : String) = "min.loop" := by decide
  obtain ⟨eS, eT⟩ := I.at2
  have I1 := I.unpinned
  obtain ⟨its, rvs, pl, _⟩ := I1.list hl
  have hlen := rvs.length
  have W := Walks.list (prog := X.prog) (w := X.w) (A := X.A.in1) (show X.A.in1.handled = none from I.ok.hd hc) T l hlT its.toArray
  refine codeAny_builtin PySem.F.entry_min_loop ?_; rw [Around.under_plainId PySem.F.plain_min_loop _]
  show wpAny _ X.A.in1 (seqItems? (.ref S) >>= _) _ _ _
  refine wpAny_bind (wpAny_seqItems eS rfl ?_)
  show wpAny _ X.A.in1 (tryCatch (pyNext (.ref T)) _ >>= _) _ _ _
  refine wpAny_bind (wpAny_tryCatch (W.item 0 _ _ _ (by rw [List.size_toArray, ← hlen]; exact hne) ⟨hit, pl.isList⟩ fun v h' tk' hP hst' hk' => ?_))
  obtain ⟨x, hx⟩ : ∃ x, xs[0]? = some x := ⟨_, List.getElem?_eq_getElem hne⟩
  obtain ⟨u, hu, rv⟩ := rvs.get hx
  obtain rfl : u = v := Option.some.inj (hu.symm.trans (by simpa using hP))
  obtain ⟨oT', eT', hoc, hod⟩ := id hst'.1
  have eS' := hk' S _ (by simpa using hST) eS
  have dT' : ∀ v, oT'.data ≠ .cell v := fun v z => by rw [hod] at z; cases z
  have I2 : Inv X (pins ++ [(S, seqObj "list" #[] 0), (T, oT')]) σ H { s with heap := h', toks := tk' } := (I1.turn1 (t' := tk') fT fun b o hb e => hk' b o (by simpa using hb) e).pin2 fS fT eS' eT' (fun v z => nomatch z) dT'
  obtain rfl := hin 0 x hx
  obtain ⟨t2, rfl⟩ := rv
  have I3 := I2
  generalize hs'' : ({ s with heap := h', toks := tk' } : Shared) = s'' at I3 ⊢
  show wpAny _ X.A.in1 (pure (Value.int (kf 0) t2) >>= _) _ _ _
  refine wpAny_bind (wpAny_pure ?_)
  obtain ⟨eS3, eT3⟩ := I3.at2
  have I4 := I3.unpinned
  have sbS := Heap.SameBut.update s''.heap S (Obj.mapSeq fun _ => #[(Value.int (kf 0) t2), .int (kf 0) t2])
  obtain ⟨c2, hc2⟩ : ∃ c2, (s''.heap.update S (Obj.mapSeq fun _ => #[(Value.int (kf 0) t2), .int (kf 0) t2])).get? S = some (seqObj "list" #[(Value.int (kf 0) t2), .int (kf 0) t2] c2) := ⟨_, get?_update_seq eS3 fun _ => #[(Value.int (kf 0) t2), .int (kf 0) t2]⟩
  show wpAny _ X.A.in1 (updateSeq S (fun _ => #[(Value.int (kf 0) t2), .int (kf 0) t2]) >>= _) _ _ _
  refine wpAny_bind ?_
  refine wpAny_updateSeq eS3 rfl ?_
  rw [nmL]
  refine wpAny_pure ⟨plainId_quiet PySem.F.plain_min_loop _, minD_loop hc kf hl fS fT hST hlT hin hR _ 0 0 _ (.int (kf 0)) (Value.int (kf 0) t2) t2 c2 oT' rfl hne ((I4.turn1 fS fun b o hb e => (sbS.2 b hb).trans e).pin2 fS fT hc2 ((sbS.2 T (Ne.symm hST)).trans eT3) (fun v z => nomatch z) dT') ⟨oT', (sbS.2 T (Ne.symm hST)).trans eT3, hoc, hod⟩ hx ⟨t2, rfl⟩ (Nat.le_refl _) fun j' hj' => ?_⟩
  have e : j' = 0 := by omega
  subst e
  exact ⟨by omega, fun z => absurd z (Nat.lt_irrefl _)⟩
end

section
variable {X : Cx} {pins : List (Addr × Obj)} {σ : St} {H : Hp} {l : Addr} {xs : List V} {s : Shared}
/-- a new iterator over the list at l -/
abbrev itO (l : Addr) : Obj := { cls := .type "list_iterator", data := .fields #[.ref l, .int 0 0] }
theorem args_min_dflt (a v : Value) : argsOk "min" ⟨[a], [(Str.ofString "default", v)]⟩ := by unfold argsOk; kernel_rfl
/-- min(xs, key = f) -/
theorem call_minK {q : Addr} {E : Value → Shared → Prop} {Q : Value → Shared → Prop} (hc : X.calm = true) (kf : Nat → Int) (hl : SqL X.K H l xs) (hne : 0 < xs.length) (I : Inv X pins σ H s)
    (turn : ∀ (pl : List (Addr × Obj)) (s : Shared) (i : Nat) (x : V) (u : Value), Inv X (pins ++ pl) σ H s → xs[i]? = some x → RelV x u →
      wpAny (model X.prog X.w) X.A.in1 (call (.ref q) [u]) (EP X (pins ++ pl) σ fun y H' => y = .int (kf i) ∧ H' = H) (fun _ _ => False) s)
    (hQ : ∀ i x v s', xs[i]? = some x → (∀ j, j < xs.length → kf i ≤ kf j ∧ (j < i → kf i < kf j)) → RelV x v → Inv X pins σ H s' → Q v s') :
    wpAny (model X.prog X.w) X.A (call (.builtin "min") [.ref l] [(Str.ofString "key", .ref q)]) Q E s := by
  have nmL : (toString "min" ++ toString ".loop" : String) = "min.loop" := by decide
  obtain ⟨its, rvs, pl, _⟩ := I.list hl
  obtain ⟨ol, hol, _⟩ := id pl.isList
  have hlS : l < s.heap.objs.size := (Heap.lt_size hol)
  refine kmk_tree PySem.F.kind_min PySem.F.plain_min ent_min (kmk_min_key _ _) ?_
  show wpAny _ X.A.in1 (Builtin.Builtins.bindParams "min" ["key", "default"] 0 ⟨[], [(Str.ofString "key", .ref q)]⟩ >>= _) _ _ s
  refine wpAny_bind (wpAny_of_eq (show Builtin.Builtins.bindParams "min" ["key", "default"] 0 ⟨[], [(Str.ofString "key", .ref q)]⟩ = pure [some (.ref q), none] from rfl) ?_)
  refine wpAny_bind (wpAny_pure (wpAny_bind (wpAny_pyIter_list pl.isList (wpAny_bind (wpAny_newList ?_ (Nat.zero_le _))))))
  rw [nmL]
  refine wpAny_pure (And.intro (plainId_quiet PySem.F.plain_min_loop _) ?_)
  have hS : (s.heap.push (itO l)).objs.size = s.heap.objs.size + 1 := size_push' ..
  have hn1 : H s.heap.objs.size = none := I.hok.fresh (Nat.le_refl _)
  have hn2 : H (s.heap.push (itO l)).objs.size = none := by rw [hS]; exact I.hok.fresh (Nat.le_succ _)
  have fT : FpOk X pins H s.heap.objs.size := I.fpOk (Nat.le_refl _) hn1
  have fS : FpOk X pins H (s.heap.push (itO l)).objs.size := I.fpOk (by rw [hS]; exact Nat.le_succ _) hn2
  have hSI : (s.heap.push (itO l)).objs.size ≠ s.heap.objs.size := by rw [hS]; exact Nat.ne_of_gt (Nat.lt_succ_self _)
  have gI : ((s.heap.push (itO l)).push (seqObj "list" #[] 0)).get? s.heap.objs.size = some (itO l) :=
    Heap.get?_push_of_some _ (Heap.get?_push_size _ rfl)
  have gS : ((s.heap.push (itO l)).push (seqObj "list" #[] 0)).get? (s.heap.push (itO l)).objs.size = some (seqObj "list" #[] 0) := Heap.get?_push_size _ rfl
  have I2 : Inv X pins σ H { s with heap := (s.heap.push (itO l)).push (seqObj "list" #[] 0) } := I.kept (t' := s.toks) fun b o e => Heap.get?_push_of_some _ (Heap.get?_push_of_some _ e)
  exact minK_first hc kf hl fS fT hSI (Nat.ne_of_lt hlS) hne turn (fun i x v s' h1 h2 h3 h4 => hQ i x v s' h1 h2 h3 h4) (I2.pin2 fS fT gS gI (fun v z => nomatch z) (fun v z => nomatch z)) ⟨_, gI, rfl, rfl⟩
/-- min(xs, default = d), ints -/
theorem call_minD {dv : Value} {E : Value → Shared → Prop} {Q : Value → Shared → Prop} {ns : List Int} (hc : X.calm = true) (hl : SqL X.K H l (ns.map V.int)) (I : Inv X pins σ H s)
    (h0 : ns = [] → ∀ s', Inv X pins σ H s' → Q dv s') (hQ : ∀ m t s', m ∈ ns → (∀ y ∈ ns, m ≤ y) → Inv X pins σ H s' → Q (.int m t) s') :
    wpAny (model X.prog X.w) X.A (call (.builtin "min") [.ref l] [(Str.ofString "default", dv)]) Q E s := by
  have nmL : (toString "min" ++ toString ".loop" : String) = "min.loop" := by decide
  obtain ⟨its, rvs, pl, _⟩ := I.list hl
  obtain ⟨ol, hol, _⟩ := id pl.isList
  have hlS : l < s.heap.objs.size := (Heap.lt_size hol)
  refine kmk_tree PySem.F.kind_min PySem.F.plain_min PySem.F.entry_min (args_min_dflt _ _) ?_
  show wpAny _ X.A.in1 (Builtin.Builtins.bindParams "min" ["key", "default"] 0 ⟨[], [(Str.ofString "default", dv)]⟩ >>= _) _ _ s
  refine wpAny_bind (wpAny_of_eq (show Builtin.Builtins.bindParams "min" ["key", "default"] 0 ⟨[], [(Str.ofString "default", dv)]⟩ = pure [none, some dv] from rfl) ?_)
  refine wpAny_bind (wpAny_pure (wpAny_bind (wpAny_pyIter_list pl.isList (wpAny_bind (wpAny_newList ?_ (Nat.zero_le _))))))
  rw [nmL]
  refine wpAny_pure (And.intro (plainId_quiet PySem.F.plain_min_loop _) ?_)
  have hS : (s.heap.push (itO l)).objs.size = s.heap.objs.size + 1 := size_push' ..
  have hn1 : H s.heap.objs.size = none := I.hok.fresh (Nat.le_refl _)
  have hn2 : H (s.heap.push (itO l)).objs.size = none := by rw [hS]; exact I.hok.fresh (Nat.le_succ _)
  have fT : FpOk X pins H s.heap.objs.size := I.fpOk (Nat.le_refl _) hn1
  have fS : FpOk X pins H (s.heap.push (itO l)).objs.size := I.fpOk (by rw [hS]; exact Nat.le_succ _) hn2
  have hSI : (s.heap.push (itO l)).objs.size ≠ s.heap.objs.size := by rw [hS]; exact Nat.ne_of_gt (Nat.lt_succ_self _)
  have gI : ((s.heap.push (itO l)).push (seqObj "list" #[] 0)).get? s.heap.objs.size = some (itO l) :=
    Heap.get?_push_of_some _ (Heap.get?_push_size _ rfl)
  have gS : ((s.heap.push (itO l)).push (seqObj "list" #[] 0)).get? (s.heap.push (itO l)).objs.size = some (seqObj "list" #[] 0) := Heap.get?_push_size _ rfl
  have I2 : Inv X pins σ H { s with heap := (s.heap.push (itO l)).push (seqObj "list" #[] 0) } := I.kept (t' := s.toks) fun b o e => Heap.get?_push_of_some _ (Heap.get?_push_of_some _ e)
  have hit : ((s.heap.push (itO l)).push (seqObj "list" #[] 0)).IsListIter s.heap.objs.size l 0 := ⟨_, gI, rfl, rfl⟩
  by_cases hne : 0 < ns.length
  · refine minD_first hc (fun i => ns.getD i 0) hl fS fT hSI (Nat.ne_of_lt hlS) (by rw [List.length_map]; exact hne) (fun i x hx => ?_) (fun i x v s' h1 h2 h3 h4 => ?_) (I2.pin2 fS fT gS gI (fun v z => nomatch z) (fun v z => nomatch z)) hit
    · rw [List.getElem?_map] at hx
      cases e : ns[i]? with
      | none => rw [e] at hx; cases hx
      | some n =>
        rw [e] at hx
        rw [List.getD_eq_getElem?_getD, e]
        exact (Option.some.inj hx).symm
    · rw [List.getElem?_map] at h1
      cases e : ns[i]? with
      | none => rw [e] at h1; cases h1
      | some n =>
        rw [e] at h1
        obtain rfl : V.int n = x := Option.some.inj h1
        obtain ⟨t, rfl⟩ := h3
        refine hQ n t s' (List.mem_of_getElem? e) (fun y hy => ?_) h4
        obtain ⟨j, hj⟩ := List.mem_iff_getElem?.mp hy
        have := (h2 j (by rw [List.length_map]; exact (List.getElem?_eq_some_iff.mp hj).1)).1
        rw [List.getD_eq_getElem?_getD, List.getD_eq_getElem?_getD, e, hj] at this
        exact this
  · have hnil : ns = [] := List.length_eq_zero_iff.mp (by omega)
    subst hnil
    have hlen := rvs.length
    have W := Walks.list (prog := X.prog) (w := X.w) (A := X.A.in1) (show X.A.in1.handled = none from I.ok.hd hc) s.heap.objs.size l (Nat.ne_of_lt hlS) its.toArray
    obtain ⟨its2, rvs2, pl2, _⟩ := I2.list hl
    have e0 : its = [] := by
      cases rvs
      rfl
    subst e0
    have e2 : its2 = [] := by
      cases rvs2
      rfl
    subst e2
    refine codeAny_builtin PySem.F.entry_min_loop ?_; rw [Around.under_plainId PySem.F.plain_min_loop _]
    show wpAny _ X.A.in1 (seqItems? (.ref _) >>= _) _ _ _
    refine wpAny_bind (wpAny_seqItems gS rfl ?_)
    show wpAny _ X.A.in1 (tryCatch (pyNext (.ref s.heap.objs.size)) _ >>= _) _ _ _
    refine wpAny_bind (wpAny_tryCatch (W.done _ _ _ ⟨hit, pl2.isList⟩ fun h' tk' hk' => ?_))
    have I3 : Inv X pins σ H { s with heap := h', toks := tk' } := I2.turn1 (t' := tk') fT fun b o hb e => hk' b o (by simpa using hb) e
    show wpAny _ X.A.in1 (rule _ >>= _) _ _ _
    refine wpAny_bind (wpAny_rule (wpAny_pure ?_))
    exact h0 rfl _ I3
end
end L2

end

section
set_option Elab.async false
set_option linter.all false
set_option maxRecDepth 100000
set_option maxHeartbeats 3000000
namespace L2
open PySem PySem.Spec PyProof.Rows
/-! ### a lambda: its making (the code's table grows once), its call -/
/-- all stands; of tables no more than that they are there -/
def SameT (H H' : Hp) : Prop := ∀ b o, H b = some o → ((∀ ps, o ≠ .tbl ps) → H' b = some o) ∧ H' b ≠ none
theorem SameT.of {H H' : Hp} (x : Same H H') : SameT H H' := fun b o e => ⟨fun _ => x b o e, fun z => by rw [x b o e] at z; cases z⟩
theorem SameT.refl (H : Hp) : SameT H H := .of (Same.refl H)
theorem SameT.at_ {H H' : Hp} (x : SameT H H') {b : Addr} {o : HO} (e : H b = some o) (n : ∀ ps, o ≠ .tbl ps) : H' b = some o := (x b o e).1 n
theorem SameT.trans {H H1 H2 : Hp} (x : SameT H H1) (y : SameT H1 H2) : SameT H H2 := fun b o e => ⟨fun n => y.at_ (x.at_ e n) n, by
  cases q : H1 b with
  | none => exact absurd q (x b o e).2
  | some o1 => exact (y b o1 q).2⟩
theorem SameT.free {H H' : Hp} (x : SameT H H') {b : Addr} (h : H' b = none) : H b = none := by
  cases q : H b with
  | none => rfl
  | some o => exact absurd h (x b o q).2
theorem SameT.seq {K : PySem.W.Frag} {H H' : Hp} (x : SameT H H') {a : Addr} {xs : List V} (h : SqL K H a xs) : SqL K H' a xs := by
  rcases h with (h | ⟨o, h⟩) | h
  · exact .inl (.inl (x.at_ h fun _ z => nomatch z))
  · exact .inl (.inr ⟨o, x.at_ h fun _ z => nomatch z⟩)
  · exact .inr h
/-- the code that a table keeps -/
def recO (c : Addr) (qual : Str) : HO := .ext fun h => h.CodeRec (.ref c) qual
theorem rec_stay {h1 h2 : Heap} {c : Addr} {qual : Str} (x : h1.CodeRec (.ref c) qual) (k : ∀ o, h1.get? c = some o → h2.get? c = some o) : h2.CodeRec (.ref c) qual := by
  obtain ⟨c', o, vs, t, e, g, r⟩ := x
  cases e
  exact ⟨c, o, vs, t, rfl, k o g, r⟩
/-- the table at P: empty, or it holds the lambda's code -/
def TabIs (pos : Pos) (qual : Str) (P : Addr) (H : Hp) : Prop := H P = some (.tbl #[]) ∨ ∃ c, H P = some (.tbl #[rawInt pos.line, rawInt pos.col, .ref c]) ∧ H c = some (recO c qual)
theorem TabIs.mono {pos : Pos} {qual : Str} {P : Addr} {H H' : Hp} (k : Same H H') (h : TabIs pos qual P H) : TabIs pos qual P H' := by
  rcases h with h | ⟨c, h1, h2⟩
  · exact .inl (k _ _ h)
  · exact .inr ⟨c, k _ _ h1, k _ _ h2⟩
/-- the names of a lambda of one parameter -/
structure LamOk (N : List Str) (sc scope : Scope) (p : Str) (i : Nat) : Prop where
  kind : scope.kind = .function
  co : scope.isCoroutine = false
  gen : scope.isGenerator = false
  uniq : ∀ y ∈ scope.names, scope.names.lookup y.1 = some y.2
  nocell : ∀ y ∈ scope.names, y.2 ≠ .cell
  free : ∀ y ∈ scope.names, y.2 = .free → sc.names.lookup y.1 = some .cell ∨ sc.names.lookup y.1 = some .free
  own : ∀ y ∈ scope.names, y.2 = .local → y.1 = p
  par : scope.names.lookup p = some .local
  ix : N[i]? = some p
  nd : N.Nodup
/-- what the base tells of the builtins' module -/
def BMain (mg : Str → Option Value) (h : Heap) : Prop := ∃ bm ob, mg "__builtins__" = some (.ref bm) ∧ bm ≠ builtinsNs ∧ h.get? bm = some ob ∧ ob.cls = .type "module" ∧ ob.dict = some builtinsNs ∧ ob.data = .plain
abbrev lamCx (X : Cx) (s : Shared) (H : Hp) (env : Env) : Cx := { X with A := X.A.in1.deeper env, s_0 := s, H_0 := H, env := env, outer := X.stack, stack := env :: X.stack, ex := [], fn := fun _ => false, pn := [], xe := fun _ _ => False }
section
variable {X : Cx} {pins : List (Addr × Obj)} {σ : St} {H : Hp} {s : Shared} {scope : Scope} {p qual name : Str} {i : Nat} {f c : Addr} {params : Arguments} {body : Expr} {pm ctv : Value}
theorem lam_clos (I : Inv X pins σ H s) (ok : LamOk X.N X.env.scope scope p i) : ∀ y ∈ scope.names, y.2 = .free → ∃ c, X.env.cells.lookup y.1 = some c := fun y hy e => by
  rcases ok.free y hy e with k | k
  · exact I.ok.has _ (.inl k)
  · exact I.ok.has _ (.inr k)
theorem lam_inv {h1 : Heap} {u : Value} {x : V} (I : Inv X pins σ H s) (ok : LamOk X.N X.env.scope scope p i) (hns : h1.Ns s.heap.objs.size (fun y => [(p, u)].reverse.lookup y)) (hk : ∀ b o, s.heap.get? b = some o → h1.get? b = some o) (rx : RelV x u) (t : Nat) :
    Inv (lamCx X s H (PySem.W.envX qual scope s.heap.objs.size f (.ref c) (cloFrom X.env.cells scope.names []))) [] (σ.set i (some x)) H { s with heap := h1, toks := t } := by
  have e0 := I.env0
  have cm : ∀ {y cc}, (cloFrom X.env.cells scope.names []).lookup y = some cc → X.env.cells.lookup y = some cc := fun {y cc} h => by
    rcases cloFrom_mem (PySem.mem_of_lookup h) with hm | ⟨h1, rfl⟩
    · cases hm
    · obtain ⟨c', hc⟩ := lam_clos I ok _ h1 rfl
      rw [hc]
      rfl
  have look : ∀ {y}, scope.names.lookup y = some .free → ∃ cc, (cloFrom X.env.cells scope.names []).lookup y = some cc ∧ X.env.cells.lookup y = some cc := fun {y} hl => by
    obtain ⟨c', e'⟩ := mem_lookup (cloFrom_has (cells := X.env.cells) (acc := []) (PySem.mem_of_lookup hl))
    exact ⟨c', e', cm e'⟩
  have nocell : ∀ y, scope.names.lookup y ≠ some .cell := fun y h => ok.nocell _ (PySem.mem_of_lookup h) rfl
  have noA : ∀ b : Addr, b ∉ ([] : List Addr) := fun b => by simp
  refine ⟨⟨e0.mod, ok.kind, rfl, rfl, Nat.le_refl _, fun y z cc h1 h2 => I.ok.inj y z cc (cm h1) (cm h2), fun y hy => ?_, fun y cc h => absurd h (by simp), fun h => I.ok.hd h, Around.frames_deeper e0.in1.frames, .inr ⟨rfl, rfl⟩, fun b z => absurd z (noA b), e0.bs, e0.bsz, fun b _ _ => noA b, fun b z => absurd z (noA b), e0.funs, e0.frf⟩,
    rfl, I.bare, Un.kept hk, ⟨_, hns, fun j y v h1 h2 h3 => ?_⟩, fun y cc h => ?_, I.hok.fresh (Nat.le_refl _), fun y cc h => I.freeC y cc (cm h), fun p hp => absurd (show p ∈ ([] : List (Addr × Obj)) from hp) (by simp), I.hok.kept hk, by rw [List.length_set]; exact I.len⟩
  · have hy : scope.names.lookup y = some .cell ∨ scope.names.lookup y = some .free := hy
    rcases hy with hy | hy
    · exact absurd hy (nocell y)
    · obtain ⟨cc, q, _⟩ := look hy
      exact ⟨cc, q⟩
  · have h3 : scope.names.lookup y = some .local ∨ scope.names.lookup y = some .cell ∨ scope.names.lookup y = some .free := h3
    rcases h3 with h3 | h3 | h3
    · have ey : y = p := ok.own _ (PySem.mem_of_lookup h3) rfl
      subst ey
      have ei := nodup_ix ok.nd h1 ok.ix
      subst ei
      have hlt : j < σ.length := by rw [I.len]; exact (List.getElem?_eq_some_iff.mp h1).1
      rw [List.getElem?_set_self hlt] at h2
      cases h2
      exact ⟨u, rx, .inl ⟨h3, by simp⟩⟩
    · exact absurd h3 (nocell y)
    · have hne : i ≠ j := fun e => by
        subst e
        have ey : y = p := Option.some.inj (h1.symm.trans ok.ix)
        rw [ey, ok.par] at h3
        cases h3
      rw [List.getElem?_set_ne hne] at h2
      obtain ⟨m, _, hl⟩ := I.loc
      have hv : X.env.scope.names.lookup y = some .cell ∨ X.env.scope.names.lookup y = some .free := ok.free (y, .free) (PySem.mem_of_lookup h3) rfl
      obtain ⟨u', ru, lk⟩ := hl j y v h1 h2 (.inr hv)
      refine ⟨u', ru, .inr ⟨.inr h3, ?_⟩⟩
      obtain ⟨cc, q1, q2⟩ := look h3
      refine ⟨cc, q1, ?_⟩
      rcases lk with ⟨k, _⟩ | ⟨_, c2, e2, z⟩
      · have k : X.env.scope.names.lookup y = some .local := k
        rcases hv with hv | hv <;> (rw [k] at hv; cases hv)
      · rw [q2] at e2
        cases e2
        obtain ⟨o, ho, hd⟩ := z
        exact ⟨o, hk _ _ ho, hd⟩
  · obtain ⟨w', o, ho, hd⟩ := I.cell y cc (cm h)
    exact ⟨w', o, hk _ _ ho, hd⟩
/-- the lambda at f is called -/
theorem lam_call {k : Nat} {Q : VK} {te : TE} {x : V} {u : Value} (I : Inv X pins σ H s) (hr : Room k X.A) (ok : LamOk X.N X.env.scope scope p i)
    (hf : (f, PySem.W.kla_obj name qual params body scope (cloFrom X.env.cells scope.names []) pm c ctv) ∈ pins) (hcd : s.heap.CodeRec (.ref c) qual)
    (hbind : ∀ v, bindArgs (PySem.W.kla_fn name qual params body scope (cloFrom X.env.cells scope.names []) pm (.ref c) ctv) ⟨[v], []⟩ = pure [(p, v)]) (rx : RelV x u)
    (hb : PE (lamCx X s H (PySem.W.envX qual scope s.heap.objs.size f (.ref c) (cloFrom X.env.cells scope.names []))) body te) (q : te (σ.set i (some x)) H Q) :
    wpAny (model X.prog X.w) X.A.in1 (call (.ref f) [u]) (EP X pins σ Q) (fun _ _ => False) s := by
  have hget := (I.pin _ (List.mem_append_right _ hf)).1
  refine wpAny_call (codeAny_mono (R := fun r s' => match r with
    | .ok (.ret u) => CE X.stack X.prog X.w H s Q u s'
    | _ => False) (PySem.W.kla_callFunE (show X.A.in1.depth < recursionLimit from hr.depth) hget rfl ok.co ok.gen rfl hcd ?_) fun r s' hq => ?_)
  · rw [hbind]
    refine wpAny_pure (wpAny_newFunctionEnv ok.nocell (fun y hy => ?_) (fun h1 hns hsb => ?_) ok.kind)
    · rw [List.mem_singleton.mp hy]
      exact ok.par
    · have hk : ∀ b o, s.heap.get? b = some o → h1.get? b = some o := fun b o e => hsb.extBut b o (Nat.ne_of_lt (Heap.lt_size e)) (Heap.get?_push_of_some _ e)
      refine ⟨I.nolimit.keeps hk, ?_⟩
      show codeAny _ _ (.expr body (PySem.W.envX qual scope s.heap.objs.size f (.ref c) (cloFrom X.env.cells scope.names []))) _ _
      have I1 := lam_inv (qual := qual) (f := f) (c := c) I ok hns hk rx (s.toks + 1)
      refine PySem.W.kla_codeExpr (wpAny_mono (hb [] _ _ H Q I1 q) (fun v s' h => ?_) fun _ _ h => h.elim)
      obtain ⟨v', H', J, rv, qq⟩ := h
      exact ⟨v', H', J.os, J.bare, J.base, J.hok, rv, qq⟩
  · cases r with
    | error e => exact False.elim hq
    | ok fl =>
      cases fl with
      | ret u => exact I.after hq
      | next => exact False.elim hq
      | brk => exact False.elim hq
      | cont => exact False.elim hq
/-- the lambda is made -/
theorem lam_make {P cc : Addr} {pos : Pos} {E : Value → Shared → Prop} {Q : Value → Shared → Prop} (I : Inv X pins σ H s) (ok : LamOk X.N X.env.scope scope p i) (hcode : X.env.code = .ref cc) (hC : PySem.W.CodeHd X.base cc P) (hB : BMain X.mg X.base) (hT : TabIs pos (X.env.qual ++ "<lambda>") P H)
    (hdef : defaultsOf params X.env = ([], []))
    (hQ : ∀ f c pm ctv H' s', SameT H H' → TabIs pos (X.env.qual ++ "<lambda>") P H' → H' c = some (recO c (X.env.qual ++ "<lambda>")) →
      Inv X (pins ++ [(f, PySem.W.kla_obj "<lambda>" (X.env.qual ++ "<lambda>") params body scope (cloFrom X.env.cells scope.names []) pm c ctv)]) σ H' s' → Q (.ref f) s') :
    wpAny (model X.prog X.w) X.A (eval (.Lambda params body scope pos) X.env) Q E s := by
  have hcl := closure_ok (lam_clos I ok)
  have hg := I.ok.mod.glob.keeps I.bk
  have hC' := hC.keeps I.bk
  have hPn : ∀ {b : Addr} {o : Obj}, X.base.get? b = some o → b ≠ P := fun {b o} e z => by
    have := (I.bs b o e).2
    rw [z] at this
    rcases hT with h | ⟨_, h, _⟩ <;> (rw [h] at this; cases this)
  have hgP : mainGlobals ≠ P := by
    obtain ⟨o, es, ep, e, _⟩ := I.ok.mod.glob
    exact hPn e
  obtain ⟨bm, ob, b1, b2, b3, b4, b5, b6⟩ := hB
  have hbG : bm ≠ mainGlobals := fun q => by
    obtain ⟨o, es, ep, e, hd, _⟩ := I.ok.mod.glob
    rw [q, e] at b3
    cases b3
    rw [hd] at b6
    cases b6
  have hBA : s.heap.BuiltinsAt X.mg P := ⟨bm, ob, b1, b2, hbG, hPn b3, I.bk _ _ b3, b4, b5, b6⟩
  refine PySem.W.kla_eval hdef ?_
  rcases hT with hT | ⟨c, hT, hc⟩
  · have eP : s.heap.get? P = some (PySem.W.tabObj #[]) := I.hok P _ hT
    refine PySem.W.kla_makeFunction (mg := X.mg) hcl I.ok.glob hg hcode hC' eP trivial rfl hgP hBA fun c' ctv h' tk hx hge hlt hrec htb => ?_
    have hcn : H c' = none := I.hok.fresh hge
    have hcP : c' ≠ P := fun e => by rw [e, hT] at hcn; cases hcn
    have hfn : H h'.objs.size = none := I.hok.fresh (Nat.le_trans hge (Nat.le_of_lt hlt))
    have hPlt : P < s.heap.objs.size := Heap.lt_size eP
    have hfP : h'.objs.size ≠ P := fun e => by
      have : P < h'.objs.size := Nat.lt_of_lt_of_le hPlt (Nat.le_trans hge (Nat.le_of_lt hlt))
      rw [e] at this
      exact Nat.lt_irrefl _ this
    generalize hob : PySem.W.kla_obj "<lambda>" (X.env.qual ++ "<lambda>") params body scope (cloFrom X.env.cells scope.names []) ((X.mg "__name__").getD .none) c' ctv = oF
    have kp : ∀ b o, b ≠ P → s.heap.get? b = some o → (h'.push oF).get? b = some o := fun b o hb e => Heap.get?_push_of_some _ (hx b o hb e)
    have ptb : (h'.push oF).get? P = some (PySem.W.tabObj (#[] ++ #[rawInt pos.line, rawInt pos.col, .ref c'])) := Heap.get?_push_of_some _ htb
    have H'at : ∀ b o, H b = some o → b ≠ P → upd (upd H P (.tbl #[rawInt pos.line, rawInt pos.col, .ref c'])) c' (recO c' (X.env.qual ++ "<lambda>")) b = some o := fun b o e hb => by
      rw [upd_ne (ne_of_none e hcn), upd_ne hb]
      exact e
    have neP : ∀ b o, H b = some o → (∀ ps, o ≠ .tbl ps) → b ≠ P := fun b o e hn z => by
      rw [z, hT] at e
      cases e
      exact hn _ rfl
    have I1 : Inv X pins σ (upd (upd H P (.tbl #[rawInt pos.line, rawInt pos.col, .ref c'])) c' (recO c' (X.env.qual ++ "<lambda>"))) { s with heap := h'.push oF, toks := tk } := by
      refine I.step (g' := s.gens) (d' := s.drawn) (t' := tk) (ch := []) (fun _ z => nomatch z) (fun b o _ _ _ e n => kp b o (fun z => by rw [z, hT] at n; cases n) e) (fun b o _ _ _ e n => ⟨o.slots, kp b o (fun z => by rw [z, hT] at n; cases n) e⟩) (fun b o _ e n => ?_) (fun b o _ e => ?_)
        (fun b xs e => H'at b _ e (neP b _ e fun _ z => nomatch z)) (fun b o u e => H'at b _ e (neP b _ e fun _ z => nomatch z)) (fun b ps e => ?_) (fun m hm => ?_) (fun b o e => ?_) I.bare
      · rw [upd_ne (Nat.ne_of_lt (Nat.lt_of_lt_of_le (Heap.lt_size e) hge)), upd_ne (fun z => by rw [z, hT] at n; cases n)]
        exact n
      · by_cases hb : b = P
        · exact ⟨_, by rw [hb]; exact ptb⟩
        · exact ⟨o, kp b o hb e⟩
      · by_cases hb : b = P
        · rw [hb, hT] at e
          cases e
          exact ⟨#[rawInt pos.line, rawInt pos.col, .ref c'], by rw [hb, upd_ne (Ne.symm hcP), upd_same]; rfl⟩
        · exact ⟨#[], by rw [H'at b _ e hb]; simp⟩
      · have hLP : X.env.locals ≠ P := fun z => by
          have := I.free
          rw [z, hT] at this
          cases this
        exact (hm.extBut hx hLP).push _
      · by_cases hb : b = c'
        · rw [hb, upd_same] at e
          cases e
          rw [hb]
          exact ⟨hrec.push _, by obtain ⟨cq, oq, vq, tq, e1, e2, _⟩ := hrec; cases e1; exact ⟨oq, Heap.get?_push_of_some _ e2⟩, fun h1 h2 x k => rec_stay x k⟩
        · rw [upd_ne hb] at e
          by_cases hbP : b = P
          · rw [hbP, upd_same] at e
            cases e
            rw [hbP]
            exact ptb
          · rw [upd_ne hbP] at e
            refine (I.hok b o e).stay (fun q v hq r => kp q v ?_ r) (fun q r => H'at q _ r (neP q _ r fun _ z => nomatch z)) fun q xs r => H'at q _ r (neP q _ r fun _ z => nomatch z)
            rcases hq with rfl | hq
            · exact hbP
            · exact neP q _ hq fun _ z => nomatch z
    refine hQ h'.objs.size c' ((X.mg "__name__").getD .none) ctv _ _ (fun b o e => ⟨fun hn => H'at b o e (neP b o e hn), fun z => by
      by_cases hb : b = P
      · rw [hb, upd_ne (Ne.symm hcP), upd_same] at z
        cases z
      · rw [H'at b o e hb] at z
        cases z⟩) (.inr ⟨c', by rw [upd_ne (Ne.symm hcP), upd_same], upd_same⟩) upd_same (I1.pins_of fun q hq => ?_)
    rcases List.mem_append.mp hq with z | z
    · exact I1.pin q (List.mem_append_right _ z)
    · rw [List.mem_singleton.mp z, hob]
      refine ⟨Heap.get?_push_size _ (by subst hob; rfl), ?_, ?_, ?_, fun v z => by subst hob; cases z⟩
      · show upd (upd H P _) c' _ h'.objs.size = none
        rw [upd_ne (Nat.ne_of_gt hlt), upd_ne hfP]
        exact hfn
      · exact Nat.ne_of_gt (Nat.lt_of_lt_of_le I.lt (Nat.le_trans hge (Nat.le_of_lt hlt)))
      · exact I.nofs (Nat.le_trans hge (Nat.le_of_lt hlt))
  · have eP : s.heap.get? P = some (PySem.W.tabObj #[rawInt pos.line, rawInt pos.col, .ref c]) := I.hok P _ hT
    refine PySem.W.kla_makeFunctionHit (mg := X.mg) (cv := .ref c) hcl I.ok.glob hg hcode hC' eP trivial (by simp [codeAmong, rawInt]) hBA fun ctv h' tk hk hsz => ?_
    have I1 : Inv X pins σ H { s with heap := h'.push (PySem.W.kla_obj "<lambda>" (X.env.qual ++ "<lambda>") params body scope (cloFrom X.env.cells scope.names []) ((X.mg "__name__").getD .none) c ctv), toks := tk } := I.kept (t' := tk) fun b o e => Heap.get?_push_of_some _ (hk b o e)
    refine hQ h'.objs.size c ((X.mg "__name__").getD .none) ctv H _ (SameT.refl H) (.inr ⟨c, hT, hc⟩) hc (I1.pins_of fun q hq => ?_)
    rcases List.mem_append.mp hq with z | z
    · exact I1.pin q (List.mem_append_right _ z)
    · rw [List.mem_singleton.mp z]
      exact ⟨Heap.get?_push_size _ rfl, I.hok.fresh hsz, Nat.ne_of_gt (Nat.lt_of_lt_of_le I.lt hsz), I.nofs hsz, fun v z => nomatch z⟩
end
/-! ### the rules -/
section
variable {X : Cx} {e : Expr} {es : List Expr} {kws : List Keyword} {t tk : TA} {pa pos kpos lpos : Pos}
theorem boot_min1 : bootBuiltins "min" = some (.builtin "min") := by decide +kernel
/-- min(list, default = d) of ints -/
def tMinD (K : PySem.W.Frag) (t tk : TA) : TE := fun σ H Q => t σ H fun vs H1 => tk σ H1 fun zs H2 => ∃ (l : Addr) (ns : List Int) (d : V), vs = [.ref l] ∧ zs = [d] ∧ SqL K H2 l (ns.map V.int) ∧ (ns = [] → Q d H2) ∧ ∀ m, m ∈ ns → (∀ y ∈ ns, m ≤ y) → Q (.int m) H2
theorem pe_minD {d : Expr} (hc : X.calm = true) (hg : Gl X "min") (hm : X.mg "min" = none) (ha : PA X [e] t) (hd : PK X [⟨some "default", d, kpos⟩] tk) (he : starEach [e] X.env = [(false, eval e X.env)] := by rfl) :
    PE X (.Call (.Name "min" pa) [e] [⟨some "default", d, kpos⟩] pos) (tMinD X.K t tk) := by
  intro pins s σ H Q I h
  refine wpAny_Call_Name_kw (ld_blt I hg hm boot_min1 ?_ (by decide) (by decide))
  refine PyProof.Rows.callWith_kw ?_ (by rw [he]; rfl) (by rw [he]; rfl)
  refine thn (ha pos pins s σ H _ I h) fun us s1 ⟨vs, H1, I1, r1, q1⟩ => ?_
  refine thn (hd pos pins s1 σ H1 _ I1 q1) fun ws s2 ⟨zs, H2, I2, r2, l, ns, z, ev, ez, hl, q0, qm⟩ => ?_
  subst ev ez
  obtain ⟨u, rfl, ru⟩ := vals1 r1
  obtain ⟨w', rfl, rw'⟩ := vals1 r2
  cases ru
  exact call_minD hc hl I2 (fun en s' I' => ⟨z, H2, I', rw', q0 en⟩) fun m t s' h1 h2 I' => ⟨.int m, H2, I', ⟨t, rfl⟩, qm m h1 h2⟩
/-- min(list, key = lambda x: ..): the leftmost of the least -/
def tMinK (K : PySem.W.Frag) (P : Addr) (pos : Pos) (qual : Str) (i : Nat) (t : TA) (tb : TE) : TE := fun σ H Q => t σ H fun vs H1 => ∃ (l : Addr) (xs : List V) (kf : Nat → Int), vs = [.ref l] ∧ 0 < xs.length ∧ TabIs pos qual P H1 ∧
  ∀ H2, SameT H1 H2 → TabIs pos qual P H2 → SqL K H2 l xs ∧ (∀ j x, xs[j]? = some x → tb (σ.set i (some x)) H2 fun y H' => y = .int (kf j) ∧ H' = H2) ∧ ∀ j x, xs[j]? = some x → (∀ k, k < xs.length → kf j ≤ kf k ∧ (k < j → kf j < kf k)) → Q x H2
theorem pe_minK {P cc : Addr} {k i : Nat} {p : Str} {params : Arguments} {body : Expr} {scope : Scope} {tb : TE} (hc : X.calm = true) (hr : Room k X.A) (hg : Gl X "min") (hm : X.mg "min" = none) (hcode : X.env.code = .ref cc) (hC : PySem.W.CodeHd X.base cc P) (hB : BMain X.mg X.base) (ok : LamOk X.N X.env.scope scope p i)
    (hdef : defaultsOf params X.env = ([], [])) (hbind : ∀ (qual : Str) (cl : List (Str × Addr)) (pm c ctv v : Value), bindArgs (PySem.W.kla_fn "<lambda>" qual params body scope cl pm c ctv) ⟨[v], []⟩ = pure [(p, v)])
    (ha : PA X [e] t) (hb : ∀ (s : Shared) (H : Hp) (L f c : Addr) (cl : List (Str × Addr)), PE (lamCx X s H (PySem.W.envX (X.env.qual ++ "<lambda>") scope L f (.ref c) cl)) body tb) (he : starEach [e] X.env = [(false, eval e X.env)] := by rfl) :
    PE X (.Call (.Name "min" pa) [e] [⟨some "key", .Lambda params body scope lpos, kpos⟩] pos) (tMinK X.K P lpos (X.env.qual ++ "<lambda>") i t tb) := by
  intro pins s σ H Q I h
  refine wpAny_Call_Name_kw (ld_blt I hg hm boot_min1 ?_ (by decide) (by decide))
  refine PyProof.Rows.callWith_kw ?_ (by rw [he]; rfl) (by rw [he]; rfl)
  refine thn (ha pos pins s σ H _ I h) fun us s1 ⟨vs, H1, I1, r1, l, xs, kf, ev, hne, hT, q1⟩ => ?_
  subst ev
  obtain ⟨u, rfl, ru⟩ := vals1 r1
  cases ru
  show wpAny _ _ (evalAll [do let v ← eval (.Lambda params body scope lpos) X.env; standAt pos; pure v]) _ _ s1
  refine wpAny_evalAll_cons (wpAny_bind (lam_make I1 ok hcode hC hB hT hdef fun f c pm ctv H2 s2 sT hT2 hrec I2 => wpAny_bind (wpAny_standAt (wpAny_pure (wpAny_evalAll_nil ?_)))))
  obtain ⟨hl, turn, fin⟩ := q1 H2 sT hT2
  show wpAny _ _ (call (.builtin "min") [.ref l] [(Str.ofString "key", .ref f)]) _ _ _
  refine call_minK hc kf hl hne I2 (fun pl s3 j x u I3 hx rx => ?_) fun j x v s3 hx hmin rx I3 => ⟨x, H2, I3.unpinned, rx, fin j x hx hmin⟩
  have hcr : s3.heap.CodeRec (.ref c) (X.env.qual ++ "<lambda>") := (I3.hok c _ hrec).1
  exact lam_call I3 hr ok (List.mem_append_left _ (List.mem_append_right _ (.head _))) hcr (fun v => hbind _ _ _ _ _ v) rx (hb _ _ _ _ _ _) (turn j x hx)
end
end L2

end

section
set_option Elab.async false
set_option linter.all false
set_option maxRecDepth 100000
set_option maxHeartbeats 3000000
namespace L2
open PySem PySem.Spec PyProof.Rows
open PySem.W (WData Codec OpenSpec Well WellAll ReadsW ReadsAllW)
/-! ### the call, one code's table tracked -/
theorem spec_callT {P : Program} {w : World} {K : PySem.W.Frag} {mg mb : Str → Option Value} {CX : CXT} {k : Nat} {fa c T : Addr} {fd : FuncData} {ps : List Str} {sp : Sp} {s₁ : Shared} {vals : List Value} {ds : List WData} {R : PySem.W.WRecords} {cl : Str → Option Addr} {d0 : WData}
    (KX : K.In s₁.heap) (hns : s₁.heap.Ns mainGlobals mg) (hb : s₁.heap.Ns builtinsNs mb) (hbb : ∀ x : Str, x ≠ "__name__" → mb x = bootBuiltins x) (hlim : s₁.heap.NoLimit) (hg : s₁.gens = #[]) (hC : PySem.W.CodeHd s₁.heap c T) (hT : s₁.heap.get? T = some (PySem.W.tabObj #[])) (hnt : PySem.W.noTabs K = true) (hB : BMain mg s₁.heap) (hTs : T ≠ cStatics)
    (hwl : WellAll w.params s₁.heap vals ds) (hpl : plWs ds = true) (hwt : ∀ d ∈ ds, d.weight ≤ 1048576) (hr : Room k callerA)
    (F : ∀ base : Heap, K.In base → base.Ns mainGlobals mg → PySem.W.CodeHd base c T → BMain mg base → FnOk P w K mg base CX k fa fd ps sp) (hbind : ∀ (s : Shared) (us : List Value), us.length = ps.length → BindsTo s fd ⟨us, []⟩ (ps.zip us)) (hlen : ds.length = ps.length)
    (hsp : ∀ (H0 H : Hp) (xs : List V), DwAll K H0 xs ds → Same H0 H → H T = some (.tbl #[]) → sp xs H (fun v H' => Dw K H' v d0) fun _ _ _ => False)
    (hCX : ∀ H e s', CX [] H s₁ (fun _ _ _ => False) e s' → False) :
    codeAny (model P w) callerA (.call (.ref fa) ⟨vals, []⟩) (fun r s' => ∃ u as, r = .ok (.ret u) ∧ ReadsW R cl s'.heap u d0 as ∧ OldK s₁.heap s'.heap ∧ s'.os = s₁.os ∧ AllBare s'.gens) s₁ := by
  obtain ⟨A, ho, ar⟩ := area_all ds vals hwl hpl hwt
  have hO : OnlyF (argH K s₁.heap A) := argH_only ar
  have hok0 : HOk P w (argH K s₁.heap A) s₁.heap := argH_ok ar
  have hS := dw_all KX ar ds vals hwl hpl ho
  have hV := vals_toV ho
  have isSeq : ∀ {b : Addr} {u : HO}, argH K s₁.heap A b = some u → K.lookup b = none ∧ ∃ o vs n, s₁.heap.get? b = some o ∧ o.data = .seq vs n := fun {b u} q => by
    obtain ⟨h1, vs, _, _, ⟨e2, _⟩ | ⟨e2, _⟩⟩ := argH_is ar q
    · exact ⟨h1, _, _, _, e2, rfl⟩
    · exact ⟨h1, _, _, _, e2, rfl⟩
  have hTn : argH K s₁.heap A T = none := by
    cases q : argH K s₁.heap A T with
    | none => rfl
    | some u =>
      obtain ⟨_, o, vs, n, e, d⟩ := isSeq q
      rw [hT] at e
      cases e
      cases d
  generalize argH K s₁.heap A = H0 at hO hok0 hS isSeq hTn
  have hKT : K.lookup T = none := by
    cases q : K.lookup T with
    | none => rfl
    | some o =>
      have e := KX T o q
      rw [hT] at e
      cases e
      have h2 := List.all_eq_true.mp hnt (T, PySem.W.tabObj #[]) (PySem.W.mem_of_lookupK q)
      exact absurd (show false = true from h2) Bool.false_ne_true
  have hsame : Same H0 (upd H0 T (.tbl #[])) := fun b o e => by
    rw [upd_ne (ne_of_none e hTn)]
    exact e
  have hok : HOk P w (upd H0 T (.tbl #[])) s₁.heap := fun b o e => by
    by_cases hb : b = T
    · rw [hb, upd_same] at e
      cases e
      rw [hb]
      exact hT
    · rw [upd_ne hb] at e
      exact (hok0 b o e).stay (fun _ _ _ q => q) (fun q r => hsame q _ r) fun q xs r => hsame q _ r
  have hHT : upd H0 T (.tbl #[]) T = some (.tbl #[]) := upd_same
  have noD : ∀ {b : Addr} {o : Obj} {es : Array DictEntry} {ep : Nat}, s₁.heap.get? b = some o → o.data = .dict es ep → upd H0 T (.tbl #[]) b = none := fun {b o es ep} e d => by
    have hbT : b ≠ T := fun z => by
      rw [z, hT] at e
      cases e
      cases d
    rw [upd_ne hbT]
    cases q : H0 b with
    | none => rfl
    | some u =>
      obtain ⟨_, o', vs, n, e2, d2⟩ := isSeq q
      rw [e] at e2
      cases e2
      rw [d] at d2
      cases d2
  have noK : ∀ b o, K.lookup b = some o → upd H0 T (.tbl #[]) b = none := fun b o e => by
    have hbT : b ≠ T := fun z => by rw [z, hKT] at e; cases e
    rw [upd_ne hbT]
    cases q : H0 b with
    | none => rfl
    | some u =>
      rw [(isSeq q).1] at e
      cases e
  have noF : ∀ {b : Addr} {o : Obj}, s₁.heap.get? b = some o → o.cls ≠ .none → (∀ vs n, o.data ≠ .seq vs n) → upd H0 T (.tbl #[]) b = none := fun {b o} e hc hd => by
    have hbT : b ≠ T := fun z => by
      rw [z, hT] at e
      cases e
      exact hc rfl
    rw [upd_ne hbT]
    cases q : H0 b with
    | none => rfl
    | some u =>
      obtain ⟨_, o', vs, n, e2, d2⟩ := isSeq q
      rw [e] at e2
      cases e2
      exact absurd d2 (hd vs n)
  generalize hH : upd H0 T (.tbl #[]) = H at hsame hok hHT noD noK noF
  have base_of : ∀ {b : Addr} {o : Obj}, s₁.heap.get? b = some o → H b = none → (hidT s₁.heap H).get? b = some o := fun e n => hidT_get e n
  have nsK : ∀ {b : Addr} {m : Str → Option Value}, s₁.heap.Ns b m → (hidT s₁.heap H).Ns b m := fun {b m} ⟨o, es, ep, e, d, r⟩ => ⟨o, es, ep, base_of e (noD e d), d, r⟩
  have hKb : K.In (hidT s₁.heap H) := fun b o e => base_of (KX b o e) (noK b o e)
  have hM : Mod K mg (hidT s₁.heap H) := ⟨hKb, nsK hns, ⟨mb, nsK hb, hbb⟩, let ⟨mc, h1, h2⟩ := hlim; ⟨mc, nsK h1, h2⟩⟩
  have hCb : PySem.W.CodeHd (hidT s₁.heap H) c T := by
    obtain ⟨o, vs, file, tf, flags, tg, inF, text, tt, e1, r1, r2, r⟩ := id hC
    exact ⟨o, vs, file, tf, flags, tg, inF, text, tt, base_of e1 (noF e1 (by rw [r1]; intro z; cases z) (fun _ _ z => by rw [r2] at z; cases z)), r1, r2, r⟩
  have hBb : BMain mg (hidT s₁.heap H) := by
    obtain ⟨bm, ob, b1, b2, b3, b4, b5, b6⟩ := hB
    exact ⟨bm, ob, b1, b2, base_of b3 (noF b3 (by rw [b4]; intro z; cases z) (fun _ _ z => by rw [b6] at z; cases z)), b4, b5, b6⟩
  have e0 : Env0 P w K mg (hidT s₁.heap H) callerA [] s₁ H := ⟨rfl, hM, fun b o e => of_hidT e, Nat.le_of_eq (hidT_size _ _), trivial, fun b hb => absurd (show b ∈ ([] : List Addr) from hb) (by simp), hok, .of_eq hg⟩
  have hl : vals.length = ps.length := by rw [wellAll_len hwl]; exact hlen
  refine codeAny_mono ((F _ hKb (nsK hns) hCb hBb).run callerA [] s₁ H ⟨vals, []⟩ vals (vals.map toV) _ _ hr e0 (hbind s₁ vals hl) hV (hsp H0 H _ hS hsame hHT)) fun r s' x => ?_
  cases r with
  | error e => exact (hCX H e s' x).elim
  | ok fl =>
    cases fl with
    | next => exact False.elim x
    | brk => exact False.elim x
    | cont => exact False.elim x
    | ret u =>
      obtain ⟨v, H', os, bare, un, hok', r', q⟩ := x
      have kept : ∀ b o, s₁.heap.get? b = some o → b ≠ T → s'.heap.get? b = some o := fun b o e hbT => by
        cases q2 : H b with
        | none => exact un.keep b o e q2 (by intro z; exact absurd (show b ∈ ([] : List Addr) from z) (by simp)) (by simp)
        | some u2 =>
          have q3 : H0 b = some u2 := by
            rw [← hH, upd_ne hbT] at q2
            exact q2
          rcases hO b with z | ⟨ob, u3, z⟩
          · rw [q3] at z
            cases z
          · have z1 := hsame b _ z
            have z2 := un.frzs b ob _ z1
            obtain ⟨e1, _⟩ := hok b _ z1
            obtain ⟨e2, _⟩ := hok' b _ z2
            rw [e] at e1
            cases e1
            exact e2
      have KX' : K.In s'.heap := fun b o e => kept b o (KX b o e) fun z => by rw [z, hKT] at e; cases e
      obtain ⟨more, hT'⟩ := un.tbls T _ hHT
      have eT' : s'.heap.get? T = some (PySem.W.tabObj (#[] ++ more)) := hok' T _ hT'
      obtain ⟨as, hrd⟩ := Dw.reads (R := R) (cl := cl) hok' KX' d0 v u q r'
      refine ⟨u, as, rfl, hrd, ?_, os, bare⟩
      exact (OldK.refl s₁.heap).step_table (hC.tab hT) (hC.tab hT) ⟨by
        obtain ⟨⟨o, vs, e1, r1, r2⟩, _⟩ := hC.tab hT
        exact ⟨o, vs, kept _ _ e1 (fun z => by rw [z, hT] at e1; cases e1; cases r1), r1, r2⟩, eT'⟩ (fun b o hb e => kept b o e hb) hTs
theorem walk_specT {r : OpenSpec} {k : Nat} {q : Program} {loose : List Str} {XP : (Str → Option Value) → Heap → Prop} {YP : World → Heap → Prop} {d : DefRec} {K : Params → PySem.W.Frag} {CX : CXT} {ps : List Str} {sp : PySem.W.Frag → Sp} (x : Str)
    (hwell : r.wellSaid = true) (hdf : d.params.defaults = []) (hlen : r.args.length = ps.length) (hr : Room k callerA) (hx : ((recsOf q).find? (fun e => e.name == x)).isSome = true) (hnt : ∀ p : Params, PySem.W.noTabs (K p) = true)
    (hY : ∀ (w : World) (h : Heap), YP w h → (K w.params).In h)
    (F : ∀ (w : World) (mg : Str → Option Value) (fa : Addr) (h : Heap), YP w h → (K w.params).In h → h.Ns mainGlobals mg → mg d.name = some (.ref fa) →
      ∃ c T : Addr, PySem.W.tabIn (K w.params) x = some (c, T) ∧ ∃ fd : FuncData, (∀ (s : Shared) (us : List Value), us.length = ps.length → BindsTo s fd ⟨us, []⟩ (ps.zip us)) ∧
        ∀ base : Heap, (K w.params).In base → base.Ns mainGlobals mg → PySem.W.CodeHd base c T → BMain mg base → FnOk r.prog w (K w.params) mg base CX k fa fd ps (sp (K w.params)))
    (hsp : ∀ (K : PySem.W.Frag) (H0 H : Hp) (xs : List V) (a : Codec.denoteAll r.args) (c T : Addr), PySem.W.tabIn K x = some (c, T) → H T = some (.tbl #[]) → Same H0 H → Codec.withinAll r.args a = true → Codec.app r.args r.asked a = true → DwAll K H0 xs (Codec.encAll r.args a) →
      sp K xs H (fun v H' => Dw K H' v (r.ret.enc (Codec.app r.args r.f a))) fun _ _ _ => False)
    (hCX : ∀ (H : Hp) (s : Shared) (e : Value) (s' : Shared), CX [] H s (fun _ _ _ => False) e s' → False) :
    PySem.W.WalkOS q loose XP YP r d [] (fun f vs => PySem.call f vs) := by
  intro w s_0 s₁ mg mb G Y fa o pm cd doc dV kV ho hd hcd hD hmg hg args vals as hpre hlay hrd hwl hlo
  obtain ⟨a, e1, e2⟩ := PySem.W.os_pre_some hpre
  obtain ⟨e3, hwi⟩ := Codec.encAll_of_decAll r.args args a e1
  subst e3
  have KX := hY w _ Y
  obtain ⟨c, T, ht, fd, hb, hF⟩ := F w mg fa _ Y KX G.T.g hmg
  obtain ⟨dx, hx⟩ := Option.isSome_iff_exists.mp hx
  obtain ⟨hC, hT⟩ := PySem.W.tab_of G.T KX hx ht
  have hTs : T ≠ cStatics := fun z => by
    obtain ⟨mc, ⟨o, es, ep, e, d, _⟩, _⟩ := G.T.nodigits
    rw [← z, hT] at e
    cases e
    cases d
  refine PySem.W.enter_call (codeAny_mono (spec_callT (R := []) (cl := classAt s_0.heap) (d0 := r.ret.enc (Codec.app r.args r.f a)) KX G.T.g G.T.b G.T.builtins G.T.nolimit hg hC hT (hnt _) G.T.bmain hTs hwl (pl_encAll _ _) (layable_weight hlay) hr hF hb (by rw [encAll_len]; exact hlen)
    (fun H0 H xs hS hs hHT => hsp (K w.params) H0 H xs a c T ht hHT hs hwi e2 hS) fun H e s' => hCX H s₁ e s') fun r' s' hq => ?_)
  obtain ⟨u, as', rfl, h1, h2, h3, h4⟩ := hq
  exact ⟨.inl ⟨u, _, as', rfl, fun _ => rfl, h1, (OpenSpec.post_iff hwell hwi _ _).mpr rfl, fun z => Bool.noConfusion (show false = true from z)⟩, h2, h3, h4⟩
end L2

end

section
set_option Elab.async false
set_option linter.all false
set_option maxRecDepth 100000
set_option maxHeartbeats 2000000
namespace PM
open PySem PySem.Spec PyProof.Rows L2
/-! ### the text by places, and what its top has written -/
def top (i : Nat) : Stmt := PySem.Challenge.pw_patternmeets_s01_answers.main.body.getD i (.Pass ⟨0, 0, 0, 0⟩)
abbrev s_Piece_init : Stmt := inClass (top 2) 0
theorem sc_Piece_init : FnScope ["self", "long", "begins"] ["self", "long", "begins"] (defScope s_Piece_init) := ⟨rfl, rfl, rfl, by decide +kernel, rfl, by decide +kernel, by decide +kernel⟩
abbrev s_Carpet_init : Stmt := inClass (top 3) 0
theorem sc_Carpet_init : FnScope ["self"] ["self"] (defScope s_Carpet_init) := ⟨rfl, rfl, rfl, by decide +kernel, rfl, by decide +kernel, by decide +kernel⟩
abbrev s_Carpet_begin_anew : Stmt := inClass (top 3) 1
theorem sc_Carpet_begin_anew : FnScope ["self", "repeat"] ["self", "repeat"] (defScope s_Carpet_begin_anew) := ⟨rfl, rfl, rfl, by decide +kernel, rfl, by decide +kernel, by decide +kernel⟩
abbrev s_Carpet_change : Stmt := inClass (top 3) 2
theorem sc_Carpet_change : FnScope ["self", "repeat", "strips", "rolls", "past"] ["self", "repeat", "strips", "rolls"] (defScope s_Carpet_change) := ⟨rfl, rfl, rfl, by decide +kernel, rfl, by decide +kernel, by decide +kernel⟩
abbrev s_Carpet_take_back : Stmt := inClass (top 3) 3
theorem sc_Carpet_take_back : FnScope ["self", "state"] ["self"] (defScope s_Carpet_take_back) := ⟨rfl, rfl, rfl, by decide +kernel, rfl, by decide +kernel, by decide +kernel⟩
abbrev s_goes_into : Stmt := top 5
theorem sc_goes_into : FnScope ["r", "repeat"] ["r", "repeat"] (defScope s_goes_into) := ⟨rfl, rfl, rfl, by decide +kernel, rfl, by decide +kernel, by decide +kernel⟩
abbrev s_gap_ahead : Stmt := top 6
theorem sc_gap_ahead : FnScope ["place", "strip", "repeat"] ["place", "strip", "repeat"] (defScope s_gap_ahead) := ⟨rfl, rfl, rfl, by decide +kernel, rfl, by decide +kernel, by decide +kernel⟩
abbrev s_places_left : Stmt := top 7
theorem sc_places_left : FnScope ["pieces", "repeat", "piece"] ["pieces", "repeat"] (defScope s_places_left) := ⟨rfl, rfl, rfl, by decide +kernel, rfl, by decide +kernel, by decide +kernel⟩
abbrev s_moved_on : Stmt := top 8
theorem sc_moved_on : FnScope ["pieces", "by", "repeat", "piece"] ["pieces", "by", "repeat"] (defScope s_moved_on) := ⟨rfl, rfl, rfl, by decide +kernel, rfl, by decide +kernel, by decide +kernel⟩
abbrev s_order_need : Stmt := top 10
theorem sc_order_need : FnScope ["strips", "order", "repeat", "end", "i", "strip"] ["strips", "order", "repeat"] (defScope s_order_need) := ⟨rfl, rfl, rfl, by decide +kernel, rfl, by decide +kernel, by decide +kernel⟩
abbrev s_least_from : Stmt := top 11
theorem sc_least_from : FnScope ["place", "strips", "firsts", "repeat", "i"] ["place", "strips", "firsts", "repeat"] (defScope s_least_from) := ⟨rfl, rfl, rfl, by decide +kernel, rfl, by decide +kernel, by decide +kernel⟩
abbrev s_firsts_of_sets : Stmt := top 12
theorem sc_firsts_of_sets : FnScope ["strips", "repeat", "found", "chosen", "firsts", "i", "strip", "rest"] ["strips", "repeat"] (defScope s_firsts_of_sets) := ⟨rfl, rfl, rfl, by decide +kernel, rfl, by decide +kernel, by decide +kernel⟩
abbrev s_least_need : Stmt := top 13
theorem sc_least_need : FnScope ["strips", "repeat"] ["strips", "repeat"] (defScope s_least_need) := ⟨rfl, rfl, rfl, by decide +kernel, rfl, by decide +kernel, by decide +kernel⟩
abbrev s_best_first : Stmt := top 14
theorem sc_best_first : FnScope ["place", "strips", "firsts", "repeat", "i"] ["place", "strips", "firsts", "repeat"] (defScope s_best_first) := ⟨rfl, rfl, rfl, by decide +kernel, rfl, by decide +kernel, by decide +kernel⟩
abbrev s_best_order : Stmt := top 15
theorem sc_best_order : FnScope ["strips", "repeat", "found", "left", "place", "order", "i"] ["strips", "repeat"] (defScope s_best_order) := ⟨rfl, rfl, rfl, by decide +kernel, rfl, by decide +kernel, by decide +kernel⟩
abbrev s_least_with_last : Stmt := top 16
theorem sc_least_with_last : FnScope ["strips", "others", "last", "repeat", "strip", "ends", "needs", "k", "i", "end"] ["strips", "others", "last", "repeat"] (defScope s_least_with_last) := ⟨rfl, rfl, rfl, by decide +kernel, rfl, by decide +kernel, by decide +kernel⟩
abbrev s_best_shift : Stmt := top 17
theorem sc_best_shift : FnScope ["strips", "repeat", "firsts", "least", "shifts", "i"] ["strips", "repeat"] (defScope s_best_shift) := ⟨rfl, rfl, rfl, by decide +kernel, rfl, by decide +kernel, by decide +kernel⟩
abbrev s_begin : Stmt := top 31
theorem sc_begin : FnScope ["carpet", "repeat"] ["carpet", "repeat"] (defScope s_begin) := ⟨rfl, rfl, rfl, by decide +kernel, rfl, by decide +kernel, by decide +kernel⟩
abbrev s_is_as_told : Stmt := top 32
theorem sc_is_as_told : FnScope ["carpet", "long", "begins", "longest"] ["carpet", "long", "begins", "longest"] (defScope s_is_as_told) := ⟨rfl, rfl, rfl, by decide +kernel, rfl, by decide +kernel, by decide +kernel⟩
abbrev s_strip_refusal : Stmt := top 33
theorem sc_strip_refusal : FnScope ["carpet", "long", "begins"] ["carpet", "long", "begins"] (defScope s_strip_refusal) := ⟨rfl, rfl, rfl, by decide +kernel, rfl, by decide +kernel, by decide +kernel⟩
abbrev s_add_strip : Stmt := top 34
theorem sc_add_strip : FnScope ["carpet", "long", "begins", "refusal", "number"] ["carpet", "long", "begins"] (defScope s_add_strip) := ⟨rfl, rfl, rfl, by decide +kernel, rfl, by decide +kernel, by decide +kernel⟩
abbrev s_add_roll : Stmt := top 35
theorem sc_add_roll : FnScope ["carpet", "long", "begins", "number"] ["carpet", "long", "begins"] (defScope s_add_roll) := ⟨rfl, rfl, rfl, by decide +kernel, rfl, by decide +kernel, by decide +kernel⟩
abbrev s_drop_strip : Stmt := top 36
theorem sc_drop_strip : FnScope ["carpet", "i", "strips"] ["carpet", "i"] (defScope s_drop_strip) := ⟨rfl, rfl, rfl, by decide +kernel, rfl, by decide +kernel, by decide +kernel⟩
abbrev s_drop_roll : Stmt := top 37
theorem sc_drop_roll : FnScope ["carpet", "j", "rolls"] ["carpet", "j"] (defScope s_drop_roll) := ⟨rfl, rfl, rfl, by decide +kernel, rfl, by decide +kernel, by decide +kernel⟩
abbrev s_set_begins : Stmt := top 38
theorem sc_set_begins : FnScope ["carpet", "i", "place", "old", "strips"] ["carpet", "i", "place"] (defScope s_set_begins) := ⟨rfl, rfl, rfl, by decide +kernel, rfl, by decide +kernel, by decide +kernel⟩
abbrev s_set_pattern : Stmt := top 39
theorem sc_set_pattern : FnScope ["carpet", "repeat", "old"] ["carpet", "repeat"] (defScope s_set_pattern) := ⟨rfl, rfl, rfl, by decide +kernel, rfl, by decide +kernel, by decide +kernel⟩
abbrev s_set_move : Stmt := top 40
theorem sc_set_move : FnScope ["carpet", "found"] ["carpet"] (defScope s_set_move) := ⟨rfl, rfl, rfl, by decide +kernel, rfl, by decide +kernel, by decide +kernel⟩
abbrev s_back : Stmt := top 41
theorem sc_back : FnScope ["carpet"] ["carpet"] (defScope s_back) := ⟨rfl, rfl, rfl, by decide +kernel, rfl, by decide +kernel, by decide +kernel⟩
abbrev s_spares_of_roll : Stmt := top 43
theorem sc_spares_of_roll : FnScope ["roll", "strips", "found", "repeat", "firsts"] ["roll", "strips", "found", "repeat"] (defScope s_spares_of_roll) := ⟨rfl, rfl, rfl, by decide +kernel, rfl, by decide +kernel, by decide +kernel⟩
abbrev s_spares_of_rolls : Stmt := top 44
theorem sc_spares_of_rolls : FnScope ["strips", "rolls", "repeat", "found", "roll"] ["strips", "rolls", "repeat"] (defScope s_spares_of_rolls) := ⟨rfl, rfl, rfl, by decide +kernel, rfl, by decide +kernel, by decide +kernel⟩
abbrev s_way_from : Stmt := top 45
theorem sc_way_from : FnScope ["spares", "loads", "left", "j", "load", "more", "way"] ["spares", "loads", "left"] (defScope s_way_from) := ⟨rfl, rfl, rfl, by decide +kernel, rfl, by decide +kernel, by decide +kernel⟩
abbrev s_first_way : Stmt := top 46
theorem sc_first_way : FnScope ["spares", "chosen"] ["spares", "chosen"] (defScope s_first_way) := ⟨rfl, rfl, rfl, by decide +kernel, rfl, by decide +kernel, by decide +kernel⟩
abbrev s_loads_of_way : Stmt := top 47
theorem sc_loads_of_way : FnScope ["way", "count", "loads", "i", "j"] ["way", "count"] (defScope s_loads_of_way) := ⟨rfl, rfl, rfl, by decide +kernel, rfl, by decide +kernel, by decide +kernel⟩
abbrev s_strips_of_set : Stmt := top 48
theorem sc_strips_of_set : FnScope ["number", "count", "i"] ["number", "count"] (defScope s_strips_of_set) := ⟨rfl, rfl, rfl, by decide +kernel, rfl, by decide +kernel, by decide +kernel⟩
abbrev s_largest_set : Stmt := top 49
theorem sc_largest_set : FnScope ["spares", "count", "largest", "size", "number", "chosen"] ["spares", "count"] (defScope s_largest_set) := ⟨rfl, rfl, rfl, by decide +kernel, rfl, by decide +kernel, by decide +kernel⟩
abbrev s_gap : Stmt := top 51
theorem sc_gap : FnScope ["carpet", "i", "j", "count", "first"] ["carpet", "i", "j"] (defScope s_gap) := ⟨rfl, rfl, rfl, by decide +kernel, rfl, by decide +kernel, by decide +kernel⟩
abbrev s_need : Stmt := top 52
theorem sc_need : FnScope ["carpet", "order", "whole", "strip"] ["carpet", "order"] (defScope s_need) := ⟨rfl, rfl, rfl, by decide +kernel, rfl, by decide +kernel, by decide +kernel⟩
abbrev s_best : Stmt := top 53
theorem sc_best : FnScope ["carpet", "order"] ["carpet"] (defScope s_best) := ⟨rfl, rfl, rfl, by decide +kernel, rfl, by decide +kernel, by decide +kernel⟩
abbrev s_best_last : Stmt := top 54
theorem sc_best_last : FnScope ["carpet", "i", "count", "others", "k"] ["carpet", "i"] (defScope s_best_last) := ⟨rfl, rfl, rfl, by decide +kernel, rfl, by decide +kernel, by decide +kernel⟩
abbrev s_finer : Stmt := top 55
theorem sc_finer : FnScope ["carpet", "r"] ["carpet", "r"] (defScope s_finer) := ⟨rfl, rfl, rfl, by decide +kernel, rfl, by decide +kernel, by decide +kernel⟩
abbrev s_best_move : Stmt := top 56
theorem sc_best_move : FnScope ["carpet"] ["carpet"] (defScope s_best_move) := ⟨rfl, rfl, rfl, by decide +kernel, rfl, by decide +kernel, by decide +kernel⟩
abbrev s_fits : Stmt := top 57
theorem sc_fits : FnScope ["carpet", "count", "way"] ["carpet"] (defScope s_fits) := ⟨rfl, rfl, rfl, by decide +kernel, rfl, by decide +kernel, by decide +kernel⟩
abbrev s_spare : Stmt := top 58
theorem sc_spare : FnScope ["carpet", "spares", "way", "loads", "j", "load"] ["carpet"] (defScope s_spare) := ⟨rfl, rfl, rfl, by decide +kernel, rfl, by decide +kernel, by decide +kernel⟩
abbrev s_most : Stmt := top 59
theorem sc_most : FnScope ["carpet", "spares"] ["carpet"] (defScope s_most) := ⟨rfl, rfl, rfl, by decide +kernel, rfl, by decide +kernel, by decide +kernel⟩
abbrev s_could : Stmt := top 60
theorem sc_could : FnScope ["carpet", "long", "begins", "refusal", "strips", "way"] ["carpet", "long", "begins"] (defScope s_could) := ⟨rfl, rfl, rfl, by decide +kernel, rfl, by decide +kernel, by decide +kernel⟩
abbrev s_alone : Stmt := top 61
theorem sc_alone : FnScope ["carpet", "i", "j", "strip", "roll", "whole"] ["carpet", "i", "j"] (defScope s_alone) := ⟨rfl, rfl, rfl, by decide +kernel, rfl, by decide +kernel, by decide +kernel⟩
abbrev s_look : Stmt := top 62
theorem sc_look : FnScope ["carpet", "i", "strip"] ["carpet", "i"] (defScope s_look) := ⟨rfl, rfl, rfl, by decide +kernel, rfl, by decide +kernel, by decide +kernel⟩
abbrev s_state : Stmt := top 63
theorem sc_state : FnScope ["carpet", "told", "roll"] ["carpet"] (defScope s_state) := ⟨rfl, rfl, rfl, by decide +kernel, rfl, by decide +kernel, by decide +kernel⟩
abbrev s_end_of_call : Stmt := top 87
theorem sc_end_of_call : FnScope ["calls", "at", "call", "end"] ["calls", "at"] (defScope s_end_of_call) := ⟨rfl, rfl, rfl, by decide +kernel, rfl, by decide +kernel, by decide +kernel⟩
abbrev s_answer_change : Stmt := top 88
theorem sc_answer_change : FnScope ["carpet", "call", "handed"] ["carpet", "call", "handed"] (defScope s_answer_change) := ⟨rfl, rfl, rfl, by decide +kernel, rfl, by decide +kernel, by decide +kernel⟩
abbrev s_answer_of_orders : Stmt := top 89
theorem sc_answer_of_orders : FnScope ["carpet", "call", "handed"] ["carpet", "call", "handed"] (defScope s_answer_of_orders) := ⟨rfl, rfl, rfl, by decide +kernel, rfl, by decide +kernel, by decide +kernel⟩
abbrev s_answer_of_rolls : Stmt := top 90
theorem sc_answer_of_rolls : FnScope ["carpet", "call", "handed"] ["carpet", "call", "handed"] (defScope s_answer_of_rolls) := ⟨rfl, rfl, rfl, by decide +kernel, rfl, by decide +kernel, by decide +kernel⟩
abbrev s_answer_call : Stmt := top 91
theorem sc_answer_call : FnScope ["carpet", "call", "handed"] ["carpet", "call", "handed"] (defScope s_answer_call) := ⟨rfl, rfl, rfl, by decide +kernel, rfl, by decide +kernel, by decide +kernel⟩
abbrev s_answers : Stmt := top 92
theorem sc_answers : FnScope ["calls", "carpet", "given", "at", "end", "answer"] ["calls"] (defScope s_answers) := ⟨rfl, rfl, rfl, by decide +kernel, rfl, by decide +kernel, by decide +kernel⟩
/-- where the text's things stand -/
structure Ad where
  k_Piece : Addr
  k_Carpet : Addr
  u_HANDED : Addr
  a_Piece_init : Addr
  d_Piece_init : FuncData
  a_Carpet_init : Addr
  d_Carpet_init : FuncData
  a_Carpet_begin_anew : Addr
  d_Carpet_begin_anew : FuncData
  a_Carpet_change : Addr
  d_Carpet_change : FuncData
  a_Carpet_take_back : Addr
  d_Carpet_take_back : FuncData
  a_goes_into : Addr
  d_goes_into : FuncData
  a_gap_ahead : Addr
  d_gap_ahead : FuncData
  a_places_left : Addr
  d_places_left : FuncData
  a_moved_on : Addr
  d_moved_on : FuncData
  a_order_need : Addr
  d_order_need : FuncData
  a_least_from : Addr
  d_least_from : FuncData
  a_firsts_of_sets : Addr
  d_firsts_of_sets : FuncData
  a_least_need : Addr
  d_least_need : FuncData
  a_best_first : Addr
  d_best_first : FuncData
  a_best_order : Addr
  d_best_order : FuncData
  a_least_with_last : Addr
  d_least_with_last : FuncData
  a_best_shift : Addr
  d_best_shift : FuncData
  a_begin : Addr
  d_begin : FuncData
  a_is_as_told : Addr
  d_is_as_told : FuncData
  a_strip_refusal : Addr
  d_strip_refusal : FuncData
  a_add_strip : Addr
  d_add_strip : FuncData
  a_add_roll : Addr
  d_add_roll : FuncData
  a_drop_strip : Addr
  d_drop_strip : FuncData
  a_drop_roll : Addr
  d_drop_roll : FuncData
  a_set_begins : Addr
  d_set_begins : FuncData
  a_set_pattern : Addr
  d_set_pattern : FuncData
  a_set_move : Addr
  d_set_move : FuncData
  a_back : Addr
  d_back : FuncData
  a_spares_of_roll : Addr
  d_spares_of_roll : FuncData
  a_spares_of_rolls : Addr
  d_spares_of_rolls : FuncData
  a_way_from : Addr
  d_way_from : FuncData
  a_first_way : Addr
  d_first_way : FuncData
  a_loads_of_way : Addr
  d_loads_of_way : FuncData
  a_strips_of_set : Addr
  d_strips_of_set : FuncData
  a_largest_set : Addr
  d_largest_set : FuncData
  a_gap : Addr
  d_gap : FuncData
  a_need : Addr
  d_need : FuncData
  a_best : Addr
  d_best : FuncData
  a_best_last : Addr
  d_best_last : FuncData
  a_finer : Addr
  d_finer : FuncData
  a_best_move : Addr
  d_best_move : FuncData
  a_fits : Addr
  d_fits : FuncData
  a_spare : Addr
  d_spare : FuncData
  a_most : Addr
  d_most : FuncData
  a_could : Addr
  d_could : FuncData
  a_alone : Addr
  d_alone : FuncData
  a_look : Addr
  d_look : FuncData
  a_state : Addr
  d_state : FuncData
  a_end_of_call : Addr
  d_end_of_call : FuncData
  a_answer_change : Addr
  d_answer_change : FuncData
  a_answer_of_orders : Addr
  d_answer_of_orders : FuncData
  a_answer_of_rolls : Addr
  d_answer_of_rolls : FuncData
  a_answer_call : Addr
  d_answer_call : FuncData
  a_answers : Addr
  d_answers : FuncData
  t_c : Addr
  t_P : Addr
/-- what the top has written -/
structure Tx (A : Ad) (K : PySem.W.Frag) (mg : Str → Option Value) : Prop where
  c_MOST_TAKEN_BACK : ∃ t, mg "MOST_TAKEN_BACK" = some (.int (10) t)
  c_NO_SUCH : ∃ t, mg "NO_SUCH" = some (.int (-2) t)
  c_NO_ROLLS : ∃ t, mg "NO_ROLLS" = some (.int (-6) t)
  c_NO_MOVE : ∃ t, mg "NO_MOVE" = some (.int (-17) t)
  c_NOT_AS_TOLD : ∃ t, mg "NOT_AS_TOLD" = some (.int (-22) t)
  c_NO_ROOM : ∃ t, mg "NO_ROOM" = some (.int (-28) t)
  c_NO_FIT : ∃ t, mg "NO_FIT" = some (.int (-33) t)
  c_NOT_BEGUN : ∃ t, mg "NOT_BEGUN" = some (.int (-61) t)
  c_LONGEST_REPEAT : ∃ t, mg "LONGEST_REPEAT" = some (.int (120) t)
  c_LONGEST_STRIP : ∃ t, mg "LONGEST_STRIP" = some (.int (1000) t)
  c_LONGEST_ROLL : ∃ t, mg "LONGEST_ROLL" = some (.int (10000) t)
  c_MOST_STRIPS : ∃ t, mg "MOST_STRIPS" = some (.int (6) t)
  c_MOST_ROLLS : ∃ t, mg "MOST_ROLLS" = some (.int (3) t)
  c_BEGIN : ∃ t, mg "BEGIN" = some (.int (0) t)
  c_STRIP : ∃ t, mg "STRIP" = some (.int (1) t)
  c_DROP : ∃ t, mg "DROP" = some (.int (2) t)
  c_BEGINS : ∃ t, mg "BEGINS" = some (.int (3) t)
  c_ROLL : ∃ t, mg "ROLL" = some (.int (4) t)
  c_UNROLL : ∃ t, mg "UNROLL" = some (.int (5) t)
  c_PATTERN : ∃ t, mg "PATTERN" = some (.int (6) t)
  c_BACK : ∃ t, mg "BACK" = some (.int (7) t)
  c_GAP : ∃ t, mg "GAP" = some (.int (8) t)
  c_NEED : ∃ t, mg "NEED" = some (.int (9) t)
  c_BEST : ∃ t, mg "BEST" = some (.int (10) t)
  c_BEST_LAST : ∃ t, mg "BEST_LAST" = some (.int (11) t)
  c_FINER : ∃ t, mg "FINER" = some (.int (12) t)
  c_BEST_MOVE : ∃ t, mg "BEST_MOVE" = some (.int (13) t)
  c_SET_MOVE : ∃ t, mg "SET_MOVE" = some (.int (14) t)
  c_FITS : ∃ t, mg "FITS" = some (.int (15) t)
  c_SPARE : ∃ t, mg "SPARE" = some (.int (16) t)
  c_MOST : ∃ t, mg "MOST" = some (.int (17) t)
  c_COULD : ∃ t, mg "COULD" = some (.int (18) t)
  c_ALONE : ∃ t, mg "ALONE" = some (.int (19) t)
  c_LOOK : ∃ t, mg "LOOK" = some (.int (20) t)
  c_HANDED : mg "HANDED" = some (.ref A.u_HANDED)
  t_HANDED : ∀ H : Hp, SqT K H A.u_HANDED [.int 1, .int 2, .int 1, .int 2, .int 2, .int 1, .int 1, .int 0, .int 2, .int 0, .int 0, .int 1, .int 1, .int 0, .int 0, .int 0, .int 0, .int 0, .int 2, .int 2, .int 1, .int 0]
  n_enumerate : mg "enumerate" = none
  n_len : mg "len" = none
  n_list : mg "list" = none
  n_min : mg "min" = none
  n_range : mg "range" = none
  n_sorted : mg "sorted" = none
  n_sum : mg "sum" = none
  cl_Piece : Cls K A.k_Piece
  g_Piece : mg "Piece" = some (.ref A.k_Piece)
  mk_Piece : Mk K A.k_Piece A.a_Piece_init
  f_Piece_long : NoAttr K A.k_Piece "long"
  f_Piece_begins : NoAttr K A.k_Piece "begins"
  cl_Carpet : Cls K A.k_Carpet
  g_Carpet : mg "Carpet" = some (.ref A.k_Carpet)
  mk_Carpet : Mk K A.k_Carpet A.a_Carpet_init
  f_Carpet_repeat : NoAttr K A.k_Carpet "repeat"
  f_Carpet_strips : NoAttr K A.k_Carpet "strips"
  f_Carpet_rolls : NoAttr K A.k_Carpet "rolls"
  f_Carpet_past : NoAttr K A.k_Carpet "past"
  me_Carpet_begin_anew : Meth K A.k_Carpet "begin_anew" A.a_Carpet_begin_anew
  me_Carpet_change : Meth K A.k_Carpet "change" A.a_Carpet_change
  me_Carpet_take_back : Meth K A.k_Carpet "take_back" A.a_Carpet_take_back
  ne_Piece_Carpet : A.k_Piece ≠ A.k_Carpet
  F_Piece_init : Fun K "__init__" "Piece.__init__" s_Piece_init A.a_Piece_init A.d_Piece_init
  b_Piece_init : Binds K A.d_Piece_init ["self", "long", "begins"] []
  F_Carpet_init : Fun K "__init__" "Carpet.__init__" s_Carpet_init A.a_Carpet_init A.d_Carpet_init
  b_Carpet_init : Binds K A.d_Carpet_init ["self"] []
  F_Carpet_begin_anew : Fun K "begin_anew" "Carpet.begin_anew" s_Carpet_begin_anew A.a_Carpet_begin_anew A.d_Carpet_begin_anew
  b_Carpet_begin_anew : Binds K A.d_Carpet_begin_anew ["self", "repeat"] []
  F_Carpet_change : Fun K "change" "Carpet.change" s_Carpet_change A.a_Carpet_change A.d_Carpet_change
  b_Carpet_change : Binds K A.d_Carpet_change ["self", "repeat", "strips", "rolls"] []
  F_Carpet_take_back : Fun K "take_back" "Carpet.take_back" s_Carpet_take_back A.a_Carpet_take_back A.d_Carpet_take_back
  b_Carpet_take_back : Binds K A.d_Carpet_take_back ["self"] []
  F_goes_into : Fun K "goes_into" "goes_into" s_goes_into A.a_goes_into A.d_goes_into
  b_goes_into : Binds K A.d_goes_into ["r", "repeat"] []
  m_goes_into : mg "goes_into" = some (.ref A.a_goes_into)
  F_gap_ahead : Fun K "gap_ahead" "gap_ahead" s_gap_ahead A.a_gap_ahead A.d_gap_ahead
  b_gap_ahead : Binds K A.d_gap_ahead ["place", "strip", "repeat"] []
  m_gap_ahead : mg "gap_ahead" = some (.ref A.a_gap_ahead)
  F_places_left : Fun K "places_left" "places_left" s_places_left A.a_places_left A.d_places_left
  b_places_left : Binds K A.d_places_left ["pieces", "repeat"] []
  m_places_left : mg "places_left" = some (.ref A.a_places_left)
  F_moved_on : Fun K "moved_on" "moved_on" s_moved_on A.a_moved_on A.d_moved_on
  b_moved_on : Binds K A.d_moved_on ["pieces", "by", "repeat"] []
  m_moved_on : mg "moved_on" = some (.ref A.a_moved_on)
  F_order_need : Fun K "order_need" "order_need" s_order_need A.a_order_need A.d_order_need
  b_order_need : Binds K A.d_order_need ["strips", "order", "repeat"] []
  m_order_need : mg "order_need" = some (.ref A.a_order_need)
  F_least_from : Fun K "least_from" "least_from" s_least_from A.a_least_from A.d_least_from
  b_least_from : Binds K A.d_least_from ["place", "strips", "firsts", "repeat"] []
  m_least_from : mg "least_from" = some (.ref A.a_least_from)
  F_firsts_of_sets : Fun K "firsts_of_sets" "firsts_of_sets" s_firsts_of_sets A.a_firsts_of_sets A.d_firsts_of_sets
  b_firsts_of_sets : Binds K A.d_firsts_of_sets ["strips", "repeat"] []
  m_firsts_of_sets : mg "firsts_of_sets" = some (.ref A.a_firsts_of_sets)
  F_least_need : Fun K "least_need" "least_need" s_least_need A.a_least_need A.d_least_need
  b_least_need : Binds K A.d_least_need ["strips", "repeat"] []
  m_least_need : mg "least_need" = some (.ref A.a_least_need)
  F_best_first : Fun K "best_first" "best_first" s_best_first A.a_best_first A.d_best_first
  b_best_first : Binds K A.d_best_first ["place", "strips", "firsts", "repeat"] []
  m_best_first : mg "best_first" = some (.ref A.a_best_first)
  F_best_order : Fun K "best_order" "best_order" s_best_order A.a_best_order A.d_best_order
  b_best_order : Binds K A.d_best_order ["strips", "repeat"] []
  m_best_order : mg "best_order" = some (.ref A.a_best_order)
  F_least_with_last : Fun K "least_with_last" "least_with_last" s_least_with_last A.a_least_with_last A.d_least_with_last
  b_least_with_last : Binds K A.d_least_with_last ["strips", "others", "last", "repeat"] []
  m_least_with_last : mg "least_with_last" = some (.ref A.a_least_with_last)
  F_best_shift : Fun K "best_shift" "best_shift" s_best_shift A.a_best_shift A.d_best_shift
  b_best_shift : Binds K A.d_best_shift ["strips", "repeat"] []
  m_best_shift : mg "best_shift" = some (.ref A.a_best_shift)
  F_begin : Fun K "begin" "begin" s_begin A.a_begin A.d_begin
  b_begin : Binds K A.d_begin ["carpet", "repeat"] []
  m_begin : mg "begin" = some (.ref A.a_begin)
  F_is_as_told : Fun K "is_as_told" "is_as_told" s_is_as_told A.a_is_as_told A.d_is_as_told
  b_is_as_told : Binds K A.d_is_as_told ["carpet", "long", "begins", "longest"] []
  m_is_as_told : mg "is_as_told" = some (.ref A.a_is_as_told)
  F_strip_refusal : Fun K "strip_refusal" "strip_refusal" s_strip_refusal A.a_strip_refusal A.d_strip_refusal
  b_strip_refusal : Binds K A.d_strip_refusal ["carpet", "long", "begins"] []
  m_strip_refusal : mg "strip_refusal" = some (.ref A.a_strip_refusal)
  F_add_strip : Fun K "add_strip" "add_strip" s_add_strip A.a_add_strip A.d_add_strip
  b_add_strip : Binds K A.d_add_strip ["carpet", "long", "begins"] []
  m_add_strip : mg "add_strip" = some (.ref A.a_add_strip)
  F_add_roll : Fun K "add_roll" "add_roll" s_add_roll A.a_add_roll A.d_add_roll
  b_add_roll : Binds K A.d_add_roll ["carpet", "long", "begins"] []
  m_add_roll : mg "add_roll" = some (.ref A.a_add_roll)
  F_drop_strip : Fun K "drop_strip" "drop_strip" s_drop_strip A.a_drop_strip A.d_drop_strip
  b_drop_strip : Binds K A.d_drop_strip ["carpet", "i"] []
  m_drop_strip : mg "drop_strip" = some (.ref A.a_drop_strip)
  F_drop_roll : Fun K "drop_roll" "drop_roll" s_drop_roll A.a_drop_roll A.d_drop_roll
  b_drop_roll : Binds K A.d_drop_roll ["carpet", "j"] []
  m_drop_roll : mg "drop_roll" = some (.ref A.a_drop_roll)
  F_set_begins : Fun K "set_begins" "set_begins" s_set_begins A.a_set_begins A.d_set_begins
  b_set_begins : Binds K A.d_set_begins ["carpet", "i", "place"] []
  m_set_begins : mg "set_begins" = some (.ref A.a_set_begins)
  F_set_pattern : Fun K "set_pattern" "set_pattern" s_set_pattern A.a_set_pattern A.d_set_pattern
  b_set_pattern : Binds K A.d_set_pattern ["carpet", "repeat"] []
  m_set_pattern : mg "set_pattern" = some (.ref A.a_set_pattern)
  F_set_move : Fun K "set_move" "set_move" s_set_move A.a_set_move A.d_set_move
  b_set_move : Binds K A.d_set_move ["carpet"] []
  m_set_move : mg "set_move" = some (.ref A.a_set_move)
  F_back : Fun K "back" "back" s_back A.a_back A.d_back
  b_back : Binds K A.d_back ["carpet"] []
  m_back : mg "back" = some (.ref A.a_back)
  F_spares_of_roll : Fun K "spares_of_roll" "spares_of_roll" s_spares_of_roll A.a_spares_of_roll A.d_spares_of_roll
  b_spares_of_roll : Binds K A.d_spares_of_roll ["roll", "strips", "found", "repeat"] []
  m_spares_of_roll : mg "spares_of_roll" = some (.ref A.a_spares_of_roll)
  F_spares_of_rolls : Fun K "spares_of_rolls" "spares_of_rolls" s_spares_of_rolls A.a_spares_of_rolls A.d_spares_of_rolls
  b_spares_of_rolls : Binds K A.d_spares_of_rolls ["strips", "rolls", "repeat"] []
  m_spares_of_rolls : mg "spares_of_rolls" = some (.ref A.a_spares_of_rolls)
  F_way_from : Fun K "way_from" "way_from" s_way_from A.a_way_from A.d_way_from
  b_way_from : Binds K A.d_way_from ["spares", "loads", "left"] []
  m_way_from : mg "way_from" = some (.ref A.a_way_from)
  F_first_way : Fun K "first_way" "first_way" s_first_way A.a_first_way A.d_first_way
  b_first_way : Binds K A.d_first_way ["spares", "chosen"] []
  m_first_way : mg "first_way" = some (.ref A.a_first_way)
  F_loads_of_way : Fun K "loads_of_way" "loads_of_way" s_loads_of_way A.a_loads_of_way A.d_loads_of_way
  b_loads_of_way : Binds K A.d_loads_of_way ["way", "count"] []
  m_loads_of_way : mg "loads_of_way" = some (.ref A.a_loads_of_way)
  F_strips_of_set : Fun K "strips_of_set" "strips_of_set" s_strips_of_set A.a_strips_of_set A.d_strips_of_set
  b_strips_of_set : Binds K A.d_strips_of_set ["number", "count"] []
  m_strips_of_set : mg "strips_of_set" = some (.ref A.a_strips_of_set)
  F_largest_set : Fun K "largest_set" "largest_set" s_largest_set A.a_largest_set A.d_largest_set
  b_largest_set : Binds K A.d_largest_set ["spares", "count"] []
  m_largest_set : mg "largest_set" = some (.ref A.a_largest_set)
  F_gap : Fun K "gap" "gap" s_gap A.a_gap A.d_gap
  b_gap : Binds K A.d_gap ["carpet", "i", "j"] []
  m_gap : mg "gap" = some (.ref A.a_gap)
  F_need : Fun K "need" "need" s_need A.a_need A.d_need
  b_need : Binds K A.d_need ["carpet", "order"] []
  m_need : mg "need" = some (.ref A.a_need)
  F_best : Fun K "best" "best" s_best A.a_best A.d_best
  b_best : Binds K A.d_best ["carpet"] []
  m_best : mg "best" = some (.ref A.a_best)
  F_best_last : Fun K "best_last" "best_last" s_best_last A.a_best_last A.d_best_last
  b_best_last : Binds K A.d_best_last ["carpet", "i"] []
  m_best_last : mg "best_last" = some (.ref A.a_best_last)
  F_finer : Fun K "finer" "finer" s_finer A.a_finer A.d_finer
  b_finer : Binds K A.d_finer ["carpet", "r"] []
  m_finer : mg "finer" = some (.ref A.a_finer)
  F_best_move : Fun K "best_move" "best_move" s_best_move A.a_best_move A.d_best_move
  b_best_move : Binds K A.d_best_move ["carpet"] []
  m_best_move : mg "best_move" = some (.ref A.a_best_move)
  F_fits : Fun K "fits" "fits" s_fits A.a_fits A.d_fits
  b_fits : Binds K A.d_fits ["carpet"] []
  m_fits : mg "fits" = some (.ref A.a_fits)
  F_spare : Fun K "spare" "spare" s_spare A.a_spare A.d_spare
  b_spare : Binds K A.d_spare ["carpet"] []
  m_spare : mg "spare" = some (.ref A.a_spare)
  F_most : Fun K "most" "most" s_most A.a_most A.d_most
  b_most : Binds K A.d_most ["carpet"] []
  m_most : mg "most" = some (.ref A.a_most)
  F_could : Fun K "could" "could" s_could A.a_could A.d_could
  b_could : Binds K A.d_could ["carpet", "long", "begins"] []
  m_could : mg "could" = some (.ref A.a_could)
  F_alone : Fun K "alone" "alone" s_alone A.a_alone A.d_alone
  b_alone : Binds K A.d_alone ["carpet", "i", "j"] []
  m_alone : mg "alone" = some (.ref A.a_alone)
  F_look : Fun K "look" "look" s_look A.a_look A.d_look
  b_look : Binds K A.d_look ["carpet", "i"] []
  m_look : mg "look" = some (.ref A.a_look)
  F_state : Fun K "state" "state" s_state A.a_state A.d_state
  b_state : Binds K A.d_state ["carpet"] []
  m_state : mg "state" = some (.ref A.a_state)
  F_end_of_call : Fun K "end_of_call" "end_of_call" s_end_of_call A.a_end_of_call A.d_end_of_call
  b_end_of_call : Binds K A.d_end_of_call ["calls", "at"] []
  m_end_of_call : mg "end_of_call" = some (.ref A.a_end_of_call)
  F_answer_change : Fun K "answer_change" "answer_change" s_answer_change A.a_answer_change A.d_answer_change
  b_answer_change : Binds K A.d_answer_change ["carpet", "call", "handed"] []
  m_answer_change : mg "answer_change" = some (.ref A.a_answer_change)
  F_answer_of_orders : Fun K "answer_of_orders" "answer_of_orders" s_answer_of_orders A.a_answer_of_orders A.d_answer_of_orders
  b_answer_of_orders : Binds K A.d_answer_of_orders ["carpet", "call", "handed"] []
  m_answer_of_orders : mg "answer_of_orders" = some (.ref A.a_answer_of_orders)
  F_answer_of_rolls : Fun K "answer_of_rolls" "answer_of_rolls" s_answer_of_rolls A.a_answer_of_rolls A.d_answer_of_rolls
  b_answer_of_rolls : Binds K A.d_answer_of_rolls ["carpet", "call", "handed"] []
  m_answer_of_rolls : mg "answer_of_rolls" = some (.ref A.a_answer_of_rolls)
  F_answer_call : Fun K "answer_call" "answer_call" s_answer_call A.a_answer_call A.d_answer_call
  b_answer_call : Binds K A.d_answer_call ["carpet", "call", "handed"] []
  m_answer_call : mg "answer_call" = some (.ref A.a_answer_call)
  F_answers : Fun K "answers" "answers" s_answers A.a_answers A.d_answers
  b_answers : Binds K A.d_answers ["calls"] []
  m_answers : mg "answers" = some (.ref A.a_answers)
  tab : PySem.W.tabIn K "best_first" = some (A.t_c, A.t_P)
  tcd : A.d_best_first.code = .ref A.t_c

/-- what the base tells of best_first's code -/
structure Bx (A : Ad) (mg : Str → Option Value) (base : Heap) : Prop where
  code : PySem.W.CodeHd base A.t_c A.t_P
  bm : BMain mg base
abbrev lamPos : Pos := ⟨66, 33, 66, 90⟩
abbrev lamQual : Str := ("best_first" : Str) ++ ".<locals>." ++ "<lambda>"
def TabAt (A : Ad) (H : Hp) : Prop := TabIs lamPos lamQual A.t_P H
/-! ### some rules more -/
section
variable {X : Cx} {pos : Pos}
theorem pe_gint {x : Str} {i : Int} (hg : Gl X x) (h : ∃ t, X.mg x = some (.int i t)) (hd : (x == ("__debug__" : Str)) = false := by decide) : PE X (.Name x pos) (tC (.int i)) := by
  obtain ⟨t, h⟩ := h
  exact pe_glob hg h ⟨t, rfl⟩ hd
theorem pe_gref {x : Str} {a : Addr} (hg : Gl X x) (h : X.mg x = some (.ref a)) (hd : (x == ("__debug__" : Str)) = false := by decide) : PE X (.Name x pos) (tC (.ref a)) := pe_glob hg h rfl hd
theorem bt_len : bootBuiltins "len" = some (.builtin "len") := by decide +kernel
theorem bt_sum : bootBuiltins "sum" = some (.builtin "sum") := by decide +kernel
theorem bt_sorted : bootBuiltins "sorted" = some (.builtin "sorted") := by decide +kernel
theorem bt_list : bootBuiltins "list" = some (.type "list") := by decide +kernel
theorem bt_range : bootBuiltins "range" = some (.type "range") := by decide +kernel
theorem bt_min : bootBuiltins "min" = some (.builtin "min") := by decide +kernel
theorem bt_max : bootBuiltins "max" = some (.builtin "max") := by decide +kernel
theorem bt_any : bootBuiltins "any" = some (.builtin "any") := by decide +kernel
theorem bt_all : bootBuiltins "all" = some (.builtin "all") := by decide +kernel
/-- range(n), kept for the list that is made of it -/
theorem call_rng1 : CallR X (.type "range") (fun xs H Q => ∃ j : Int, xs = [.int j] ∧ ∀ p, H p = none → Q (.ref p) (upd H p (.rng 0 j))) := by
  intro pins s σ H xs us Q I r h
  obtain ⟨j, rfl, q⟩ := h
  obtain ⟨u, rfl, ru⟩ := vals1 r
  obtain ⟨t, rfl⟩ := ru
  refine call_range_1 ?_
  exact ⟨.ref s.heap.objs.size, _, I.laid (t' := s.toks + 1 + 1) (fun b u e => Heap.get?_push_of_some _ e) (Nat.le_refl _) (show ObjOk X.prog X.w _ _ _ (.rng 0 j) from ⟨_, _, _, Heap.get?_push_size _ rfl⟩), rfl, q _ (I.hok.fresh (Nat.le_refl _))⟩
theorem call_list_rng (hc : X.calm = true) : CallR X (.type "list") (fun xs H Q => ∃ (p : Addr) (n : Nat), xs = [.ref p] ∧ H p = some (.rng 0 (n : Int)) ∧ n ≤ 1000 ∧ ∀ l, H l = none → Q (.ref l) (upd H l (.lst ((List.range n).map fun (i : Nat) => V.int (i : Int))))) := by
  intro pins s σ H xs us Q I r h
  obtain ⟨p, n, rfl, hp, hn, q⟩ := h
  obtain ⟨u, rfl, ru⟩ := vals1 r
  cases ru
  obtain ⟨t, u, v, hg⟩ : ObjOk X.prog X.w H s.heap p (.rng 0 (n : Int)) := I.hok p _ hp
  refine call_list_range (n := n) (I.ok.hd hc) (show IsRange s.heap p 0 (n : Int) 1 t u v from hg) (small_one (by omega) (by omega) (by omega) (by omega)) (by rw [rangeSize_one]; split <;> omega) (by omega) fun h' tk acc' c' hk hS hacc => ?_
  refine ⟨.ref s.heap.objs.size, _, I.laid (t' := tk) hk (Nat.le_refl _) (show ObjOk X.prog X.w _ h' _ (.lst ((List.range n).map fun (i : Nat) => V.int (i : Int))) from ⟨by rw [List.length_map, List.length_range]; exact Nat.le_trans hn (by decide), acc'.toList, c', ?_, by simpa using hS⟩), rfl, q _ (I.hok.fresh (Nat.le_refl _))⟩
  obtain ⟨hz, hi⟩ := hacc
  have hal : acc'.toList.length = n := by simpa using hz
  have key : ∀ (m : Nat) (l : List Value) (o : Nat), l.length = m → (∀ j v, l[j]? = some v → ∃ t, v = Value.int ((o + j : Nat) : Int) t) → Vals ((List.range m).map fun (i : Nat) => V.int ((o + i : Nat) : Int)) l := by
    intro m
    induction m with
    | zero =>
      intro l o hl _
      cases l with
      | nil => exact .nil
      | cons _ _ => cases hl
    | succ m ih =>
      intro l o hl hv
      cases l with
      | nil => cases hl
      | cons x l =>
        rw [List.range_succ_eq_map, List.map_cons, List.map_map]
        refine .cons ?_ ?_
        · obtain ⟨t, e⟩ := hv 0 x rfl
          exact ⟨t, e⟩
        · have := ih l (o + 1) (Nat.succ.inj hl) fun j v hj => by
            obtain ⟨t, e⟩ := hv (j + 1) v hj
            exact ⟨t, by rw [e]; congr 2; omega⟩
          refine Eq.mp ?_ this
          congr 1
          refine List.map_congr_left fun i _ => ?_
          show V.int _ = V.int _
          congr 2
          show o + 1 + i = o + (i + 1)
          omega
  have := key n acc'.toList 0 hal fun j v hj => by
    obtain ⟨t, e⟩ := hi j v (by simpa using hj)
    exact ⟨t, by rw [e]; congr 1; omega⟩
  simpa using this
theorem vals_by : ∀ (ws : List V) (us : List Value), ws.length = us.length → (∀ (j : Nat) (w : V) (u : Value), ws[j]? = some w → us[j]? = some u → RelV w u) → Vals ws us
  | [], [], _, _ => .nil
  | [], _ :: _, h, _ => by cases h
  | _ :: _, [], h, _ => by cases h
  | w :: ws, u :: us, h, f => .cons (f 0 w u rfl rfl) (vals_by ws us (Nat.succ.inj h) fun j w u h1 h2 => f (j + 1) w u h1 h2)
/-- list(d): its keys -/
theorem call_list_dict (hc : X.calm = true) : CallR X (.type "list") (fun xs H Q => ∃ (d : Addr) (kvs : List (Key × V)), xs = [.ref d] ∧ H d = some (.dK kvs) ∧ ∀ l, H l = none → Q (.ref l) (upd H l (.lst (kvs.map fun p => kV p.1)))) := by
  intro pins s σ H xs us Q I r h
  obtain ⟨d, kvs, rfl, hd, q⟩ := h
  obtain ⟨u, rfl, ru⟩ := vals1 r
  cases ru
  obtain ⟨z, lo, vs, rel, dd⟩ := dk_of I.hok hd
  obtain ⟨ep, hat⟩ := dd.dictAt
  have hl : kvs.length = vs.length := Paired.length rel
  refine PySem.W.kdl_call (PySem.W.kdl_dict (knd := mixKind X.prog X.w) (kvs := vs) (ep := ep) lo) (I.ok.hd hc) hat (by omega) fun h' tk acc' c' hk hS hacc => ?_
  refine ⟨.ref s.heap.objs.size, _, I.laid (t' := tk) hk (Nat.le_refl _) (show ObjOk X.prog X.w _ h' _ (.lst (kvs.map fun p => kV p.1)) from ⟨by rw [List.length_map]; exact z, acc'.toList, c', vals_by _ _ (by rw [List.length_map, hl]; exact (Array.length_toList.trans hacc.1).symm) (fun j w u h1 h2 => ?_), by simpa using hS⟩), rfl, q _ (I.hok.fresh (Nat.le_refl _))⟩
  obtain ⟨k, x, hx, hkv⟩ := hacc.2 j u (by rw [← Array.getElem?_toList]; exact h2)
  rw [List.getElem?_map] at h1
  cases e : kvs[j]? with
  | none => rw [e] at h1; cases h1
  | some p =>
    rw [e] at h1
    obtain rfl := Option.some.inj h1
    obtain ⟨u', hu', _⟩ := kv_get (k := p.1) (v := p.2) rel e
    rw [hx] at hu'
    cases hu'
    exact relV_key (show keyIs p.1 u = true from hkv)
end
/-! ### for k, x in enumerate(list) -/
theorem for_enum {K : PySem.W.Frag} {a : Addr} {xs : List V} {g : TG} {tb : TS} {D : Ends} {σ : L2.St} {H : Hp} (Pv : Nat → L2.St → Hp → Prop) (h0 : Pv 0 σ H) (hl : ∀ i σ H, i ≤ xs.length → Pv i σ H → SqL K H a xs)
    (hs : ∀ i x σ H T, xs[i]? = some x → Pv i σ H → H T = none → g (.ref T) σ (upd H T (.tup [.int (i : Nat), x])) fun σ2 H2 => tb { D with nx := Pv (i + 1), ct := Pv (i + 1), bk := D.nx } σ2 H2) (hd : ∀ σ H, Pv xs.length σ H → D.nx σ H) :
    ∃ W : Nat → Nat → L2.St → Hp → Prop, (∃ m, W 0 m σ H) ∧ ∀ i m σ H, W i m σ H →
      ((Ite K a).stop i H ∧ D.nx σ H) ∨ ((Ite K a).go i H ∧ ∃ N : L2.St → Hp → Prop, (∀ σ' H', N σ' H' → ∃ m', m' < m ∧ W (i + 1) m' σ' H') ∧ ∀ x H', (Ite K a).yld i H x H' → g x σ H' fun σ2 H2 => tb { D with nx := N, ct := N, bk := D.nx } σ2 H2) := by
  refine ⟨fun i m σ H => m = xs.length - i ∧ i ≤ xs.length ∧ Pv i σ H, ⟨xs.length, by simp, Nat.zero_le _, h0⟩, ?_⟩
  rintro i m σ H ⟨rfl, hi, p⟩
  have q := hl i σ H hi p
  by_cases hlt : i < xs.length
  · refine .inr ⟨⟨xs, xs[i], q, by simp [hlt]⟩, Pv (i + 1), fun σ' H' p' => ⟨xs.length - (i + 1), by omega, rfl, hlt, p'⟩, fun x H' y => ?_⟩
    obtain ⟨T, z, rfl, hT, rfl, hz⟩ := y
    exact hs i z σ H T (hz xs q) p hT
  · have e : i = xs.length := by omega
    subst e
    exact .inl ⟨⟨xs, q, Nat.le_refl _⟩, hd σ H p⟩
/-- a comprehension over enumerate(list) -/
theorem lc_enum {K : PySem.W.Frag} {a : Addr} {xs : List V} {g : TG} {tt : TT} {te : TE} {vs : List Nat} {σ : L2.St} {H1 : Hp} {D : Addr} {Qd : Hp → Prop} (Pv : Nat → Hp → Prop) (h0 : Pv 0 (upd H1 D (.lst []))) (hl : ∀ i H, i ≤ xs.length → Pv i H → SqL K H a xs)
    (hs : ∀ i x H T, xs[i]? = some x → Pv i H → H T = none → g (.ref T) (wipe σ vs) (upd H T (.tup [.int (i : Nat), x])) fun σ2 H2 => wipe σ2 vs = wipe σ vs ∧ tt σ2 H2 fun b H3 =>
      if b = true then te σ2 H3 fun y H4 => ∃ acc, H4 D = some (.lst acc) ∧ acc.length < sizeLine ∧ Pv (i + 1) (upd H4 D (.lst (acc ++ [y]))) else Pv (i + 1) H3) (hd : ∀ H, Pv xs.length H → Qd H) :
    ∃ W : Nat → Nat → Hp → Prop, (∃ m, W 0 m (upd H1 D (.lst []))) ∧ ∀ i m H, W i m H →
      ((Ite K a).stop i H ∧ Qd H) ∨ ((Ite K a).go i H ∧ ∃ Nx : Hp → Prop, (∀ H', Nx H' → ∃ m', m' < m ∧ W (i + 1) m' H') ∧ ∀ x H', (Ite K a).yld i H x H' → g x (wipe σ vs) H' fun σ2 H2 => wipe σ2 vs = wipe σ vs ∧ tt σ2 H2 fun b H3 =>
        if b = true then te σ2 H3 fun y H4 => ∃ acc, H4 D = some (.lst acc) ∧ acc.length < sizeLine ∧ Nx (upd H4 D (.lst (acc ++ [y]))) else Nx H3) := by
  refine ⟨fun i m H => m = xs.length - i ∧ i ≤ xs.length ∧ Pv i H, ⟨xs.length, by simp, Nat.zero_le _, h0⟩, ?_⟩
  rintro i m H ⟨rfl, hi, p⟩
  have q := hl i H hi p
  by_cases hlt : i < xs.length
  · refine .inr ⟨⟨xs, xs[i], q, by simp [hlt]⟩, Pv (i + 1), fun H' p' => ⟨xs.length - (i + 1), by omega, rfl, hlt, p'⟩, fun x H' y => ?_⟩
    obtain ⟨T, z, rfl, hT, rfl, hz⟩ := y
    exact hs i z H T (hz xs q) p hT
  · have e : i = xs.length := by omega
    subst e
    exact .inl ⟨⟨xs, q, Nat.le_refl _⟩, hd H p⟩
/-- a comprehension over a dict that is locked -/
theorem lc_keys {d : Addr} {o : Obj} {kvs : List (Key × V)} {g : TG} {tt : TT} {te : TE} {vs : List Nat} {σ : L2.St} {H1 : Hp} {D : Addr} {Qd : Hp → Prop} (Pv : Nat → Hp → Prop) (h0 : Pv 0 (upd H1 D (.lst []))) (hl : ∀ i H, i ≤ kvs.length → Pv i H → H d = some (.frz o (.dK kvs)))
    (hs : ∀ i k v H, kvs[i]? = some (k, v) → Pv i H → g (kV k) (wipe σ vs) H fun σ2 H2 => wipe σ2 vs = wipe σ vs ∧ tt σ2 H2 fun b H3 =>
      if b = true then te σ2 H3 fun y H4 => ∃ acc, H4 D = some (.lst acc) ∧ acc.length < sizeLine ∧ Pv (i + 1) (upd H4 D (.lst (acc ++ [y]))) else Pv (i + 1) H3) (hd : ∀ H, Pv kvs.length H → Qd H) :
    ∃ W : Nat → Nat → Hp → Prop, (∃ m, W 0 m (upd H1 D (.lst []))) ∧ ∀ i m H, W i m H →
      ((Itk d o kvs).stop i H ∧ Qd H) ∨ ((Itk d o kvs).go i H ∧ ∃ Nx : Hp → Prop, (∀ H', Nx H' → ∃ m', m' < m ∧ W (i + 1) m' H') ∧ ∀ x H', (Itk d o kvs).yld i H x H' → g x (wipe σ vs) H' fun σ2 H2 => wipe σ2 vs = wipe σ vs ∧ tt σ2 H2 fun b H3 =>
        if b = true then te σ2 H3 fun y H4 => ∃ acc, H4 D = some (.lst acc) ∧ acc.length < sizeLine ∧ Nx (upd H4 D (.lst (acc ++ [y]))) else Nx H3) := by
  refine ⟨fun i m H => m = kvs.length - i ∧ i ≤ kvs.length ∧ Pv i H, ⟨kvs.length, by simp, Nat.zero_le _, h0⟩, ?_⟩
  rintro i m H ⟨rfl, hi, p⟩
  have q := hl i H hi p
  by_cases hlt : i < kvs.length
  · refine .inr ⟨⟨q, hlt⟩, Pv (i + 1), fun H' p' => ⟨kvs.length - (i + 1), by omega, rfl, hlt, p'⟩, fun x H' y => ?_⟩
    obtain ⟨rfl, k, v, hkv, rfl⟩ := y
    exact hs i k v _ hkv p
  · have e : i = kvs.length := by omega
    subst e
    exact .inl ⟨⟨q, Nat.le_refl _⟩, hd H p⟩
end PM

end

section
set_option Elab.async false
set_option linter.all false
set_option maxRecDepth 100000
set_option maxHeartbeats 2000000
namespace PM
open PySem PySem.Spec PyProof.Rows L2
open Kh351 (Abs Strip)
/-! ### the data: pieces, lists of pieces, states, the carpet. g: the list of answers, which is none of theirs -/
def pf (l b : Nat) : List (Str × V) := [("long", .int (l : Int)), ("begins", .int (b : Int))]
def cf (r : Nat) (a b c : Addr) : List (Str × V) := [("repeat", .int (r : Int)), ("strips", .ref a), ("rolls", .ref b), ("past", .ref c)]
section
variable {l b r r' : Nat} {x y z x' y' z' : Addr} {v w : V}
theorem pf_long : (pf l b).lookup ("long" : Str) = some (.int (l : Int)) := rfl
theorem pf_begins : (pf l b).lookup ("begins" : Str) = some (.int (b : Int)) := rfl
theorem pf_make : putF "begins" (.int (b : Int)) (putF "long" (.int (l : Int)) []) = pf l b := rfl
theorem cf_repeat : (cf r x y z).lookup ("repeat" : Str) = some (.int (r : Int)) := rfl
theorem cf_strips : (cf r x y z).lookup ("strips" : Str) = some (.ref x) := rfl
theorem cf_rolls : (cf r x y z).lookup ("rolls" : Str) = some (.ref y) := rfl
theorem cf_past : (cf r x y z).lookup ("past" : Str) = some (.ref z) := rfl
theorem cf_make : putF "past" (.ref z) (putF "rolls" (.ref y) (putF "strips" (.ref x) (putF "repeat" (.int (r : Int)) []))) = cf r x y z := rfl
theorem cf_set_repeat : putF "repeat" (.int (r' : Int)) (cf r x y z) = cf r' x y z := rfl
theorem cf_set_strips : putF "strips" (.ref x') (cf r x y z) = cf r x' y z := rfl
theorem cf_set_rolls : putF "rolls" (.ref y') (cf r x y z) = cf r x y' z := rfl
theorem cf_set_past : putF "past" (.ref z') (cf r x y z) = cf r x y z' := rfl
end

def pr (s : Strip) : Nat × Nat := (s.long, s.begins)
def PieceAt (A : Ad) (H : Hp) (a : Addr) (x : Nat × Nat) : Prop := ∃ dx, H a = some (.ins A.k_Piece dx (pf x.1 x.2))
def PiecesAt (A : Ad) (H : Hp) (g l : Addr) (xs : List (Nat × Nat)) : Prop := l ≠ g ∧ ∃ as : List Addr, H l = some (.lst (as.map V.ref)) ∧ Paired (PieceAt A H) as xs
abbrev Past := Nat × List Strip × List (Nat × Nat)
def StateAt (A : Ad) (H : Hp) (g t : Addr) (x : Past) : Prop := ∃ a b, H t = some (.tup [.int (x.1 : Int), .ref a, .ref b]) ∧ PiecesAt A H g a (x.2.1.map pr) ∧ PiecesAt A H g b x.2.2
structure CarpetIs (A : Ad) (H : Hp) (g p : Addr) (s : Abs) (dx a b c : Addr) (ts : List Addr) : Prop where
  at_ : H p = some (.ins A.k_Carpet dx (cf s.repeat_ a b c))
  strips : PiecesAt A H g a (s.strips.map pr)
  rolls : PiecesAt A H g b s.rolls
  ng : c ≠ g
  past : H c = some (.lst (ts.map V.ref))
  undo : Paired (StateAt A H g) ts s.undo.reverse
  tab : TabAt A H
def CarpetAt (A : Ad) (H : Hp) (g p : Addr) (s : Abs) : Prop := ∃ dx a b c ts, CarpetIs A H g p s dx a b c ts
/-- all that was tracked stands, but what stands at p; of tables no more than that they are there -/
def But (p : Addr) (H H' : Hp) : Prop := ∀ b o, H b = some o → b ≠ p → ((∀ ps, o ≠ .tbl ps) → H' b = some o) ∧ H' b ≠ none
theorem But.at_ {p : Addr} {H H' : Hp} (x : But p H H') {b : Addr} {o : HO} (e : H b = some o) (n : b ≠ p) (t : ∀ ps, o ≠ .tbl ps) : H' b = some o := (x b o e n).1 t
/-- all that was tracked stands, but what stands at p -/
def But0 (p : Addr) (H H' : Hp) : Prop := ∀ b o, H b = some o → b ≠ p → H' b = some o
theorem But0.trans {p : Addr} {H H1 H2 : Hp} (x : But0 p H H1) (y : But0 p H1 H2) : But0 p H H2 := fun b o e n => y b o (x b o e n) n
theorem But0.of {p : Addr} {H H' : Hp} (x : Same H H') : But0 p H H' := fun b o e _ => x b o e
theorem But0.upd {H : Hp} {p : Addr} {o : HO} : But0 p H (upd H p o) := fun b u e n => by
  rw [upd_ne n]
  exact e
theorem But.ofT {p : Addr} {H H' : Hp} (x : SameT H H') : But p H H' := fun b o e _ => x b o e
theorem But.of {p : Addr} {H H' : Hp} (x : Same H H') : But p H H' := .ofT (.of x)
theorem But.refl (p : Addr) (H : Hp) : But p H H := .of (Same.refl H)
theorem But.trans {p : Addr} {H H1 H2 : Hp} (x : But p H H1) (y : But p H1 H2) : But p H H2 := fun b o e n => ⟨fun t => y.at_ (x.at_ e n t) n t, by
  cases q : H1 b with
  | none => exact absurd q (x b o e n).2
  | some o1 => exact (y b o1 q n).2⟩
theorem Same.upd {H : Hp} {q : Addr} {o : HO} (h : H q = none) : Same H (upd H q o) := fun b u e => by
  rw [upd_ne (ne_of_none e h)]
  exact e
theorem But.upd {H : Hp} {p : Addr} {o : HO} : But p H (upd H p o) := fun b u e n => by
  rw [upd_ne n]
  exact ⟨fun _ => e, fun z => by rw [e] at z; cases z⟩
theorem Paired.get {α β : Type} {R : α → β → Prop} : ∀ {as : List α} {bs : List β} {i : Nat} {b : β}, Paired R as bs → bs[i]? = some b → ∃ a, as[i]? = some a ∧ R a b
  | _, _, _, _, .nil, e => by simp at e
  | _, _, 0, _, .cons r _, e => by
    cases e
    exact ⟨_, rfl, r⟩
  | _, _, i + 1, b, .cons _ t, e => by
    obtain ⟨u, h1, h2⟩ := Paired.get (i := i) (b := b) t e
    exact ⟨u, h1, h2⟩
theorem Paired.app {α β : Type} {R : α → β → Prop} : ∀ {as cs : List α} {bs ds : List β}, Paired R as bs → Paired R cs ds → Paired R (as ++ cs) (bs ++ ds)
  | _, _, _, _, .nil, y => y
  | _, _, _, _, .cons r t, y => .cons r (Paired.app t y)
theorem Paired.tak {α β : Type} {R : α → β → Prop} : ∀ {as : List α} {bs : List β} (n : Nat), Paired R as bs → Paired R (as.take n) (bs.take n)
  | _, _, 0, _ => .nil
  | _, _, _ + 1, .nil => .nil
  | _, _, n + 1, .cons r t => .cons r (Paired.tak n t)
theorem Paired.drp {α β : Type} {R : α → β → Prop} : ∀ {as : List α} {bs : List β} (n : Nat), Paired R as bs → Paired R (as.drop n) (bs.drop n)
  | _, _, 0, x => x
  | _, _, _ + 1, .nil => .nil
  | _, _, n + 1, .cons r t => Paired.drp n t
theorem pimp {α β : Type} {F G : α → β → Prop} (f : ∀ a b, F a b → G a b) {l : List α} {m : List β} (r : Paired F l m) : Paired G l m := L2.Paired.mapP r f
section
variable {A : Ad} {H H' : Hp} {g p : Addr}
theorem TabAt.mono (k : Same H H') (h : TabAt A H) : TabAt A H' := TabIs.mono k h
theorem tab_upd {o u : HO} {x : Addr} (hx : H x = some u) (n1 : ∀ ps, u ≠ .tbl ps) (n2 : ∀ φ, u ≠ .ext φ) (h : TabAt A H) : TabAt A (upd H x o) := by
  rcases h with h | ⟨c, h1, h2⟩
  · exact .inl (by rw [upd_ne (ne_of h hx (fun z => n1 _ z.symm))]; exact h)
  · exact .inr ⟨c, by rw [upd_ne (ne_of h1 hx (fun z => n1 _ z.symm))]; exact h1, by rw [upd_ne (ne_of h2 hx (fun z => n2 _ z.symm))]; exact h2⟩
theorem tab_ins {o : HO} {x : Addr} (hx : ∃ C d fs, H x = some (.ins C d fs)) (h : TabAt A H) : TabAt A (upd H x o) := by
  obtain ⟨C, d, fs, hx⟩ := hx
  exact tab_upd hx (fun _ z => nomatch z) (fun _ z => nomatch z) h
theorem PieceAt.mono (k : Same H H') {a : Addr} {x : Nat × Nat} (h : PieceAt A H a x) : PieceAt A H' a x := by
  obtain ⟨dx, h⟩ := h
  exact ⟨dx, k _ _ h⟩
theorem PieceAt.but (nk : A.k_Piece ≠ A.k_Carpet) {dx : Addr} {fs : List (Str × V)} (hp : H p = some (.ins A.k_Carpet dx fs)) (k : But p H H') {a : Addr} {x : Nat × Nat} (h : PieceAt A H a x) : PieceAt A H' a x := by
  obtain ⟨dx', h⟩ := h
  exact ⟨dx', k.at_ h (ne_of h hp (by intro z; injection z with z; exact nk z)) (fun _ z => nomatch z)⟩
theorem PiecesAt.mono (k : Same H H') {l : Addr} {xs : List (Nat × Nat)} (h : PiecesAt A H g l xs) : PiecesAt A H' g l xs := by
  obtain ⟨n, as, h1, h2⟩ := h
  exact ⟨n, as, k _ _ h1, pimp (fun _ _ q => q.mono k) h2⟩
theorem PiecesAt.but (nk : A.k_Piece ≠ A.k_Carpet) {dx : Addr} {fs : List (Str × V)} (hp : H p = some (.ins A.k_Carpet dx fs)) (k : But p H H') {l : Addr} {xs : List (Nat × Nat)} (h : PiecesAt A H g l xs) : PiecesAt A H' g l xs := by
  obtain ⟨n, as, h1, h2⟩ := h
  exact ⟨n, as, k.at_ h1 (ne_of h1 hp (by intro z; cases z)) (fun _ z => nomatch z), pimp (fun _ _ q => q.but nk hp k) h2⟩
theorem StateAt.mono (k : Same H H') {t : Addr} {x : Past} (h : StateAt A H g t x) : StateAt A H' g t x := by
  obtain ⟨a, b, h1, h2, h3⟩ := h
  exact ⟨a, b, k _ _ h1, h2.mono k, h3.mono k⟩
theorem StateAt.but (nk : A.k_Piece ≠ A.k_Carpet) {dx : Addr} {fs : List (Str × V)} (hp : H p = some (.ins A.k_Carpet dx fs)) (k : But p H H') {t : Addr} {x : Past} (h : StateAt A H g t x) : StateAt A H' g t x := by
  obtain ⟨a, b, h1, h2, h3⟩ := h
  exact ⟨a, b, k.at_ h1 (ne_of h1 hp (by intro z; cases z)) (fun _ z => nomatch z), h2.but nk hp k, h3.but nk hp k⟩
theorem CarpetIs.mono (k : Same H H') {s : Abs} {dx a b c : Addr} {ts : List Addr} (h : CarpetIs A H g p s dx a b c ts) : CarpetIs A H' g p s dx a b c ts :=
  ⟨k _ _ h.at_, h.strips.mono k, h.rolls.mono k, h.ng, k _ _ h.past, pimp (fun _ _ q => q.mono k) h.undo, h.tab.mono k⟩
theorem CarpetAt.mono (k : Same H H') {s : Abs} (h : CarpetAt A H g p s) : CarpetAt A H' g p s := by
  obtain ⟨dx, a, b, c, ts, h⟩ := h
  exact ⟨dx, a, b, c, ts, h.mono k⟩
/-- tables aside all stands -/
theorem PieceAt.monoT (k : SameT H H') {a : Addr} {x : Nat × Nat} (h : PieceAt A H a x) : PieceAt A H' a x := by
  obtain ⟨dx, h⟩ := h
  exact ⟨dx, k.at_ h (fun _ z => nomatch z)⟩
theorem PiecesAt.monoT (k : SameT H H') {l : Addr} {xs : List (Nat × Nat)} (h : PiecesAt A H g l xs) : PiecesAt A H' g l xs := by
  obtain ⟨n, as, h1, h2⟩ := h
  exact ⟨n, as, k.at_ h1 (fun _ z => nomatch z), pimp (fun _ _ q => q.monoT k) h2⟩
theorem StateAt.monoT (k : SameT H H') {t : Addr} {x : Past} (h : StateAt A H g t x) : StateAt A H' g t x := by
  obtain ⟨a, b, h1, h2, h3⟩ := h
  exact ⟨a, b, k.at_ h1 (fun _ z => nomatch z), h2.monoT k, h3.monoT k⟩
theorem CarpetIs.monoT (k : SameT H H') (t : TabAt A H') {s : Abs} {dx a b c : Addr} {ts : List Addr} (h : CarpetIs A H g p s dx a b c ts) : CarpetIs A H' g p s dx a b c ts :=
  ⟨k.at_ h.at_ (fun _ z => nomatch z), h.strips.monoT k, h.rolls.monoT k, h.ng, k.at_ h.past (fun _ z => nomatch z), pimp (fun _ _ q => q.monoT k) h.undo, t⟩
theorem CarpetAt.monoT (k : SameT H H') (t : TabAt A H') {s : Abs} (h : CarpetAt A H g p s) : CarpetAt A H' g p s := by
  obtain ⟨dx, a, b, c, ts, h⟩ := h
  exact ⟨dx, a, b, c, ts, h.monoT k t⟩
/-- the answers' list may be written -/
theorem PieceAt.wr {o : HO} {xs : List V} (hg : H g = some (.lst xs)) {a : Addr} {x : Nat × Nat} (h : PieceAt A H a x) : PieceAt A (upd H g o) a x := by
  obtain ⟨dx, h⟩ := h
  exact ⟨dx, by rw [upd_ne (ne_of h hg (by intro z; cases z))]; exact h⟩
theorem PiecesAt.wr {o : HO} {xs : List V} (hg : H g = some (.lst xs)) {l : Addr} {ys : List (Nat × Nat)} (h : PiecesAt A H g l ys) : PiecesAt A (upd H g o) g l ys := by
  obtain ⟨n, as, h1, h2⟩ := h
  exact ⟨n, as, by rw [upd_ne n]; exact h1, pimp (fun _ _ q => q.wr hg) h2⟩
theorem StateAt.wr {o : HO} {xs : List V} (hg : H g = some (.lst xs)) {t : Addr} {x : Past} (h : StateAt A H g t x) : StateAt A (upd H g o) g t x := by
  obtain ⟨a, b, h1, h2, h3⟩ := h
  exact ⟨a, b, by rw [upd_ne (ne_of h1 hg (by intro z; cases z))]; exact h1, h2.wr hg, h3.wr hg⟩
theorem CarpetAt.wr {o : HO} {xs : List V} (hg : H g = some (.lst xs)) {s : Abs} (h : CarpetAt A H g p s) : CarpetAt A (upd H g o) g p s := by
  obtain ⟨dx, a, b, c, ts, h⟩ := h
  exact ⟨dx, a, b, c, ts, by rw [upd_ne (ne_of h.at_ hg (by intro z; cases z))]; exact h.at_, h.strips.wr hg, h.rolls.wr hg, h.ng, by rw [upd_ne h.ng]; exact h.past, pimp (fun _ _ q => q.wr hg) h.undo, tab_upd hg (fun _ z => nomatch z) (fun _ z => nomatch z) h.tab⟩
end
/-! ### pieces and the carpet: their methods -/
section
variable {P : Program} {w : World} {K : PySem.W.Frag} {mg : Str → Option Value} {base : Heap} {A : Ad}
def spPieceInit (A : Ad) : Sp := fun vs H Q _ => ∃ (p dx : Addr) (l b : Nat), vs = [.ref p, .int (l : Int), .int (b : Int)] ∧ H p = some (.ins A.k_Piece dx []) ∧ ∀ H' : Hp, PieceAt A H' p (l, b) → But0 p H H' → Q .non H'
theorem ok_Piece_init (T : Tx A K mg) : FnOk P w K mg base CX0 1 A.a_Piece_init A.d_Piece_init ["self", "long", "begins"] (spPieceInit A) := by
  refine T.F_Piece_init.ok sc_Piece_init (fun vs H Q E h => ?_) (fun cdv Ar outer s H vs Q E hr h => ?_)
  · obtain ⟨p, dx, l, b, rfl, _⟩ := h
    rfl
  · obtain ⟨p, dx, l, b, rfl, hp, k⟩ := h
    refine ⟨_, (pss_cons (ps_fld (pv 0) (pv 1) rfl)
      (pss_one (ps_fld (pv 0) (pv 2) rfl))), ?_⟩
    refine ⟨_, rfl, _, rfl, p, _, dx, _, rfl, hp, T.cl_Piece, T.f_Piece_long, (by show 0 < 1000; decide), ?_⟩
    refine ⟨_, rfl, _, rfl, p, _, dx, _, rfl, upd_same, T.cl_Piece, T.f_Piece_begins, (by show 1 < 1000; decide), ?_⟩
    exact k _ ⟨dx, upd_same⟩ (But0.upd.trans But0.upd)
/-- a piece that was just made -/
theorem made_piece {H H1 : Hp} {x dx C : Addr} {fs : List (Str × V)} (nx : H x = none) (nd : H dx = none) (k : But0 x (upd (upd H dx (.own x)) x (.ins C dx fs)) H1) : Same H H1 := fun b o e =>
  k b o (by rw [upd_ne (ne_of_none e nx), upd_ne (ne_of_none e nd)]; exact e) (ne_of_none e nx)
def spCarpetInit (A : Ad) : Sp := fun vs H Q _ => ∃ (p dx : Addr), vs = [.ref p] ∧ H p = some (.ins A.k_Carpet dx []) ∧ TabAt A H ∧ ∀ H' : Hp, (∀ g, H' g = none → CarpetAt A H' g p ⟨0, [], [], []⟩) → But0 p H H' → Q .non H'
theorem ok_Carpet_init (T : Tx A K mg) : FnOk P w K mg base CX0 1 A.a_Carpet_init A.d_Carpet_init ["self"] (spCarpetInit A) := by
  refine T.F_Carpet_init.ok sc_Carpet_init (fun vs H Q E h => ?_) (fun cdv Ar outer s H vs Q E hr h => ?_)
  · obtain ⟨p, dx, rfl, _⟩ := h
    rfl
  · obtain ⟨p, dx, rfl, hp, t0, k⟩ := h
    refine ⟨_, (pss_cons (ps_fld (pv 0) pe_int rfl)
      (pss_cons (ps_fld (pv 0) (pe_lst pa_nil) rfl)
      (pss_cons (ps_fld (pv 0) (pe_lst pa_nil) rfl)
      (pss_one (ps_fld (pv 0) (pe_lst pa_nil) rfl))))), ?_⟩
    refine ⟨_, rfl, p, _, dx, _, rfl, hp, T.cl_Carpet, T.f_Carpet_repeat, (by show 0 < 1000; decide), ?_⟩
    refine ⟨Nat.zero_le _, fun a ha => ⟨_, rfl, p, _, dx, _, rfl, by rw [upd_ne (ne_of_none upd_same ha)]; exact upd_same, T.cl_Carpet, T.f_Carpet_strips, (by show 1 < 1000; decide), ?_⟩⟩
    refine ⟨Nat.zero_le _, fun b hb => ⟨_, rfl, p, _, dx, _, rfl, by rw [upd_ne (ne_of_none upd_same hb)]; exact upd_same, T.cl_Carpet, T.f_Carpet_rolls, (by show 2 < 1000; decide), ?_⟩⟩
    refine ⟨Nat.zero_le _, fun c hc => ⟨_, rfl, p, _, dx, _, rfl, by rw [upd_ne (ne_of_none upd_same hc)]; exact upd_same, T.cl_Carpet, T.f_Carpet_past, (by show 3 < 1000; decide), ?_⟩⟩
    have ap : a ≠ p := (ne_of_none upd_same ha).symm
    have bp : b ≠ p := (ne_of_none upd_same hb).symm
    have cp : c ≠ p := (ne_of_none upd_same hc).symm
    have ab : a ≠ b := ne_of_none (show _ = some (HO.lst []) by rw [upd_ne ap]; exact upd_same) hb
    have bc : b ≠ c := ne_of_none (show _ = some (HO.lst []) by rw [upd_ne bp]; exact upd_same) hc
    have ac : a ≠ c := ne_of_none (show _ = some (HO.lst []) by rw [upd_ne ap, upd_ne ab, upd_ne ap]; exact upd_same) hc
    refine k _ (fun g hg => ?_) (But0.upd.trans ((But0.of (Same.upd ha)).trans (But0.upd.trans ((But0.of (Same.upd hb)).trans (But0.upd.trans ((But0.of (Same.upd hc)).trans But0.upd))))))
    have ha8 : ∀ (H : Hp) v1 v2 v3, (upd (upd (upd (upd (upd (upd H a (.lst [])) p v1) b (.lst [])) p v2) c (.lst [])) p v3) a = some (.lst []) := fun H v1 v2 v3 => by rw [upd_ne ap, upd_ne ac, upd_ne ap, upd_ne ab, upd_ne ap]; exact upd_same
    have hb8 : ∀ (H : Hp) v v', (upd (upd (upd (upd H b (.lst [])) p v) c (.lst [])) p v') b = some (.lst []) := fun H v v' => by rw [upd_ne bp, upd_ne bc, upd_ne bp]; exact upd_same
    have hc8 : ∀ (H : Hp) v, (upd (upd H c (.lst [])) p v) c = some (.lst []) := fun H v => by rw [upd_ne cp]; exact upd_same
    exact ⟨dx, a, b, c, [], upd_same, ⟨ne_of_none (ha8 _ _ _ _) hg, [], ha8 _ _ _ _, .nil⟩, ⟨ne_of_none (hb8 _ _ _) hg, [], hb8 _ _ _, .nil⟩, ne_of_none (hc8 _ _) hg, hc8 _ _, .nil, (tab_ins ⟨_, _, _, by rw [upd_ne (ne_of_none upd_same hc)]; exact upd_same⟩ (TabAt.mono (Same.upd hc) (tab_ins ⟨_, _, _, by rw [upd_ne (ne_of_none upd_same hb)]; exact upd_same⟩ (TabAt.mono (Same.upd hb) (tab_ins ⟨_, _, _, by rw [upd_ne (ne_of_none upd_same ha)]; exact upd_same⟩ (TabAt.mono (Same.upd ha) (tab_ins ⟨_, _, _, hp⟩ t0)))))))⟩
def spBeginAnew (A : Ad) : Sp := fun vs H Q _ => ∃ (p g : Addr) (s : Abs) (r : Nat), vs = [.ref p, .int (r : Int)] ∧ CarpetAt A H g p s ∧ H g ≠ none ∧ ∀ H' : Hp, CarpetAt A H' g p (Kh351.begun r) → But p H H' → Q .non H'
theorem ok_Carpet_begin_anew (T : Tx A K mg) : FnOk P w K mg base CX0 1 A.a_Carpet_begin_anew A.d_Carpet_begin_anew ["self", "repeat"] (spBeginAnew A) := by
  refine T.F_Carpet_begin_anew.ok sc_Carpet_begin_anew (fun vs H Q E h => ?_) (fun cdv Ar outer s H vs Q E hr h => ?_)
  · obtain ⟨p, g, s, r, rfl, _⟩ := h
    rfl
  · obtain ⟨p, g, st, r, rfl, ⟨dx, a0, b0, c0, ts, C⟩, hgn, k⟩ := h
    refine ⟨_, (pss_cons (ps_fld (pv 0) (pv 1) rfl)
      (pss_cons (ps_fld (pv 0) (pe_lst pa_nil) rfl)
      (pss_cons (ps_fld (pv 0) (pe_lst pa_nil) rfl)
      (pss_one (ps_fld (pv 0) (pe_lst pa_nil) rfl))))), ?_⟩
    have gp : ∀ {o : HO} {q : Addr}, upd H p o q = none → q ≠ g := fun {o q} hq e => by
      subst e
      rw [upd_ne (ne_of_none upd_same hq).symm] at hq
      exact hgn hq
    refine ⟨_, rfl, _, rfl, p, _, dx, _, rfl, C.at_, T.cl_Carpet, T.f_Carpet_repeat, (by show 4 < 1000; decide), ?_⟩
    refine ⟨Nat.zero_le _, fun a ha => ⟨_, rfl, p, _, dx, _, rfl, by rw [upd_ne (ne_of_none upd_same ha)]; exact upd_same, T.cl_Carpet, T.f_Carpet_strips, (by show 4 < 1000; decide), ?_⟩⟩
    refine ⟨Nat.zero_le _, fun b hb => ⟨_, rfl, p, _, dx, _, rfl, by rw [upd_ne (ne_of_none upd_same hb)]; exact upd_same, T.cl_Carpet, T.f_Carpet_rolls, (by show 4 < 1000; decide), ?_⟩⟩
    refine ⟨Nat.zero_le _, fun c hc => ⟨_, rfl, p, _, dx, _, rfl, by rw [upd_ne (ne_of_none upd_same hc)]; exact upd_same, T.cl_Carpet, T.f_Carpet_past, (by show 4 < 1000; decide), ?_⟩⟩
    have ap : a ≠ p := (ne_of_none upd_same ha).symm
    have bp : b ≠ p := (ne_of_none upd_same hb).symm
    have cp : c ≠ p := (ne_of_none upd_same hc).symm
    have ab : a ≠ b := ne_of_none (show _ = some (HO.lst []) by rw [upd_ne ap]; exact upd_same) hb
    have bc : b ≠ c := ne_of_none (show _ = some (HO.lst []) by rw [upd_ne bp]; exact upd_same) hc
    have ac : a ≠ c := ne_of_none (show _ = some (HO.lst []) by rw [upd_ne ap, upd_ne ab, upd_ne ap]; exact upd_same) hc
    have ag : a ≠ g := gp ha
    have bg : b ≠ g := gp (o := .lst []) (by rw [upd_ne bp]; rw [upd_ne bp, upd_ne ab.symm, upd_ne bp] at hb; exact hb)
    have cg : c ≠ g := gp (o := .lst []) (by rw [upd_ne cp]; rw [upd_ne cp, upd_ne bc.symm, upd_ne cp, upd_ne ac.symm, upd_ne cp] at hc; exact hc)
    refine k _ ?_ (But.upd.trans ((But.of (Same.upd ha)).trans (But.upd.trans ((But.of (Same.upd hb)).trans (But.upd.trans ((But.of (Same.upd hc)).trans But.upd))))))
    have ha8 : ∀ (H : Hp) v1 v2 v3, (upd (upd (upd (upd (upd (upd H a (.lst [])) p v1) b (.lst [])) p v2) c (.lst [])) p v3) a = some (.lst []) := fun H v1 v2 v3 => by rw [upd_ne ap, upd_ne ac, upd_ne ap, upd_ne ab, upd_ne ap]; exact upd_same
    have hb8 : ∀ (H : Hp) v v', (upd (upd (upd (upd H b (.lst [])) p v) c (.lst [])) p v') b = some (.lst []) := fun H v v' => by rw [upd_ne bp, upd_ne bc, upd_ne bp]; exact upd_same
    have hc8 : ∀ (H : Hp) v, (upd (upd H c (.lst [])) p v) c = some (.lst []) := fun H v => by rw [upd_ne cp]; exact upd_same
    exact ⟨dx, a, b, c, [], upd_same, ⟨ag, [], ha8 _ _ _ _, .nil⟩, ⟨bg, [], hb8 _ _ _, .nil⟩, cg, hc8 _ _, .nil, (tab_ins ⟨_, _, _, by rw [upd_ne (ne_of_none upd_same hc)]; exact upd_same⟩ (TabAt.mono (Same.upd hc) (tab_ins ⟨_, _, _, by rw [upd_ne (ne_of_none upd_same hb)]; exact upd_same⟩ (TabAt.mono (Same.upd hb) (tab_ins ⟨_, _, _, by rw [upd_ne (ne_of_none upd_same ha)]; exact upd_same⟩ (TabAt.mono (Same.upd ha) (tab_ins ⟨_, _, _, C.at_⟩ C.tab)))))))⟩
/-- change: the last ten states are kept -/
def spChange (A : Ad) : Sp := fun vs H Q _ => ∃ (p g a b : Addr) (s : Abs) (r : Nat) (S : List Strip) (R : List (Nat × Nat)), vs = [.ref p, .int (r : Int), .ref a, .ref b] ∧ CarpetAt A H g p s ∧ s.undo.length ≤ 10 ∧ H g ≠ none ∧
  PiecesAt A H g a (S.map pr) ∧ PiecesAt A H g b R ∧ ∀ H' : Hp, CarpetAt A H' g p (Kh351.keep s ⟨r, S, R, s.undo⟩) → But p H H' → Q .non H'
theorem cut_to_nat (xs : List V) (k : Nat) : cutV xs none (some (k : Int)) = xs.take k := by
  unfold cutV
  rw [HT.sIx_nat, HT.sIx_none, List.drop_zero, Nat.sub_zero]
  by_cases h : k ≤ xs.length
  · rw [Nat.min_eq_left h]
  · rw [Nat.min_eq_right (by omega), List.take_length, List.take_of_length_le (by omega)]
theorem cut_from_nat (xs : List V) (k : Nat) : cutV xs (some (k : Int)) none = xs.drop k := by
  unfold cutV
  rw [HT.sIx_nat, HT.sIx_none]
  by_cases h : k ≤ xs.length
  · rw [Nat.min_eq_left h, List.take_of_length_le]
    rw [List.length_drop]
    exact Nat.le_refl _
  · rw [Nat.min_eq_right (by omega), List.drop_eq_nil_of_le (Nat.le_refl _), List.drop_eq_nil_of_le (by omega)]
    simp
theorem cut_nats (xs : List V) (i j : Nat) (hi : i ≤ xs.length) (hj : j ≤ xs.length) : cutV xs (some (i : Int)) (some (j : Int)) = (xs.drop i).take (j - i) := by
  unfold cutV
  rw [HT.sIx_nat, HT.sIx_nat, Nat.min_eq_left hi, Nat.min_eq_left hj]
theorem cut_butlast (xs : List V) (v : V) : cutV (xs ++ [v]) none (some (-1)) = xs := by
  have e : HT.sIx (xs ++ [v]).length (xs ++ [v]).length (some (-1)) = xs.length := by
    show (if (-1 : Int) < 0 then ((-1 : Int) + ((xs ++ [v]).length : Int)).toNat else min (-1 : Int).toNat (xs ++ [v]).length) = _
    rw [if_pos (by decide), List.length_append, List.length_singleton]
    omega
  unfold cutV
  rw [e, HT.sIx_none, List.drop_zero, Nat.sub_zero]
  exact List.take_left' rfl
theorem cut_from {xs : List V} (k : Int) : cutV xs (some k) none = xs.drop (HT.sIx xs.length 0 (some k)) := by
  unfold cutV
  rw [List.take_of_length_le]
  rw [List.length_drop]
  exact Nat.le_refl _
theorem last_ten {α : Type} (l : List α) {n : Nat} (hn : n = l.length) : l.reverse.drop (HT.sIx n 0 (some (-10))) = (l.take 10).reverse := by
  subst hn
  have e : HT.sIx l.length 0 (some (-10)) = l.length - 10 := by
    show (if (-10 : Int) < 0 then ((-10 : Int) + (l.length : Int)).toNat else min (-10 : Int).toNat l.length) = _
    rw [if_pos (by decide)]
    omega
  rw [List.drop_reverse, e]
  congr 1
  by_cases h : 10 ≤ l.length
  · rw [show l.length - (l.length - 10) = 10 by omega]
  · rw [show l.length - (l.length - 10) = l.length by omega, List.take_length, List.take_of_length_le (by omega)]
theorem ok_Carpet_change (T : Tx A K mg) : FnOk P w K mg base CX0 1 A.a_Carpet_change A.d_Carpet_change ["self", "repeat", "strips", "rolls"] (spChange A) := by
  refine T.F_Carpet_change.ok sc_Carpet_change (fun vs H Q E h => ?_) (fun cdv Ar outer s H vs Q E hr h => ?_)
  · obtain ⟨p, g, a, b, s, r, S, R, rfl, _⟩ := h
    rfl
  · obtain ⟨p, g, a, b, st, r, S, R, rfl, ⟨dx, a0, b0, c0, ts, C⟩, hu, hgn, hS, hR, k⟩ := h
    refine ⟨_, (pss_cons (ps_set (i := 4) sc_Carpet_change.nd rfl (Or.inl rfl) (pe_op op_cat (pe_fld (pv 0) rfl) (pe_lst (pa_cons (pe_tup (pa_cons (pe_fld (pv 0) rfl) (pa_cons (pe_fld (pv 0) rfl) (pa_cons (pe_fld (pv 0) rfl) pa_nil)))) pa_nil))))
      (pss_cons (ps_fld (pv 0) (pe_slice sl_list (pv 4) (po_some (pe_un un_neg (pe_gint rfl T.c_MOST_TAKEN_BACK))) po_none) rfl)
      (pss_cons (ps_fld (pv 0) (pv 1) rfl)
      (pss_cons (ps_fld (pv 0) (pv 2) rfl)
      (pss_one (ps_fld (pv 0) (pv 3) rfl)))))), ?_⟩
    have tl : ts.length = st.undo.length := by rw [C.undo.length, List.length_reverse]
    -- past = self.past + [(..)]
    refine ⟨_, rfl, p, _, dx, _, _, rfl, C.at_, T.cl_Carpet, T.f_Carpet_past, cf_past, _, rfl, p, _, dx, _, _, rfl, C.at_, T.cl_Carpet, T.f_Carpet_repeat, cf_repeat, _, rfl, p, _, dx, _, _, rfl, C.at_, T.cl_Carpet, T.f_Carpet_strips, cf_strips,
      _, rfl, p, _, dx, _, _, rfl, C.at_, T.cl_Carpet, T.f_Carpet_rolls, cf_rolls, (by show 3 ≤ sizeLine; decide), fun t ht => ?_⟩
    refine ⟨(by show 1 ≤ sizeLine; decide), fun q hq => ?_⟩
    have k1 := Same.upd (o := .tup [.int (st.repeat_ : Int), .ref a0, .ref b0]) ht
    have k2 := k1.trans (Same.upd (o := .lst [.ref t]) hq)
    refine ⟨c0, q, _, _, rfl, rfl, k2 _ _ C.past, upd_same, (by rw [List.length_map, tl]; exact Nat.le_trans (Nat.add_le_add_right hu 1) (by decide)), fun n hn => ?_⟩
    have k3 := k2.trans (Same.upd (o := .lst (ts.map V.ref ++ [.ref t])) hn)
    -- self.past = past[-10:]
    refine ⟨_, rfl, _, rfl, _, rfl, n, _, rfl, SqL.of upd_same, fun m hm => ?_⟩
    have k4 := k3.trans (Same.upd (o := .lst (cutV (ts.map V.ref ++ [.ref t]) (some (-10)) none)) hm)
    refine ⟨_, rfl, p, _, dx, _, rfl, k4 _ _ C.at_, T.cl_Carpet, T.f_Carpet_past, (by show 4 < 1000; decide), ?_⟩
    -- self.repeat, self.strips, self.rolls
    refine ⟨_, rfl, _, rfl, p, _, dx, _, rfl, upd_same, T.cl_Carpet, T.f_Carpet_repeat, (by show 4 < 1000; decide), ?_⟩
    refine ⟨_, rfl, _, rfl, p, _, dx, _, rfl, upd_same, T.cl_Carpet, T.f_Carpet_strips, (by show 4 < 1000; decide), ?_⟩
    refine ⟨_, rfl, _, rfl, p, _, dx, _, rfl, upd_same, T.cl_Carpet, T.f_Carpet_rolls, (by show 4 < 1000; decide), ?_⟩
    have hp4 := k4 _ _ C.at_
    rw [upd_upd, upd_upd, upd_upd]
    have mp : m ≠ p := (ne_of_none (k3 _ _ C.at_) hm).symm
    have mg' : m ≠ g := fun e => by
      subst e
      cases e : H m with
      | none => exact hgn e
      | some o => rw [k3 _ _ e] at hm; cases hm
    refine k _ ⟨dx, a, b, m, (ts ++ [t]).drop (HT.sIx (ts ++ [t]).length 0 (some (-10))), upd_same, (hS.mono k4).but T.ne_Piece_Carpet hp4 But.upd, (hR.mono k4).but T.ne_Piece_Carpet hp4 But.upd, mg', ?_, ?_, tab_upd hp4 (fun _ z => nomatch z) (fun _ z => nomatch z) (C.tab.mono k4)⟩ ((But.of k4).trans But.upd)
    · rw [upd_ne mp, upd_same, cut_from]
      rw [List.map_drop, List.map_append, List.length_append, List.length_append, List.length_map]
      rfl
    · show Paired _ _ (((st.repeat_, st.strips, st.rolls) :: st.undo).take 10).reverse
      rw [← last_ten (n := (ts ++ [t]).length) _ (by rw [List.length_append, tl]; rfl), List.reverse_cons]
      refine Paired.drp _ (Paired.app (pimp (fun _ _ q => (q.mono k4).but T.ne_Piece_Carpet hp4 But.upd) C.undo) (.cons ⟨a0, b0, ?_, (C.strips.mono k4).but T.ne_Piece_Carpet hp4 But.upd, (C.rolls.mono k4).but T.ne_Piece_Carpet hp4 But.upd⟩ .nil))
      have h1 : (upd H t (.tup [.int (st.repeat_ : Int), .ref a0, .ref b0])) t = some (.tup [.int (st.repeat_ : Int), .ref a0, .ref b0]) := upd_same
      have h4 := Same.upd (o := .lst (cutV (ts.map V.ref ++ [.ref t]) (some (-10)) none)) hm _ _ (Same.upd (o := .lst (ts.map V.ref ++ [.ref t])) hn _ _ (Same.upd (o := .lst [.ref t]) hq _ _ h1))
      rw [upd_ne (ne_of h4 hp4 (by intro z; cases z))]
      exact h4
def spTakeBack (A : Ad) : Sp := fun vs H Q _ => ∃ (p g : Addr) (s : Abs) (x : Past) (u : List Past), vs = [.ref p] ∧ CarpetAt A H g p s ∧ s.undo = x :: u ∧ H g ≠ none ∧ ∀ H' : Hp, CarpetAt A H' g p ⟨x.1, x.2.1, x.2.2, u⟩ → But p H H' → Q .non H'
theorem ok_Carpet_take_back (T : Tx A K mg) : FnOk P w K mg base CX0 1 A.a_Carpet_take_back A.d_Carpet_take_back ["self"] (spTakeBack A) := by
  refine T.F_Carpet_take_back.ok sc_Carpet_take_back (fun vs H Q E h => ?_) (fun cdv Ar outer s H vs Q E hr h => ?_)
  · obtain ⟨p, g, s, x, u, rfl, _⟩ := h
    rfl
  · obtain ⟨p, g, st, x, u, rfl, ⟨dx, a0, b0, c0, ts, C⟩, hu, hgn, k⟩ := h
    refine ⟨_, (pss_cons (ps_set (i := 1) sc_Carpet_take_back.nd rfl (Or.inl rfl) (pe_ix ix_list (pe_fld (pv 0) rfl) (pe_un un_neg pe_int) (fun _ _ => rfl)))
      (pss_cons (ps_fld (pv 0) (pe_slice sl_list (pe_fld (pv 0) rfl) po_none (po_some (pe_un un_neg pe_int))) rfl)
      (pss_cons (ps_fld (pv 0) (pe_ix ix_tup (pv 1) pe_int (fun _ _ => rfl)) rfl)
      (pss_cons (ps_fld (pv 0) (pe_ix ix_tup (pv 1) pe_int (fun _ _ => rfl)) rfl)
      (pss_one (ps_fld (pv 0) (pe_ix ix_tup (pv 1) pe_int (fun _ _ => rfl)) rfl)))))), ?_⟩
    have hru : st.undo.reverse = u.reverse ++ [x] := by rw [hu, List.reverse_cons]
    have hC := C.undo
    rw [hru] at hC
    obtain ⟨ts', t, rfl, P1, P2⟩ : ∃ ts' t, ts = ts' ++ [t] ∧ Paired (StateAt A H g) ts' u.reverse ∧ StateAt A H g t x := by
      have hl := hC.length
      rw [List.length_append] at hl
      have h1 := Paired.tak u.reverse.length hC
      have h2 := Paired.drp u.reverse.length hC
      rw [List.take_left'] at h1
      · rw [List.drop_left'] at h2
        · cases h3 : ts.drop u.reverse.length with
          | nil => rw [h3] at h2; cases h2
          | cons t r =>
            rw [h3] at h2
            cases h2 with
            | cons q1 q2 =>
              cases q2
              exact ⟨ts.take u.reverse.length, t, by rw [← h3, List.take_append_drop], h1, q1⟩
        · rfl
      · rfl
    obtain ⟨a, b, ht, ha, hb⟩ := P2
    have hpast : H c0 = some (.lst (ts'.map V.ref ++ [.ref t])) := by
      rw [C.past, List.map_append]
      rfl
    refine ⟨_, rfl, p, _, dx, _, _, rfl, C.at_, T.cl_Carpet, T.f_Carpet_past, cf_past, _, rfl, c0, _, _, _, rfl, rfl, SqL.of hpast, atI_last _ _, ?_⟩
    refine ⟨_, rfl, p, _, dx, _, _, rfl, C.at_, T.cl_Carpet, T.f_Carpet_past, cf_past, _, rfl, _, rfl, c0, _, rfl, SqL.of hpast, fun m hm => ?_⟩
    have k1 := Same.upd (o := .lst (cutV (ts'.map V.ref ++ [.ref t]) none (some (-1)))) hm
    have hp1 := k1 _ _ C.at_
    have tp : t ≠ p := ne_of ht C.at_ (by intro z; cases z)
    have ht1 := k1 _ _ ht
    refine ⟨_, rfl, p, _, dx, _, rfl, hp1, T.cl_Carpet, T.f_Carpet_past, (by show 4 < 1000; decide), ?_⟩
    refine ⟨_, rfl, t, _, _, _, rfl, rfl, SqT.of (by rw [upd_ne tp]; exact ht1), rfl, _, rfl, p, _, dx, _, rfl, upd_same, T.cl_Carpet, T.f_Carpet_repeat, (by show 4 < 1000; decide), ?_⟩
    refine ⟨_, rfl, t, _, _, _, rfl, rfl, SqT.of (by rw [upd_ne tp, upd_ne tp]; exact ht1), rfl, _, rfl, p, _, dx, _, rfl, upd_same, T.cl_Carpet, T.f_Carpet_strips, (by show 4 < 1000; decide), ?_⟩
    refine ⟨_, rfl, t, _, _, _, rfl, rfl, SqT.of (by rw [upd_ne tp, upd_ne tp, upd_ne tp]; exact ht1), rfl, _, rfl, p, _, dx, _, rfl, upd_same, T.cl_Carpet, T.f_Carpet_rolls, (by show 4 < 1000; decide), ?_⟩
    rw [upd_upd, upd_upd, upd_upd]
    have mp : m ≠ p := (ne_of_none C.at_ hm).symm
    have mg' : m ≠ g := fun e => hgn (e ▸ hm)
    refine k _ ⟨dx, a, b, m, ts', upd_same, (ha.mono k1).but T.ne_Piece_Carpet hp1 But.upd, (hb.mono k1).but T.ne_Piece_Carpet hp1 But.upd, mg', ?_, pimp (fun _ _ q => (q.mono k1).but T.ne_Piece_Carpet hp1 But.upd) P1, tab_upd hp1 (fun _ z => nomatch z) (fun _ z => nomatch z) (C.tab.mono k1)⟩ ((But.of k1).trans But.upd)
    rw [upd_ne mp, upd_same]
    rw [cut_butlast]
end
end PM

end

section
set_option Elab.async false
set_option linter.all false
set_option maxRecDepth 100000
set_option maxHeartbeats 2000000
namespace PM
open PySem PySem.Spec PyProof.Rows L2
open Kh351 (Abs Strip)
/-! ### what holds of a carpet that was begun; what a call is to answer and to leave -/
structure Ok3 (r : Nat) (S : List Strip) (R : List (Nat × Nat)) : Prop where
  r1 : 1 ≤ r
  r2 : r ≤ 120
  s : S.length ≤ 6
  l : R.length ≤ 3
  ps : ∀ x ∈ S, 1 ≤ x.long ∧ x.long ≤ 1000 ∧ x.begins < r
  pl : ∀ x ∈ R, 1 ≤ x.1 ∧ x.1 ≤ 10000 ∧ x.2 < r
structure Wf (a : Abs) : Prop where
  now : Ok3 a.repeat_ a.strips a.rolls
  u : a.undo.length ≤ 10
  old : ∀ x ∈ a.undo, Ok3 x.1 x.2.1 x.2.2
def nxt (a : Abs) (c : Kh351.Call) : Abs := ((Kh351.doing (some a) c).1).getD ⟨0, [], [], []⟩
def ansI (a : Abs) (c : Kh351.Call) : List Int := (Kh351.doing (some a) c).2.ret :: (Kh351.doing (some a) c).2.out.map Int.ofNat
def Post (A : Ad) (p g : Addr) (a : Abs) (c : Kh351.Call) (H : Hp) (Q : VK) : Prop := H g ≠ none ∧ ∀ (H' : Hp) (q : Addr), CarpetAt A H' g p (nxt a c) → But p H H' → H' q = some (.lst ((ansI a c).map V.int)) → q ≠ g → Q (.ref q) H'
theorem new_ne {A : Ad} {p g q : Addr} {a : Abs} {H H1 : Hp} (hg : H g ≠ none) (C : CarpetAt A H1 g p a) (b : But p H H1) (hq : H1 q = none) : q ≠ g := by
  rintro rfl
  obtain ⟨dx, x, y, z, ts, C⟩ := C
  cases e : H q with
  | none => exact hg e
  | some o =>
    by_cases hp : q = p
    · rw [hp, C.at_] at hq
      cases hq
    · exact (b _ _ e hp).2 hq
/-- a call of an own def upon the carpet: mk tells its arguments and the call that they are -/
def spC (A : Ad) (mk : List V → Kh351.Call → Prop) : Sp := fun vs H Q _ => ∃ (p g : Addr) (a : Abs) (c : Kh351.Call) (ws : List V), vs = .ref p :: ws ∧ mk ws c ∧ CarpetAt A H g p a ∧ Wf a ∧ H g ≠ none ∧ Post A p g a c H Q
theorem Post.fin {A : Ad} {p g : Addr} {a : Abs} {c : Kh351.Call} {H H1 : Hp} {Q : VK} (k : Post A p g a c H Q) (x : Option Abs × Kh351.Ans) (e : Kh351.doing (some a) c = x) {a' : Abs} (ea : x.1 = some a') {xs : List Int} (ex : x.2.ret :: x.2.out.map Int.ofNat = xs)
    (C : CarpetAt A H1 g p a') (b : But p H H1) {q : Addr} (hq : H1 q = none) : Q (.ref q) (upd H1 q (.lst (xs.map V.int))) := by
  refine k.2 _ q ?_ (b.trans (But.of (Same.upd hq))) ?_ (new_ne k.1 C b hq)
  · rw [show nxt a c = a' by unfold nxt; rw [e, ea]; rfl]
    exact C.mono (Same.upd hq)
  · rw [upd_same, show ansI a c = xs by unfold ansI; rw [e]; exact ex]
/-- a refusal: all stands -/
theorem Post.no {A : Ad} {p g : Addr} {a : Abs} {c : Kh351.Call} {H : Hp} {Q : VK} (k : Post A p g a c H Q) {z : Int} (e : Kh351.doing (some a) c = (some a, Kh351.say z)) (C : CarpetAt A H g p a) {q : Addr} (hq : H q = none) : Q (.ref q) (upd H q (.lst [.int z])) :=
  k.fin _ e rfl (xs := [z]) rfl C (But.refl _ _) hq
section
variable {P : Program} {w : World} {K : PySem.W.Frag} {mg : Str → Option Value} {base : Heap} {A : Ad}
def spBegin (A : Ad) : Sp := fun vs H Q _ => ∃ (p g : Addr) (a : Abs) (r : Nat), vs = [.ref p, .int (r : Int)] ∧ CarpetAt A H g p a ∧ H g ≠ none ∧
  ∀ (H' : Hp) (q : Addr), CarpetAt A H' g p (if r < 1 ∨ 120 < r then a else Kh351.begun r) → But p H H' → H' q = some (.lst [.int (if r < 1 ∨ 120 < r then -22 else 0)]) → q ≠ g → Q (.ref q) H'
theorem ok_begin (T : Tx A K mg) : FnOk P w K mg base CX0 2 A.a_begin A.d_begin ["carpet", "repeat"] (spBegin A) := by
  refine T.F_begin.ok sc_begin (fun vs H Q E h => ?_) (fun cdv Ar outer s H vs Q E hr h => ?_)
  · obtain ⟨p, g, a, r, rfl, _⟩ := h
    rfl
  · obtain ⟨p, g, a, r, rfl, hC, hg, k⟩ := h
    obtain ⟨dx, a0, b0, c0, ts, C⟩ := id hC
    refine ⟨_, (pss_cons (ps_if (PW.pt (pw_or (pt_cmpR op_lt (pv 1) pe_int (nomark _)) (pw_or1 (pt_cmpR op_gt (pv 1) (pe_gint rfl T.c_LONGEST_REPEAT) (nomark _))))) (pss_one (ps_ret (pe_lst (pa_cons (pe_gint rfl T.c_NOT_AS_TOLD) pa_nil)))) pss_nil)
      (pss_cons (ps_expr (pe_meth (pv 0) T.cl_Carpet T.me_Carpet_begin_anew (ok_Carpet_begin_anew T) (hr.mono (by decide)) T.b_Carpet_begin_anew .nil pass0 (pa_cons (pv 1) pa_nil)))
      (pss_one (ps_ret (pe_lst (pa_cons pe_int pa_nil)))))), ?_⟩
    have no : (r < 1 ∨ 120 < r) → ∀ q, H q = none → Q (.ref q) (upd H q (.lst [.int (-22)])) := fun hx q hq => by
      rw [if_pos hx, if_pos hx] at k
      exact k _ q (hC.mono (Same.upd hq)) (But.of (Same.upd hq)) upd_same (fun e => hg (e ▸ hq))
    refine ⟨_, rfl, _, _, rfl, rfl, _, rfl, ite2 (fun h => iteT ⟨by show 1 ≤ sizeLine; decide, no (.inl (by have := of_decide_eq_true h; omega))⟩) (fun h => ?_)⟩
    have h1 : ¬ (r : Int) < 1 := fun q => h (decide_eq_true q)
    refine ⟨_, rfl, _, _, rfl, rfl, _, rfl, ite2 (fun h => ⟨by show 1 ≤ sizeLine; decide, no (.inr (by have := of_decide_eq_true h; omega))⟩) (fun h => ?_)⟩
    have h2 : ¬ (120 : Int) < r := fun q => h (decide_eq_true q)
    have hx : ¬ (r < 1 ∨ 120 < r) := by omega
    rw [if_neg hx, if_neg hx] at k
    refine ⟨_, rfl, p, dx, _, rfl, C.at_, rfl, _, rfl, p, g, a, r, rfl, hC, hg, fun H1 C1 b1 => ⟨by show 1 ≤ sizeLine; decide, fun q hq => ?_⟩⟩
    exact k _ q (C1.mono (Same.upd hq)) (b1.trans (But.of (Same.upd hq))) upd_same (new_ne hg C1 b1 hq)
def spAsTold (A : Ad) : Sp := fun vs H Q _ => ∃ (p dx a b c : Addr) (r l x m : Nat), vs = [.ref p, .int (l : Int), .int (x : Int), .int (m : Int)] ∧ H p = some (.ins A.k_Carpet dx (cf r a b c)) ∧ Q (.bl (decide (1 ≤ l ∧ l ≤ m ∧ x < r))) H
theorem ok_is_as_told (T : Tx A K mg) : FnOk P w K mg base CX0 1 A.a_is_as_told A.d_is_as_told ["carpet", "long", "begins", "longest"] (spAsTold A) := by
  refine T.F_is_as_told.ok sc_is_as_told (fun vs H Q E h => ?_) (fun cdv Ar outer s H vs Q E hr h => ?_)
  · obtain ⟨p, dx, a, b, c, r, l, x, m, rfl, _⟩ := h
    rfl
  · obtain ⟨p, dx, a, b, c, r, l, x, m, rfl, hp, k⟩ := h
    refine ⟨_, (pss_one (ps_ret (pe_and (pe_cmpR op_le pe_int (pv 1) (nomark _)) (pe_and (pe_cmpR op_le (pv 1) (pv 3) (nomark _)) (pe_one (pe_cmpR op_lt (pv 2) (pe_fld (pv 0) rfl) (nomark _))))))), ?_⟩
    have no : ¬ (1 ≤ l ∧ l ≤ m ∧ x < r) → Q (.bl false) H := fun h => by rw [decide_eq_false h] at k; exact k
    refine ⟨_, rfl, _, _, rfl, rfl, _, rfl, ite2 (fun h => ?_) (fun h => no fun q => h (decide_eq_true (by omega)))⟩
    have h1 : (1 : Int) ≤ l := of_decide_eq_true h
    refine ⟨_, rfl, _, rfl, _, _, rfl, rfl, _, rfl, ite2 (fun h => ?_) (fun h => no fun q => h (decide_eq_true (by omega)))⟩
    have h2 : (l : Int) ≤ m := of_decide_eq_true h
    refine ⟨_, rfl, _, rfl, _, _, _, _, _, rfl, hp, T.cl_Carpet, T.f_Carpet_repeat, cf_repeat, _, _, rfl, rfl, ?_⟩
    rw [show decide (1 ≤ l ∧ l ≤ m ∧ x < r) = decide ((x : Int) < r) from decide_eq_decide.mpr (by omega)] at k
    exact k
theorem add_pieces {H H' : Hp} {g l l' x : Addr} {as : List Addr} {xs : List (Nat × Nat)} {y : Nat × Nat} (h : Paired (PieceAt A H) as xs) (kp : Same H H') (hx : PieceAt A H' x y) (hl : H' l' = some (.lst (as.map V.ref ++ [.ref x]))) (hg : l' ≠ g) : PiecesAt A H' g l' (xs ++ [y]) :=
  ⟨hg, as ++ [x], by rw [hl, List.map_append]; rfl, Paired.app (pimp (fun _ _ q => q.mono kp) h) (.cons hx .nil)⟩
theorem fresh_ne {H H1 : Hp} {g q : Addr} (hg : H g ≠ none) (k : Same H H1) (hq : H1 q = none) : q ≠ g := fun e => by
  subst e
  exact hg (k.free hq)
def spRefusal (A : Ad) : Sp := fun vs H Q _ => ∃ (p g : Addr) (a : Abs) (l x : Nat), vs = [.ref p, .int (l : Int), .int (x : Int)] ∧ CarpetAt A H g p a ∧ Wf a ∧
  Q (if l < 1 ∨ 1000 < l ∨ a.repeat_ ≤ x then .int (-22) else if Kh351.STRIPS ≤ a.strips.length then .int (-28) else .non) H
theorem ok_strip_refusal (T : Tx A K mg) : FnOk P w K mg base CX0 2 A.a_strip_refusal A.d_strip_refusal ["carpet", "long", "begins"] (spRefusal A) := by
  refine T.F_strip_refusal.ok sc_strip_refusal (fun vs H Q E h => ?_) (fun cdv Ar outer s H vs Q E hr h => ?_)
  · obtain ⟨p, g, a, l, x, rfl, _⟩ := h
    rfl
  · obtain ⟨p, g, a, l, b, rfl, hC, W, k⟩ := h
    obtain ⟨dx, a0, b0, c0, ts, C⟩ := id hC
    obtain ⟨hs0, as, hl, hP⟩ := C.strips
    have hlen : as.length = a.strips.length := by rw [hP.length, List.length_map]
    refine ⟨_, (pss_cons (ps_if (pt_not (pt_val (pe_call (ok_is_as_told T) (hr.mono (by decide)) rfl T.m_is_as_told T.F_is_as_told.kp T.b_is_as_told .nil pass0 (pa_cons (pv 0) (pa_cons (pv 1) (pa_cons (pv 2) (pa_cons (pe_gint rfl T.c_LONGEST_STRIP) pa_nil))))))) (pss_one (ps_ret (pe_gint rfl T.c_NOT_AS_TOLD))) pss_nil)
      (pss_cons (ps_if (pt_cmpR op_eq (pe_callB call_len_seq (by rfl) T.n_len bt_len (pa_cons (pe_fld (pv 0) rfl) pa_nil)) (pe_gint rfl T.c_MOST_STRIPS) (nomark _)) (pss_one (ps_ret (pe_gint rfl T.c_NO_ROOM))) pss_nil)
      (pss_one (ps_ret pe_non)))), ?_⟩
    refine ⟨_, rfl, _, rfl, _, rfl, p, dx, a0, b0, c0, a.repeat_, l, b, 1000, rfl, C.at_, _, rfl, ?_⟩
    by_cases hx : 1 ≤ l ∧ l ≤ 1000 ∧ b < a.repeat_
    · rw [decide_eq_true hx]
      refine iteF ?_
      rw [if_neg (show ¬ (l < 1 ∨ 1000 < l ∨ a.repeat_ ≤ b) by omega)] at k
      refine ⟨_, rfl, _, _, _, _, _, rfl, C.at_, T.cl_Carpet, T.f_Carpet_strips, cf_strips, a0, _, rfl, .inl (SqL.of hl), rfl, _, rfl, ?_⟩
      refine ite2 (fun h6 => ?_) (fun h6 => ?_)
      · have h6' : a.strips.length = 6 := by
          have := of_decide_eq_true h6
          injection this with this
          rw [List.length_map, hlen] at this
          omega
        rw [if_pos (show Kh351.STRIPS ≤ a.strips.length by rw [h6']; decide)] at k
        exact k
      · have h6' : ¬ Kh351.STRIPS ≤ a.strips.length := fun q => h6 (decide_eq_true (by
          rw [List.length_map, hlen]
          have q1 : 6 ≤ a.strips.length := q
          have q2 := W.now.s
          rw [show a.strips.length = 6 by omega]
          rfl))
        rw [if_neg h6'] at k
        exact k
    · rw [decide_eq_false hx]
      rw [if_pos (show l < 1 ∨ 1000 < l ∨ a.repeat_ ≤ b by omega)] at k
      exact iteT k
def mkStrip (ws : List V) (c : Kh351.Call) : Prop := ∃ l b : Nat, ws = [.int (l : Int), .int (b : Int)] ∧ c = .strip l b
theorem ok_add_strip (T : Tx A K mg) : FnOk P w K mg base CX0 3 A.a_add_strip A.d_add_strip ["carpet", "long", "begins"] (spC A mkStrip) := by
  refine T.F_add_strip.ok sc_add_strip (fun vs H Q E h => ?_) (fun cdv Ar outer s H vs Q E hr h => ?_)
  · obtain ⟨p, g, a, c, ws, rfl, ⟨l, b, rfl, _⟩, _⟩ := h
    rfl
  · obtain ⟨p, g, a, c, ws, rfl, ⟨l, b, rfl, rfl⟩, hC, W, hg, k⟩ := h
    obtain ⟨dx, a0, b0, c0, ts, C⟩ := id hC
    obtain ⟨hs0, as, hl, hP⟩ := C.strips
    have hlen : as.length = a.strips.length := by rw [hP.length, List.length_map]
    refine ⟨_, (pss_cons (ps_set (i := 3) sc_add_strip.nd rfl (Or.inl rfl) (pe_call (ok_strip_refusal T) (hr.mono (by decide)) rfl T.m_strip_refusal T.F_strip_refusal.kp T.b_strip_refusal .nil pass0 (pa_cons (pv 0) (pa_cons (pv 1) (pa_cons (pv 2) pa_nil)))))
      (pss_cons (ps_if (pt_cmpR op_notN (pv 3) pe_non (nomark _)) (pss_one (ps_ret (pe_lst (pa_cons (pv 3) pa_nil)))) pss_nil)
      (pss_cons (ps_set (i := 4) sc_add_strip.nd rfl (Or.inl rfl) (pe_callB call_len_seq (by rfl) T.n_len bt_len (pa_cons (pe_fld (pv 0) rfl) pa_nil)))
      (pss_cons (ps_expr (pe_meth (pv 0) T.cl_Carpet T.me_Carpet_change (ok_Carpet_change T) (hr.mono (by decide)) T.b_Carpet_change .nil pass0 (pa_cons (pe_fld (pv 0) rfl) (pa_cons (pe_op op_cat (pe_fld (pv 0) rfl) (pe_lst (pa_cons (pe_make T.mk_Piece (ok_Piece_init T) (hr.mono (by decide)) rfl T.g_Piece T.b_Piece_init .nil pass0 (pa_cons (pv 1) (pa_cons (pv 2) pa_nil))) pa_nil))) (pa_cons (pe_fld (pv 0) rfl) pa_nil)))))
      (pss_one (ps_ret (pe_lst (pa_cons (pv 4) pa_nil)))))))), ?_⟩
    refine ⟨_, rfl, _, rfl, _, rfl, p, g, a, l, b, rfl, hC, W, ?_⟩
    by_cases hx : l < 1 ∨ 1000 < l ∨ a.repeat_ ≤ b
    · rw [if_pos hx]
      exact ⟨_, rfl, rfl, _, rfl, iteT ⟨_, rfl, (by show 1 ≤ sizeLine; decide), fun q hq => k.no (if_pos hx) hC hq⟩⟩
    · rw [if_neg hx]
      have e0 : Kh351.doing (some a) (.strip l b) = _ := if_neg hx
      by_cases h6' : Kh351.STRIPS ≤ a.strips.length
      · rw [if_pos h6']
        exact ⟨_, rfl, rfl, _, rfl, iteT ⟨_, rfl, (by show 1 ≤ sizeLine; decide), fun q hq => k.no (e0.trans (if_pos h6')) hC hq⟩⟩
      · rw [if_neg h6']
        have h7 : a.strips.length < 6 := Nat.lt_of_not_le h6'
        refine ⟨_, rfl, rfl, _, rfl, iteF ?_⟩
        refine ⟨_, rfl, _, _, _, _, _, rfl, C.at_, T.cl_Carpet, T.f_Carpet_strips, cf_strips, a0, _, rfl, .inl (SqL.of hl), ?_⟩
        refine ⟨_, rfl, p, dx, _, rfl, C.at_, rfl, _, rfl, _, _, _, _, _, rfl, C.at_, T.cl_Carpet, T.f_Carpet_repeat, cf_repeat, _, rfl, _, _, _, _, _, rfl, C.at_, T.cl_Carpet, T.f_Carpet_strips, cf_strips, _, rfl, _, rfl, fun x dxx nx ndx ne => ⟨x, dxx, l, b, rfl, upd_same, fun H1 hx1 k1 => ⟨rfl, (by show 1 ≤ sizeLine; decide), fun q hq => ?_⟩⟩⟩
        have s1 : Same H H1 := made_piece nx ndx k1
        have s2 := s1.trans (Same.upd (o := .lst [.ref x]) hq)
        refine ⟨a0, q, _, _, rfl, rfl, s2 _ _ hl, upd_same, (by rw [List.length_map, hlen]; exact Nat.le_trans (Nat.add_le_add_right (Nat.le_of_lt h7) 1) (by decide)), fun n hn => ?_⟩
        have s3 := s2.trans (Same.upd (o := .lst (as.map V.ref ++ [.ref x])) hn)
        have C3 := C.mono s3
        refine ⟨_, rfl, _, _, _, _, _, rfl, C3.at_, T.cl_Carpet, T.f_Carpet_rolls, cf_rolls, p, g, n, b0, a, a.repeat_, a.strips ++ [⟨l, b⟩], a.rolls, rfl, hC.mono s3, W.u, (fun e => hg (s3.free e)), ?_, C3.rolls, fun H4 C4 b4 => ?_⟩
        · rw [List.map_append]
          exact add_pieces (l := a0) hP s3 ((hx1.mono (Same.upd hq)).mono (Same.upd hn)) upd_same (fresh_ne hg s2 hn)
        · refine ⟨_, rfl, (by show 1 ≤ sizeLine; decide), fun q4 hq4 => ?_⟩
          rw [List.length_map, hlen]
          exact k.fin _ (e0.trans (if_neg h6')) rfl (xs := [(a.strips.length : Int)]) rfl C4 ((But.of s3).trans b4) hq4
def mkRoll (ws : List V) (c : Kh351.Call) : Prop := ∃ l b : Nat, ws = [.int (l : Int), .int (b : Int)] ∧ c = .roll l b
theorem ok_add_roll (T : Tx A K mg) : FnOk P w K mg base CX0 3 A.a_add_roll A.d_add_roll ["carpet", "long", "begins"] (spC A mkRoll) := by
  refine T.F_add_roll.ok sc_add_roll (fun vs H Q E h => ?_) (fun cdv Ar outer s H vs Q E hr h => ?_)
  · obtain ⟨p, g, a, c, ws, rfl, ⟨l, b, rfl, _⟩, _⟩ := h
    rfl
  · obtain ⟨p, g, a, c, ws, rfl, ⟨l, b, rfl, rfl⟩, hC, W, hg, k⟩ := h
    obtain ⟨dx, a0, b0, c0, ts, C⟩ := id hC
    obtain ⟨hs0, as, hl, hP⟩ := C.rolls
    have hlen : as.length = a.rolls.length := by rw [hP.length]
    refine ⟨_, (pss_cons (ps_if (pt_not (pt_val (pe_call (ok_is_as_told T) (hr.mono (by decide)) rfl T.m_is_as_told T.F_is_as_told.kp T.b_is_as_told .nil pass0 (pa_cons (pv 0) (pa_cons (pv 1) (pa_cons (pv 2) (pa_cons (pe_gint rfl T.c_LONGEST_ROLL) pa_nil))))))) (pss_one (ps_ret (pe_lst (pa_cons (pe_gint rfl T.c_NOT_AS_TOLD) pa_nil)))) pss_nil)
      (pss_cons (ps_set (i := 3) sc_add_roll.nd rfl (Or.inl rfl) (pe_callB call_len_seq (by rfl) T.n_len bt_len (pa_cons (pe_fld (pv 0) rfl) pa_nil)))
      (pss_cons (ps_if (pt_cmpR op_eq (pv 3) (pe_gint rfl T.c_MOST_ROLLS) (nomark _)) (pss_one (ps_ret (pe_lst (pa_cons (pe_gint rfl T.c_NO_ROOM) pa_nil)))) pss_nil)
      (pss_cons (ps_expr (pe_meth (pv 0) T.cl_Carpet T.me_Carpet_change (ok_Carpet_change T) (hr.mono (by decide)) T.b_Carpet_change .nil pass0 (pa_cons (pe_fld (pv 0) rfl) (pa_cons (pe_fld (pv 0) rfl) (pa_cons (pe_op op_cat (pe_fld (pv 0) rfl) (pe_lst (pa_cons (pe_make T.mk_Piece (ok_Piece_init T) (hr.mono (by decide)) rfl T.g_Piece T.b_Piece_init .nil pass0 (pa_cons (pv 1) (pa_cons (pv 2) pa_nil))) pa_nil))) pa_nil)))))
      (pss_one (ps_ret (pe_lst (pa_cons (pv 3) pa_nil)))))))), ?_⟩
    refine ⟨_, rfl, _, rfl, _, rfl, p, dx, a0, b0, c0, a.repeat_, l, b, 10000, rfl, C.at_, _, rfl, ?_⟩
    by_cases hx : 1 ≤ l ∧ l ≤ 10000 ∧ b < a.repeat_
    · rw [decide_eq_true hx]
      refine iteF ?_
      have e0 : Kh351.doing (some a) (.roll l b) = _ := if_neg (show ¬ (l < 1 ∨ 10000 < l ∨ a.repeat_ ≤ b) by omega)
      refine ⟨_, rfl, _, _, _, _, _, rfl, C.at_, T.cl_Carpet, T.f_Carpet_rolls, cf_rolls, b0, _, rfl, .inl (SqL.of hl), ?_⟩
      refine ⟨_, rfl, rfl, _, rfl, ?_⟩
      refine ite2 (fun h6 => ?_) (fun h6 => ?_)
      · have h6' : a.rolls.length = 3 := by
          have := of_decide_eq_true h6
          injection this with this
          rw [List.length_map, hlen] at this
          omega
        exact ⟨by show 1 ≤ sizeLine; decide, fun q hq => k.no (e0.trans (if_pos (show Kh351.ROLLS ≤ a.rolls.length by rw [h6']; decide))) hC hq⟩
      · have h6' : ¬ Kh351.ROLLS ≤ a.rolls.length := fun q => h6 (decide_eq_true (by
          rw [List.length_map, hlen]
          have q1 : 3 ≤ a.rolls.length := q
          have q2 := W.now.l
          rw [show a.rolls.length = 3 by omega]
          rfl))
        have h7 : a.rolls.length < 3 := Nat.lt_of_not_le h6'
        refine ⟨_, rfl, p, dx, _, rfl, C.at_, rfl, _, rfl, _, _, _, _, _, rfl, C.at_, T.cl_Carpet, T.f_Carpet_repeat, cf_repeat, _, rfl, _, _, _, _, _, rfl, C.at_, T.cl_Carpet, T.f_Carpet_strips, cf_strips, _, rfl, _, _, _, _, _, rfl, C.at_, T.cl_Carpet, T.f_Carpet_rolls, cf_rolls, _, rfl, _, rfl, fun x dxx nx ndx ne => ⟨x, dxx, l, b, rfl, upd_same, fun H1 hx1 k1 => ⟨rfl, (by show 1 ≤ sizeLine; decide), fun q hq => ?_⟩⟩⟩
        have s1 : Same H H1 := made_piece nx ndx k1
        have s2 := s1.trans (Same.upd (o := .lst [.ref x]) hq)
        refine ⟨b0, q, _, _, rfl, rfl, s2 _ _ hl, upd_same, (by rw [List.length_map, hlen]; exact Nat.le_trans (Nat.add_le_add_right (Nat.le_of_lt h7) 1) (by decide)), fun n hn => ?_⟩
        have s3 := s2.trans (Same.upd (o := .lst (as.map V.ref ++ [.ref x])) hn)
        have C3 := C.mono s3
        refine ⟨p, g, a0, n, a, a.repeat_, a.strips, a.rolls ++ [(l, b)], rfl, hC.mono s3, W.u, (fun e => hg (s3.free e)), C3.strips, ?_, fun H4 C4 b4 => ?_⟩
        · exact add_pieces (l := b0) hP s3 ((hx1.mono (Same.upd hq)).mono (Same.upd hn)) upd_same (fresh_ne hg s2 hn)
        · refine ⟨_, rfl, (by show 1 ≤ sizeLine; decide), fun q4 hq4 => ?_⟩
          rw [List.length_map, hlen]
          exact k.fin _ (e0.trans (if_neg h6')) rfl (xs := [(a.rolls.length : Int)]) rfl C4 ((But.of s3).trans b4) hq4
    · rw [decide_eq_false hx]
      exact iteT ⟨by show 1 ≤ sizeLine; decide, fun q hq => k.no (if_pos (show l < 1 ∨ 10000 < l ∨ a.repeat_ ≤ b by omega)) hC hq⟩
end
end PM

end

section
set_option Elab.async false
set_option linter.all false
set_option maxRecDepth 100000
set_option maxHeartbeats 2000000
namespace PM
open PySem PySem.Spec PyProof.Rows L2
open Kh351 (Abs Strip)
section
variable {P : Program} {w : World} {K : PySem.W.Frag} {mg : Str → Option Value} {base : Heap} {A : Ad}
theorem cut_ends (as : List Addr) (i : Nat) : cutV (as.map V.ref) none (some (i : Int)) ++ cutV (as.map V.ref) (some ((i : Int) + 1)) none = (as.eraseIdx i).map V.ref := by
  rw [cut_to_nat, show ((i : Int) + 1) = ((i + 1 : Nat) : Int) from rfl, cut_from_nat, List.eraseIdx_eq_take_drop_succ, List.map_append, List.map_take, List.map_drop]
theorem paired_erase {R : Addr → Nat × Nat → Prop} {as : List Addr} {xs : List (Nat × Nat)} (h : Paired R as xs) (i : Nat) : Paired R (as.eraseIdx i) (xs.eraseIdx i) := by
  rw [List.eraseIdx_eq_take_drop_succ, List.eraseIdx_eq_take_drop_succ]
  exact Paired.app (Paired.tak i h) (Paired.drp (i + 1) h)
theorem map_eraseIdx {α β : Type} (f : α → β) (l : List α) (i : Nat) : (l.eraseIdx i).map f = (l.map f).eraseIdx i := by
  rw [List.eraseIdx_eq_take_drop_succ, List.eraseIdx_eq_take_drop_succ, List.map_append, List.map_take, List.map_drop]
def mkDrop (ws : List V) (c : Kh351.Call) : Prop := ∃ i : Nat, ws = [.int (i : Int)] ∧ c = .drop i
theorem ok_drop_strip (T : Tx A K mg) : FnOk P w K mg base CX0 2 A.a_drop_strip A.d_drop_strip ["carpet", "i"] (spC A mkDrop) := by
  refine T.F_drop_strip.ok sc_drop_strip (fun vs H Q E h => ?_) (fun cdv Ar outer s H vs Q E hr h => ?_)
  · obtain ⟨p, g, a, c, ws, rfl, ⟨i, rfl, _⟩, _⟩ := h
    rfl
  · obtain ⟨p, g, a, c, ws, rfl, ⟨i, rfl, rfl⟩, hC, W, hg, k⟩ := h
    obtain ⟨dx, a0, b0, c0, ts, C⟩ := id hC
    obtain ⟨hs0, as, hl, hP⟩ := C.strips
    have hlen : as.length = a.strips.length := by rw [hP.length, List.length_map]
    refine ⟨_, (pss_cons (ps_if (pt_cmpR op_ge (pv 1) (pe_callB call_len_seq (by rfl) T.n_len bt_len (pa_cons (pe_fld (pv 0) rfl) pa_nil)) (nomark _)) (pss_one (ps_ret (pe_lst (pa_cons (pe_gint rfl T.c_NO_SUCH) pa_nil)))) pss_nil)
      (pss_cons (ps_set (i := 2) sc_drop_strip.nd rfl (Or.inl rfl) (pe_op op_cat (pe_slice sl_list (pe_fld (pv 0) rfl) po_none (po_some (pv 1))) (pe_slice sl_list (pe_fld (pv 0) rfl) (po_some (pe_op op_add (pv 1) pe_int)) po_none)))
      (pss_cons (ps_expr (pe_meth (pv 0) T.cl_Carpet T.me_Carpet_change (ok_Carpet_change T) (hr.mono (by decide)) T.b_Carpet_change .nil pass0 (pa_cons (pe_fld (pv 0) rfl) (pa_cons (pv 2) (pa_cons (pe_fld (pv 0) rfl) pa_nil)))))
      (pss_one (ps_ret (pe_lst (pa_cons (pe_callB call_len_seq (by rfl) T.n_len bt_len (pa_cons (pv 2) pa_nil)) pa_nil))))))), ?_⟩
    refine ⟨_, rfl, _, rfl, _, _, _, _, _, rfl, C.at_, T.cl_Carpet, T.f_Carpet_strips, cf_strips, a0, _, rfl, .inl (SqL.of hl), _, _, rfl, rfl, _, rfl, ite2 (fun h => ?_) (fun h => ?_)⟩
    · have h1 := of_decide_eq_true h
      rw [List.length_map, hlen] at h1
      exact ⟨by show 1 ≤ sizeLine; decide, fun q hq => k.no (if_pos (show a.strips.length ≤ i by omega)) hC hq⟩
    · have h1 : ¬ a.strips.length ≤ i := fun q => h (decide_eq_true (by rw [List.length_map, hlen]; omega))
      refine ⟨_, rfl, _, _, _, _, _, rfl, C.at_, T.cl_Carpet, T.f_Carpet_strips, cf_strips, _, rfl, _, rfl, a0, _, rfl, SqL.of hl, fun q1 hq1 => ?_⟩
      have s1 := Same.upd (o := .lst (cutV (as.map V.ref) none (some (i : Int)))) hq1
      have C1 := C.mono s1
      refine ⟨_, rfl, _, _, _, _, _, rfl, C1.at_, T.cl_Carpet, T.f_Carpet_strips, cf_strips, _, rfl, _, _, rfl, rfl, _, rfl, a0, _, rfl, SqL.of (s1 _ _ hl), fun q2 hq2 => ?_⟩
      have s2' := Same.upd (o := .lst (cutV (as.map V.ref) (some ((i : Int) + 1)) none)) hq2
      have s2 := s1.trans s2'
      have hn6 : (cutV (as.map V.ref) none (some (i : Int)) ++ cutV (as.map V.ref) (some ((i : Int) + 1)) none).length = a.strips.length - 1 := by
        rw [cut_ends, List.length_map, List.length_eraseIdx_of_lt (by omega), hlen]
      have W6 := W.now.s
      refine ⟨q1, q2, _, _, rfl, rfl, s2' _ _ upd_same, upd_same, (by rw [← List.length_append, hn6]; exact Nat.le_trans (show a.strips.length - 1 ≤ 6 by omega) (by decide)), fun n hn => ?_⟩
      have s3 := s2.trans (Same.upd (o := .lst (cutV (as.map V.ref) none (some (i : Int)) ++ cutV (as.map V.ref) (some ((i : Int) + 1)) none)) hn)
      have C3 := C.mono s3
      refine ⟨_, rfl, p, dx, _, rfl, C3.at_, rfl, _, rfl, _, _, _, _, _, rfl, C3.at_, T.cl_Carpet, T.f_Carpet_repeat, cf_repeat, _, rfl, _, rfl, _, _, _, _, _, rfl, C3.at_, T.cl_Carpet, T.f_Carpet_rolls, cf_rolls, p, g, n, b0, a, a.repeat_, a.strips.eraseIdx i, a.rolls, rfl, hC.mono s3, W.u, (fun e => hg (s3.free e)), ?_, C3.rolls, fun H4 C4 b4 => ?_⟩
      · rw [map_eraseIdx]
        exact ⟨fresh_ne hg s2 hn, as.eraseIdx i, by rw [upd_same, cut_ends], paired_erase (pimp (fun _ _ q => q.mono s3) hP) i⟩
      · have hn4 := b4.at_ upd_same (ne_of upd_same C3.at_ (by intro z; cases z)) (fun _ z => nomatch z)
        refine ⟨_, rfl, n, _, rfl, .inl (SqL.of hn4), (by show 1 ≤ sizeLine; decide), fun q4 hq4 => ?_⟩
        rw [hn6]
        exact k.fin _ (if_neg h1) rfl (xs := [((a.strips.length - 1 : Nat) : Int)]) rfl C4 ((But.of s3).trans b4) hq4
def mkUnroll (ws : List V) (c : Kh351.Call) : Prop := ∃ i : Nat, ws = [.int (i : Int)] ∧ c = .unroll i
theorem ok_drop_roll (T : Tx A K mg) : FnOk P w K mg base CX0 2 A.a_drop_roll A.d_drop_roll ["carpet", "j"] (spC A mkUnroll) := by
  refine T.F_drop_roll.ok sc_drop_roll (fun vs H Q E h => ?_) (fun cdv Ar outer s H vs Q E hr h => ?_)
  · obtain ⟨p, g, a, c, ws, rfl, ⟨i, rfl, _⟩, _⟩ := h
    rfl
  · obtain ⟨p, g, a, c, ws, rfl, ⟨i, rfl, rfl⟩, hC, W, hg, k⟩ := h
    obtain ⟨dx, a0, b0, c0, ts, C⟩ := id hC
    obtain ⟨hs0, as, hl, hP⟩ := C.rolls
    have hlen : as.length = a.rolls.length := hP.length
    refine ⟨_, (pss_cons (ps_if (pt_cmpR op_ge (pv 1) (pe_callB call_len_seq (by rfl) T.n_len bt_len (pa_cons (pe_fld (pv 0) rfl) pa_nil)) (nomark _)) (pss_one (ps_ret (pe_lst (pa_cons (pe_gint rfl T.c_NO_SUCH) pa_nil)))) pss_nil)
      (pss_cons (ps_set (i := 2) sc_drop_roll.nd rfl (Or.inl rfl) (pe_op op_cat (pe_slice sl_list (pe_fld (pv 0) rfl) po_none (po_some (pv 1))) (pe_slice sl_list (pe_fld (pv 0) rfl) (po_some (pe_op op_add (pv 1) pe_int)) po_none)))
      (pss_cons (ps_expr (pe_meth (pv 0) T.cl_Carpet T.me_Carpet_change (ok_Carpet_change T) (hr.mono (by decide)) T.b_Carpet_change .nil pass0 (pa_cons (pe_fld (pv 0) rfl) (pa_cons (pe_fld (pv 0) rfl) (pa_cons (pv 2) pa_nil)))))
      (pss_one (ps_ret (pe_lst (pa_cons (pe_callB call_len_seq (by rfl) T.n_len bt_len (pa_cons (pv 2) pa_nil)) pa_nil))))))), ?_⟩
    refine ⟨_, rfl, _, rfl, _, _, _, _, _, rfl, C.at_, T.cl_Carpet, T.f_Carpet_rolls, cf_rolls, b0, _, rfl, .inl (SqL.of hl), _, _, rfl, rfl, _, rfl, ite2 (fun h => ?_) (fun h => ?_)⟩
    · have h1 := of_decide_eq_true h
      rw [List.length_map, hlen] at h1
      exact ⟨by show 1 ≤ sizeLine; decide, fun q hq => k.no (if_pos (show a.rolls.length ≤ i by omega)) hC hq⟩
    · have h1 : ¬ a.rolls.length ≤ i := fun q => h (decide_eq_true (by rw [List.length_map, hlen]; omega))
      refine ⟨_, rfl, _, _, _, _, _, rfl, C.at_, T.cl_Carpet, T.f_Carpet_rolls, cf_rolls, _, rfl, _, rfl, b0, _, rfl, SqL.of hl, fun q1 hq1 => ?_⟩
      have s1 := Same.upd (o := .lst (cutV (as.map V.ref) none (some (i : Int)))) hq1
      have C1 := C.mono s1
      refine ⟨_, rfl, _, _, _, _, _, rfl, C1.at_, T.cl_Carpet, T.f_Carpet_rolls, cf_rolls, _, rfl, _, _, rfl, rfl, _, rfl, b0, _, rfl, SqL.of (s1 _ _ hl), fun q2 hq2 => ?_⟩
      have s2' := Same.upd (o := .lst (cutV (as.map V.ref) (some ((i : Int) + 1)) none)) hq2
      have s2 := s1.trans s2'
      have hn6 : (cutV (as.map V.ref) none (some (i : Int)) ++ cutV (as.map V.ref) (some ((i : Int) + 1)) none).length = a.rolls.length - 1 := by
        rw [cut_ends, List.length_map, List.length_eraseIdx_of_lt (by omega), hlen]
      have W6 := W.now.l
      refine ⟨q1, q2, _, _, rfl, rfl, s2' _ _ upd_same, upd_same, (by rw [← List.length_append, hn6]; exact Nat.le_trans (show a.rolls.length - 1 ≤ 6 by omega) (by decide)), fun n hn => ?_⟩
      have s3 := s2.trans (Same.upd (o := .lst (cutV (as.map V.ref) none (some (i : Int)) ++ cutV (as.map V.ref) (some ((i : Int) + 1)) none)) hn)
      have C3 := C.mono s3
      refine ⟨_, rfl, p, dx, _, rfl, C3.at_, rfl, _, rfl, _, _, _, _, _, rfl, C3.at_, T.cl_Carpet, T.f_Carpet_repeat, cf_repeat, _, rfl, _, _, _, _, _, rfl, C3.at_, T.cl_Carpet, T.f_Carpet_strips, cf_strips, _, rfl, p, g, a0, n, a, a.repeat_, a.strips, a.rolls.eraseIdx i, rfl, hC.mono s3, W.u, (fun e => hg (s3.free e)), C3.strips, ?_, fun H4 C4 b4 => ?_⟩
      · exact ⟨fresh_ne hg s2 hn, as.eraseIdx i, by rw [upd_same, cut_ends], paired_erase (pimp (fun _ _ q => q.mono s3) hP) i⟩
      · have hn4 := b4.at_ upd_same (ne_of upd_same C3.at_ (by intro z; cases z)) (fun _ z => nomatch z)
        refine ⟨_, rfl, n, _, rfl, .inl (SqL.of hn4), (by show 1 ≤ sizeLine; decide), fun q4 hq4 => ?_⟩
        rw [hn6]
        exact k.fin _ (if_neg h1) rfl (xs := [((a.rolls.length - 1 : Nat) : Int)]) rfl C4 ((But.of s3).trans b4) hq4
def mkBack (ws : List V) (c : Kh351.Call) : Prop := ws = [] ∧ c = .back
theorem ok_back (T : Tx A K mg) : FnOk P w K mg base CX0 2 A.a_back A.d_back ["carpet"] (spC A mkBack) := by
  refine T.F_back.ok sc_back (fun vs H Q E h => ?_) (fun cdv Ar outer s H vs Q E hr h => ?_)
  · obtain ⟨p, g, a, c, ws, rfl, ⟨rfl, _⟩, _⟩ := h
    rfl
  · obtain ⟨p, g, a, c, ws, rfl, ⟨rfl, rfl⟩, hC, W, hg, k⟩ := h
    obtain ⟨dx, a0, b0, c0, ts, C⟩ := id hC
    have tl : ts.length = a.undo.length := by rw [C.undo.length, List.length_reverse]
    refine ⟨_, (pss_cons (ps_if (pt_cmpR op_eq (pe_callB call_len_seq (by rfl) T.n_len bt_len (pa_cons (pe_fld (pv 0) rfl) pa_nil)) pe_int (nomark _)) (pss_one (ps_ret (pe_lst (pa_cons (pe_gint rfl T.c_NO_SUCH) pa_nil)))) pss_nil)
      (pss_cons (ps_expr (pe_meth0 (pv 0) T.cl_Carpet T.me_Carpet_take_back (ok_Carpet_take_back T) (hr.mono (by decide)) T.b_Carpet_take_back .nil pass0))
      (pss_one (ps_ret (pe_lst (pa_cons (pe_callB call_len_seq (by rfl) T.n_len bt_len (pa_cons (pe_fld (pv 0) rfl) pa_nil)) pa_nil)))))), ?_⟩
    refine ⟨_, rfl, _, _, _, _, _, rfl, C.at_, T.cl_Carpet, T.f_Carpet_past, cf_past, c0, _, rfl, .inl (SqL.of C.past), rfl, _, rfl, ite2 (fun h => ?_) (fun h => ?_)⟩
    · have h1 := of_decide_eq_true h
      injection h1 with h1
      rw [List.length_map, tl] at h1
      have h0 : a.undo = [] := List.length_eq_zero_iff.mp (by omega)
      refine ⟨by show 1 ≤ sizeLine; decide, fun q hq => k.no ?_ hC hq⟩
      show (match a.undo with | x :: u => _ | [] => _) = _
      rw [h0]
    · cases hu : a.undo with
      | nil => exact absurd (decide_eq_true (by rw [List.length_map, tl, hu]; rfl)) h
      | cons x u =>
        refine ⟨_, rfl, p, dx, _, rfl, C.at_, rfl, p, g, a, x, u, rfl, hC, hu, hg, fun H1 C1 b1 => ?_⟩
        obtain ⟨dx1, a1, b1', c1, ts1, D⟩ := id C1
        have tl1 : ts1.length = u.length := by rw [D.undo.length, List.length_reverse]
        refine ⟨_, rfl, _, _, _, _, _, rfl, D.at_, T.cl_Carpet, T.f_Carpet_past, cf_past, c1, _, rfl, .inl (SqL.of D.past), (by show 1 ≤ sizeLine; decide), fun q4 hq4 => ?_⟩
        rw [List.length_map, tl1]
        refine k.fin (some ⟨x.1, x.2.1, x.2.2, u⟩, Kh351.say u.length) ?_ rfl (xs := [(u.length : Int)]) rfl C1 b1 hq4
        show (match a.undo with | x :: u => _ | [] => _) = _
        rw [hu]
end
end PM

end

section
set_option Elab.async false
set_option linter.all false
set_option maxRecDepth 100000
set_option maxHeartbeats 2000000
namespace PM
open PySem PySem.Spec PyProof.Rows L2
open Kh351 (Abs Strip)
section
variable {P : Program} {w : World} {K : PySem.W.Frag} {mg : Str → Option Value} {base : Heap} {A : Ad}
theorem deq_int {i j : Int} : decide (V.int i = V.int j) = true ↔ i = j := by
  rw [decide_eq_true_iff]
  exact ⟨fun h => by injection h, fun h => by rw [h]⟩
theorem dne_int {i j : Int} : (!decide (V.int i = V.int j)) = true ↔ i ≠ j := by
  rw [Bool.not_eq_true', decide_eq_false_iff_not]
  exact ⟨fun h e => h (by rw [e]), fun h e => h (by injection e)⟩
theorem getElem?_pr {a : Abs} {i : Nat} {y : Strip} (h : a.strips[i]? = some y) : (a.strips.map pr)[i]? = some (y.long, y.begins) := by
  rw [List.getElem?_map, h]
  rfl
def mkBegins (ws : List V) (c : Kh351.Call) : Prop := ∃ i x : Nat, ws = [.int (i : Int), .int (x : Int)] ∧ c = .begins i x
theorem ok_set_begins (T : Tx A K mg) : FnOk P w K mg base CX0 3 A.a_set_begins A.d_set_begins ["carpet", "i", "place"] (spC A mkBegins) := by
  refine T.F_set_begins.ok sc_set_begins (fun vs H Q E h => ?_) (fun cdv Ar outer s H vs Q E hr h => ?_)
  · obtain ⟨p, g, a, c, ws, rfl, ⟨i, x, rfl, _⟩, _⟩ := h
    rfl
  · obtain ⟨p, g, a, c, ws, rfl, ⟨i, x, rfl, rfl⟩, hC, W, hg, k⟩ := h
    obtain ⟨dx, a0, b0, c0, ts, C⟩ := id hC
    obtain ⟨hs0, as, hl, hP⟩ := C.strips
    have hlen : as.length = a.strips.length := by rw [hP.length, List.length_map]
    refine ⟨_, (pss_cons (ps_if (pt_cmpR op_ge (pv 1) (pe_callB call_len_seq (by rfl) T.n_len bt_len (pa_cons (pe_fld (pv 0) rfl) pa_nil)) (nomark _)) (pss_one (ps_ret (pe_lst (pa_cons (pe_gint rfl T.c_NO_SUCH) pa_nil)))) pss_nil)
      (pss_cons (ps_if (pt_cmpR op_ge (pv 2) (pe_fld (pv 0) rfl) (nomark _)) (pss_one (ps_ret (pe_lst (pa_cons (pe_gint rfl T.c_NOT_AS_TOLD) pa_nil)))) pss_nil)
      (pss_cons (ps_set (i := 3) sc_set_begins.nd rfl (Or.inl rfl) (pe_ix ix_list (pe_fld (pv 0) rfl) (pv 1) (fun _ _ => rfl)))
      (pss_cons (ps_set (i := 4) sc_set_begins.nd rfl (Or.inl rfl) (pe_op op_cat (pe_op op_cat (pe_slice sl_list (pe_fld (pv 0) rfl) po_none (po_some (pv 1))) (pe_lst (pa_cons (pe_make T.mk_Piece (ok_Piece_init T) (hr.mono (by decide)) rfl T.g_Piece T.b_Piece_init .nil pass0 (pa_cons (pe_fld (pv 3) rfl) (pa_cons (pv 2) pa_nil))) pa_nil))) (pe_slice sl_list (pe_fld (pv 0) rfl) (po_some (pe_op op_add (pv 1) pe_int)) po_none)))
      (pss_cons (ps_expr (pe_meth (pv 0) T.cl_Carpet T.me_Carpet_change (ok_Carpet_change T) (hr.mono (by decide)) T.b_Carpet_change .nil pass0 (pa_cons (pe_fld (pv 0) rfl) (pa_cons (pv 4) (pa_cons (pe_fld (pv 0) rfl) pa_nil)))))
      (pss_one (ps_ret (pe_lst (pa_cons (pe_fld (pv 3) rfl) pa_nil))))))))), ?_⟩
    refine ⟨_, rfl, _, rfl, _, _, _, _, _, rfl, C.at_, T.cl_Carpet, T.f_Carpet_strips, cf_strips, a0, _, rfl, .inl (SqL.of hl), _, _, rfl, rfl, _, rfl, ite2 (fun h => ?_) (fun h => ?_)⟩
    · have h1 := of_decide_eq_true h
      rw [List.length_map, hlen] at h1
      refine ⟨by show 1 ≤ sizeLine; decide, fun q hq => k.no ?_ hC hq⟩
      show (match a.strips[i]? with | none => _ | some y => _) = _
      rw [List.getElem?_eq_none (by omega)]
    · have h1 : i < a.strips.length := by
        refine Nat.lt_of_not_le fun q => h (decide_eq_true ?_)
        rw [List.length_map, hlen]
        omega
      obtain ⟨y, hy⟩ : ∃ y, a.strips[i]? = some y := ⟨_, List.getElem?_eq_getElem h1⟩
      have e0 : Kh351.doing (some a) (.begins i x) = if a.repeat_ ≤ x then (some a, Kh351.say (-22)) else (some (Kh351.keep a { a with strips := a.strips.set i { y with begins := x } }), Kh351.say y.begins) := by
        show (match a.strips[i]? with | none => _ | some y => _) = _
        rw [hy]
      refine ⟨_, rfl, _, rfl, _, _, _, _, _, rfl, C.at_, T.cl_Carpet, T.f_Carpet_repeat, cf_repeat, _, _, rfl, rfl, _, rfl, ite2 (fun h => ?_) (fun h => ?_)⟩
      · have h2 := of_decide_eq_true h
        exact ⟨by show 1 ≤ sizeLine; decide, fun q hq => k.no (e0.trans (if_pos (by omega))) hC hq⟩
      · have h2 : ¬ a.repeat_ ≤ x := fun q => h (decide_eq_true (by omega))
        obtain ⟨ad, had, dy, hpy⟩ := Paired.get hP (getElem?_pr hy)
        have h6 : (as.map V.ref).length ≤ 6 := by rw [List.length_map, hlen]; exact W.now.s
        refine ⟨_, rfl, _, _, _, _, _, rfl, C.at_, T.cl_Carpet, T.f_Carpet_strips, cf_strips, _, rfl, a0, _, _, _, rfl, rfl, SqL.of hl, atI_nat (v := V.ref ad) (by rw [List.getElem?_map, had]; rfl), ?_⟩
        refine ⟨_, rfl, _, _, _, _, _, rfl, C.at_, T.cl_Carpet, T.f_Carpet_strips, cf_strips, _, rfl, _, rfl, a0, _, rfl, SqL.of hl, fun q1 hq1 => ?_⟩
        have s1 := Same.upd (o := .lst (cutV (as.map V.ref) none (some (i : Int)))) hq1
        refine ⟨_, rfl, _, _, _, _, _, rfl, (s1 _ _ hpy), T.cl_Piece, T.f_Piece_long, pf_long, _, rfl, fun z dz nz ndz ne => ⟨z, dz, y.long, x, rfl, upd_same, fun H2 hz k2 => ⟨rfl, (by show 1 ≤ sizeLine; decide), fun q3 hq3 => ?_⟩⟩⟩
        have s2 : Same H H2 := s1.trans (made_piece nz ndz k2)
        have s3' := Same.upd (o := .lst [.ref z]) hq3
        have s3 := s2.trans s3'
        refine ⟨q1, q3, _, _, rfl, rfl, s3' _ _ (made_piece nz ndz k2 _ _ upd_same), upd_same, Nat.le_trans (Nat.add_le_add (cutV_length _ _ _) (Nat.le_refl 1)) (Nat.le_trans (Nat.add_le_add h6 (Nat.le_refl 1)) (by decide)), fun q4 hq4 => ?_⟩
        have s4' := Same.upd (o := .lst (cutV (as.map V.ref) none (some (i : Int)) ++ [.ref z])) hq4
        have s4 := s3.trans s4'
        have C4 := C.mono s4
        refine ⟨_, rfl, _, _, _, _, _, rfl, C4.at_, T.cl_Carpet, T.f_Carpet_strips, cf_strips, _, rfl, _, _, rfl, rfl, _, rfl, a0, _, rfl, SqL.of (s4 _ _ hl), fun q5 hq5 => ?_⟩
        have s5' := Same.upd (o := .lst (cutV (as.map V.ref) (some ((i : Int) + 1)) none)) hq5
        have s5 := s4.trans s5'
        have l5 := cutV_length (as.map V.ref) none (some (i : Int))
        have l6 := cutV_length (as.map V.ref) (some ((i : Int) + 1)) none
        refine ⟨q4, q5, _, _, rfl, rfl, s5' _ _ upd_same, upd_same, (by rw [List.length_append]; exact Nat.le_trans (show _ + 1 + _ ≤ 13 by omega) (by decide)), fun n hn => ?_⟩
        have s6' := Same.upd (o := .lst (cutV (as.map V.ref) none (some (i : Int)) ++ [.ref z] ++ cutV (as.map V.ref) (some ((i : Int) + 1)) none)) hn
        have s6 := s5.trans s6'
        have C6 := C.mono s6
        have hz6 := ((((hz.mono s3').mono s4').mono s5').mono s6')
        refine ⟨_, rfl, p, dx, _, rfl, C6.at_, rfl, _, rfl, _, _, _, _, _, rfl, C6.at_, T.cl_Carpet, T.f_Carpet_repeat, cf_repeat, _, rfl, _, rfl, _, _, _, _, _, rfl, C6.at_, T.cl_Carpet, T.f_Carpet_rolls, cf_rolls, p, g, n, b0, a, a.repeat_, a.strips.set i { y with begins := x }, a.rolls, rfl, hC.mono s6, W.u, (fun e => hg (s6.free e)), ?_, C6.rolls, fun H7 C7 b7 => ?_⟩
        · refine ⟨fresh_ne hg s5 hn, as.take i ++ [z] ++ as.drop (i + 1), ?_, ?_⟩
          · rw [upd_same, cut_to_nat, show ((i : Int) + 1) = ((i + 1 : Nat) : Int) from rfl, cut_from_nat, List.map_append, List.map_append, List.map_take, List.map_drop]
            rfl
          · rw [List.set_eq_take_append_cons_drop, if_pos h1, List.map_append, List.map_cons, List.map_take, List.map_drop]
            have hP6 := pimp (fun _ _ q => PieceAt.mono s6 q) hP
            exact (List.append_assoc (as.take i) [z] (as.drop (i + 1))).symm ▸ Paired.app (Paired.tak i hP6) (.cons hz6 (Paired.drp (i + 1) hP6))
        · have hpy7 := b7.at_ (s6 _ _ hpy) (ne_of hpy C.at_ (by intro z; injection z with z; exact T.ne_Piece_Carpet z)) (fun _ z => nomatch z)
          refine ⟨_, rfl, _, _, _, _, _, rfl, hpy7, T.cl_Piece, T.f_Piece_begins, pf_begins, (by show 1 ≤ sizeLine; decide), fun q8 hq8 => ?_⟩
          exact k.fin _ (e0.trans (if_neg h2)) rfl (xs := [(y.begins : Int)]) rfl C7 ((But.of s6).trans b7) hq8
/-- places_left: of each place what's left by the repeat -/
def spLeft (A : Ad) : Sp := fun vs H Q _ => ∃ (l g : Addr) (xs : List (Nat × Nat)) (r : Nat), vs = [.ref l, .int (r : Int)] ∧ PiecesAt A H g l xs ∧ xs.length ≤ 100 ∧ 0 < r ∧ H g ≠ none ∧
  ∀ (H' : Hp) (q : Addr), Same H H' → PiecesAt A H' g q (xs.map fun x => (x.1, x.2 % r)) → Q (.ref q) H'
theorem ok_places_left (T : Tx A K mg) : FnOk P w K mg base CX0 3 A.a_places_left A.d_places_left ["pieces", "repeat"] (spLeft A) := by
  refine T.F_places_left.ok sc_places_left (fun vs H Q E h => ?_) (fun cdv Ar outer s H vs Q E hr h => ?_)
  · obtain ⟨l, g, xs, r, rfl, _⟩ := h
    rfl
  · obtain ⟨l, g, xs, r, rfl, ⟨n0, as, hl, hP⟩, h100, hr0, hg, k⟩ := h
    have hlen := hP.length
    refine ⟨_, (pss_one (ps_ret (pe_lc (own := [("piece", 2)]) (te := (tMake A.k_Piece (spPieceInit A) [] E0 (tCons (tFld K (tVar 2) "long") (tCons (tOp (rI (fun _ j => 0 < j) fun i j => .int (i % j)) (tFld K (tVar 2) "begins") (tVar 1)) tNil)))) (tt := tYes) rfl sc_places_left.nd (pi_list (pv 0)) (show BlkOk ["pieces", "repeat", "piece"] (defScope s_places_left) _ [("piece", 2)] from ⟨rfl, by decide +kernel, by decide +kernel, by decide +kernel, by decide +kernel⟩) (fun _ _ _ _ _ => (pg_name (i := 2) sc_places_left.nd rfl (Or.inl rfl))) (fun _ _ _ _ _ => pts_nil) (fun _ _ _ _ _ => (pe_make T.mk_Piece (ok_Piece_init T) (hr.mono (by decide)) rfl T.g_Piece T.b_Piece_init .nil pass0 (pa_cons (pe_fld (pv 2) rfl) (pa_cons (pe_op op_mod (pe_fld (pv 2) rfl) (pv 1)) pa_nil))))))), ?_⟩
    refine ⟨_, rfl, l, rfl, ⟨_, SqL.of hl⟩, fun D hD => ?_⟩
    refine lc_list (K := K) (a := l) (xs := as.map V.ref) (fun i H' => Same H H' ∧ ∃ bs : List Addr, H' D = some (.lst (bs.map V.ref)) ∧ Paired (PieceAt A H') bs ((xs.take i).map fun x => (x.1, x.2 % r)))
      ⟨Same.upd hD, [], upd_same, .nil⟩ (fun i H' _ ⟨s1, _⟩ => SqL.of (s1 _ _ hl)) ?_ ?_
    · rintro i y H' hi ⟨s1, bs, hD1, hB⟩
      rw [List.getElem?_map] at hi
      obtain ⟨ad, had, rfl⟩ : ∃ ad, as[i]? = some ad ∧ y = V.ref ad := by
        cases e : as[i]? with
        | none => rw [e] at hi; cases hi
        | some ad => rw [e] at hi; exact ⟨ad, rfl, (Option.some.inj hi).symm⟩
      have hilt : i < xs.length := by rw [← hlen]; exact (List.getElem?_eq_some_iff.mp had).1
      obtain ⟨x, hx⟩ : ∃ x, xs[i]? = some x := ⟨_, List.getElem?_eq_getElem hilt⟩
      obtain ⟨ad', had', dy, hpy⟩ := Paired.get hP hx
      obtain rfl : ad' = ad := Option.some.inj (had'.symm.trans had)
      refine ⟨rfl, ?_⟩
      dsimp only [tYes]
      rw [if_pos rfl]
      refine ⟨_, rfl, _, _, _, _, _, rfl, (s1 _ _ hpy), T.cl_Piece, T.f_Piece_long, pf_long, _, rfl, _, _, _, _, _, rfl, (s1 _ _ hpy), T.cl_Piece, T.f_Piece_begins, pf_begins, _, rfl, _, _, rfl, rfl, (by show (0 : Int) < r; omega), fun z dz nz ndz ne => ⟨z, dz, x.1, x.2 % r, rfl, upd_same, fun H2 hz k2 => ⟨rfl, ?_⟩⟩⟩
      have s2 := made_piece nz ndz k2
      refine ⟨_, s2 _ _ hD1, ?_, fun b o e => ?_, bs ++ [z], by rw [upd_same, List.map_append]; rfl, ?_⟩
      · rw [List.length_map, hB.length, List.length_map, List.length_take]
        exact Nat.lt_of_le_of_lt (show min i xs.length ≤ 100 by omega) (by decide)
      · rw [upd_ne (ne_of_none e hD)]
        exact s2 _ _ (s1 _ _ e)
      · rw [List.take_add_one, hx, List.map_append]
        exact Paired.app (pimp (fun _ _ q => PieceAt.wr (s2 _ _ hD1) (q.mono s2)) hB) (.cons (PieceAt.wr (s2 _ _ hD1) hz) .nil)
    · rintro H' ⟨s1, bs, hD1, hB⟩
      rw [List.length_map, hlen, List.take_length] at hB
      exact k H' D s1 ⟨fun e => hg (e ▸ hD), bs, hD1, hB⟩
/-- moved_on: each place so much further on -/
def spMoved (A : Ad) : Sp := fun vs H Q _ => ∃ (l g : Addr) (xs : List (Nat × Nat)) (by_ r : Nat), vs = [.ref l, .int (by_ : Int), .int (r : Int)] ∧ PiecesAt A H g l xs ∧ xs.length ≤ 100 ∧ 0 < r ∧ H g ≠ none ∧
  ∀ (H' : Hp) (q : Addr), Same H H' → PiecesAt A H' g q (xs.map fun x => (x.1, (x.2 + by_) % r)) → Q (.ref q) H'
theorem ok_moved_on (T : Tx A K mg) : FnOk P w K mg base CX0 3 A.a_moved_on A.d_moved_on ["pieces", "by", "repeat"] (spMoved A) := by
  refine T.F_moved_on.ok sc_moved_on (fun vs H Q E h => ?_) (fun cdv Ar outer s H vs Q E hr h => ?_)
  · obtain ⟨l, g, xs, by_, r, rfl, _⟩ := h
    rfl
  · obtain ⟨l, g, xs, by_, r, rfl, ⟨n0, as, hl, hP⟩, h100, hr0, hg, k⟩ := h
    have hlen := hP.length
    refine ⟨_, (pss_one (ps_ret (pe_lc (own := [("piece", 3)]) (te := (tMake A.k_Piece (spPieceInit A) [] E0 (tCons (tFld K (tVar 3) "long") (tCons (tOp (rI (fun _ j => 0 < j) fun i j => .int (i % j)) (tOp (rI0 fun i j => .int (i + j)) (tFld K (tVar 3) "begins") (tVar 1)) (tVar 2)) tNil)))) (tt := tYes) rfl sc_moved_on.nd (pi_list (pv 0)) (show BlkOk ["pieces", "by", "repeat", "piece"] (defScope s_moved_on) _ [("piece", 3)] from ⟨rfl, by decide +kernel, by decide +kernel, by decide +kernel, by decide +kernel⟩) (fun _ _ _ _ _ => (pg_name (i := 3) sc_moved_on.nd rfl (Or.inl rfl))) (fun _ _ _ _ _ => pts_nil) (fun _ _ _ _ _ => (pe_make T.mk_Piece (ok_Piece_init T) (hr.mono (by decide)) rfl T.g_Piece T.b_Piece_init .nil pass0 (pa_cons (pe_fld (pv 3) rfl) (pa_cons (pe_op op_mod (pe_op op_add (pe_fld (pv 3) rfl) (pv 1)) (pv 2)) pa_nil))))))), ?_⟩
    refine ⟨_, rfl, l, rfl, ⟨_, SqL.of hl⟩, fun D hD => ?_⟩
    refine lc_list (K := K) (a := l) (xs := as.map V.ref) (fun i H' => Same H H' ∧ ∃ bs : List Addr, H' D = some (.lst (bs.map V.ref)) ∧ Paired (PieceAt A H') bs ((xs.take i).map fun x => (x.1, (x.2 + by_) % r)))
      ⟨Same.upd hD, [], upd_same, .nil⟩ (fun i H' _ ⟨s1, _⟩ => SqL.of (s1 _ _ hl)) ?_ ?_
    · rintro i y H' hi ⟨s1, bs, hD1, hB⟩
      rw [List.getElem?_map] at hi
      obtain ⟨ad, had, rfl⟩ : ∃ ad, as[i]? = some ad ∧ y = V.ref ad := by
        cases e : as[i]? with
        | none => rw [e] at hi; cases hi
        | some ad => rw [e] at hi; exact ⟨ad, rfl, (Option.some.inj hi).symm⟩
      have hilt : i < xs.length := by rw [← hlen]; exact (List.getElem?_eq_some_iff.mp had).1
      obtain ⟨x, hx⟩ : ∃ x, xs[i]? = some x := ⟨_, List.getElem?_eq_getElem hilt⟩
      obtain ⟨ad', had', dy, hpy⟩ := Paired.get hP hx
      obtain rfl : ad' = ad := Option.some.inj (had'.symm.trans had)
      refine ⟨rfl, ?_⟩
      dsimp only [tYes]
      rw [if_pos rfl]
      refine ⟨_, rfl, _, _, _, _, _, rfl, (s1 _ _ hpy), T.cl_Piece, T.f_Piece_long, pf_long, _, rfl, _, _, _, _, _, rfl, (s1 _ _ hpy), T.cl_Piece, T.f_Piece_begins, pf_begins, _, rfl, _, _, rfl, rfl, _, rfl, _, _, rfl, rfl, (by show (0 : Int) < r; omega), fun z dz nz ndz ne => ⟨z, dz, x.1, (x.2 + by_) % r, rfl, upd_same, fun H2 hz k2 => ⟨rfl, ?_⟩⟩⟩
      have s2 := made_piece nz ndz k2
      refine ⟨_, s2 _ _ hD1, ?_, fun b o e => ?_, bs ++ [z], by rw [upd_same, List.map_append]; rfl, ?_⟩
      · rw [List.length_map, hB.length, List.length_map, List.length_take]
        exact Nat.lt_of_le_of_lt (show min i xs.length ≤ 100 by omega) (by decide)
      · rw [upd_ne (ne_of_none e hD)]
        exact s2 _ _ (s1 _ _ e)
      · rw [List.take_add_one, hx, List.map_append]
        exact Paired.app (pimp (fun _ _ q => PieceAt.wr (s2 _ _ hD1) (q.mono s2)) hB) (.cons (PieceAt.wr (s2 _ _ hD1) hz) .nil)
    · rintro H' ⟨s1, bs, hD1, hB⟩
      rw [List.length_map, hlen, List.take_length] at hB
      exact k H' D s1 ⟨fun e => hg (e ▸ hD), bs, hD1, hB⟩
def spGoes : Sp := fun vs H Q _ => ∃ r m : Nat, vs = [.int (r : Int), .int (m : Int)] ∧ Q (.bl (decide (r ≠ 0 ∧ m % r = 0))) H
theorem ok_goes_into (T : Tx A K mg) : FnOk P w K mg base CX0 1 A.a_goes_into A.d_goes_into ["r", "repeat"] spGoes := by
  refine T.F_goes_into.ok sc_goes_into (fun vs H Q E h => ?_) (fun cdv Ar outer s H vs Q E hr h => ?_)
  · obtain ⟨r, m, rfl, _⟩ := h
    rfl
  · obtain ⟨r, m, rfl, k⟩ := h
    refine ⟨_, (pss_one (ps_ret (pe_and (pe_cmpR op_ne (pv 0) pe_int (nomark _)) (pe_one (pe_cmpR op_eq (pe_op op_mod (pv 1) (pv 0)) pe_int (nomark _)))))), ?_⟩
    refine ⟨_, rfl, rfl, _, rfl, ite2 (fun h => ?_) (fun h => ?_)⟩
    · have h0 : r ≠ 0 := fun q => dne_int.mp h (by rw [q]; rfl)
      refine ⟨_, rfl, _, rfl, _, _, rfl, rfl, (by show (0 : Int) < r; omega), rfl, ?_⟩
      have e : decide (V.int ((m : Int) % (r : Int)) = V.int 0) = decide (r ≠ 0 ∧ m % r = 0) := by
        rw [Bool.eq_iff_iff, deq_int, decide_eq_true_iff]
        have : ((m % r : Nat) : Int) = (m : Int) % (r : Int) := Int.natCast_emod m r
        omega
      rw [← e] at k
      exact k
    · have h0 : r = 0 := Decidable.byContradiction fun q => h (dne_int.mpr (by omega))
      rw [decide_eq_false (fun q => q.1 h0)] at k
      exact k
def mkPattern (ws : List V) (c : Kh351.Call) : Prop := ∃ r : Nat, ws = [.int (r : Int)] ∧ c = .pattern r
theorem ok_set_pattern (T : Tx A K mg) : FnOk P w K mg base CX0 4 A.a_set_pattern A.d_set_pattern ["carpet", "repeat"] (spC A mkPattern) := by
  refine T.F_set_pattern.ok sc_set_pattern (fun vs H Q E h => ?_) (fun cdv Ar outer s H vs Q E hr h => ?_)
  · obtain ⟨p, g, a, c, ws, rfl, ⟨r, rfl, _⟩, _⟩ := h
    rfl
  · obtain ⟨p, g, a, c, ws, rfl, ⟨r, rfl, rfl⟩, hC, W, hg, k⟩ := h
    obtain ⟨dx, a0, b0, c0, ts, C⟩ := id hC
    refine ⟨_, (pss_cons (ps_set (i := 2) sc_set_pattern.nd rfl (Or.inl rfl) (pe_fld (pv 0) rfl))
      (pss_cons (ps_if (pt_not (pt_val (pe_call (ok_goes_into T) (hr.mono (by decide)) rfl T.m_goes_into T.F_goes_into.kp T.b_goes_into .nil pass0 (pa_cons (pv 1) (pa_cons (pv 2) pa_nil))))) (pss_one (ps_ret (pe_lst (pa_cons (pe_gint rfl T.c_NOT_AS_TOLD) pa_nil)))) pss_nil)
      (pss_cons (ps_expr (pe_meth (pv 0) T.cl_Carpet T.me_Carpet_change (ok_Carpet_change T) (hr.mono (by decide)) T.b_Carpet_change .nil pass0 (pa_cons (pv 1) (pa_cons (pe_call (ok_places_left T) (hr.mono (by decide)) rfl T.m_places_left T.F_places_left.kp T.b_places_left .nil pass0 (pa_cons (pe_fld (pv 0) rfl) (pa_cons (pv 1) pa_nil))) (pa_cons (pe_call (ok_places_left T) (hr.mono (by decide)) rfl T.m_places_left T.F_places_left.kp T.b_places_left .nil pass0 (pa_cons (pe_fld (pv 0) rfl) (pa_cons (pv 1) pa_nil))) pa_nil)))))
      (pss_one (ps_ret (pe_lst (pa_cons (pv 2) pa_nil))))))), ?_⟩
    refine ⟨_, rfl, _, _, _, _, _, rfl, C.at_, T.cl_Carpet, T.f_Carpet_repeat, cf_repeat, _, rfl, _, rfl, r, a.repeat_, rfl, _, rfl, ?_⟩
    by_cases hx : r < 1 ∨ a.repeat_ % r ≠ 0
    · rw [decide_eq_false (show ¬ (r ≠ 0 ∧ a.repeat_ % r = 0) by omega)]
      exact iteT ⟨by show 1 ≤ sizeLine; decide, fun q hq => k.no (if_pos hx) hC hq⟩
    · rw [decide_eq_true (show r ≠ 0 ∧ a.repeat_ % r = 0 by omega)]
      refine iteF ?_
      refine ⟨_, rfl, p, dx, _, rfl, C.at_, rfl, _, rfl, _, rfl, _, _, _, _, _, rfl, C.at_, T.cl_Carpet, T.f_Carpet_strips, cf_strips, _, rfl, a0, g, _, r, rfl, C.strips, (by rw [List.length_map]; exact Nat.le_trans W.now.s (by decide)), by omega, hg, fun H1 q1 s1 P1 => ?_⟩
      have C1 := C.mono s1
      refine ⟨_, rfl, _, _, _, _, _, rfl, C1.at_, T.cl_Carpet, T.f_Carpet_rolls, cf_rolls, _, rfl, b0, g, _, r, rfl, C1.rolls, Nat.le_trans W.now.l (by decide), by omega, (fun e => hg (s1.free e)), fun H2 q2 s2' P2 => ?_⟩
      have s2 := s1.trans s2'
      refine ⟨p, g, q1, q2, a, r, a.strips.map fun s => { s with begins := s.begins % r }, a.rolls.map fun x => (x.1, x.2 % r), rfl, hC.mono s2, W.u, (fun e => hg (s2.free e)), ?_, P2, fun H3 C3 b3 => ?_⟩
      · have := P1.mono s2'
        rw [List.map_map] at this ⊢
        exact this
      · refine ⟨_, rfl, (by show 1 ≤ sizeLine; decide), fun q4 hq4 => ?_⟩
        exact k.fin _ (if_neg hx) rfl (xs := [(a.repeat_ : Int)]) rfl C3 ((But.of s2).trans b3) hq4
end
end PM

end

section
set_option Elab.async false
set_option linter.all false
set_option maxRecDepth 100000
set_option maxHeartbeats 2000000
namespace PM
open PySem PySem.Spec PyProof.Rows L2
open Kh351 (Abs Strip)
/-- whole numbers as values -/
def iv (l : List Nat) : List V := l.map fun (i : Nat) => V.int (i : Int)
theorem iv_len (l : List Nat) : (iv l).length = l.length := List.length_map ..
theorem iv_app (l m : List Nat) : iv (l ++ m) = iv l ++ iv m := List.map_append ..
theorem iv_ints (os : List Nat) : iv os = (os.map fun (i : Nat) => (i : Int)).map V.int := by
  unfold iv
  rw [List.map_map]
  rfl
theorem iv_get {l : List Nat} {k : Nat} {v : V} (h : (iv l)[k]? = some v) : ∃ i, l[k]? = some i ∧ v = V.int (i : Int) := by
  unfold iv at h
  rw [List.getElem?_map] at h
  cases e : l[k]? with
  | none => rw [e] at h; cases h
  | some i => rw [e] at h; exact ⟨i, rfl, (Option.some.inj h).symm⟩
theorem stripAt_get {a : Abs} {i : Nat} (h : i < a.strips.length) : a.strips[i]? = some (stripAt a i) := by
  unfold stripAt
  rw [List.getD_eq_getElem?_getD, List.getElem?_eq_getElem h]
  rfl
section
variable {P : Program} {w : World} {K : PySem.W.Frag} {mg : Str → Option Value} {base : Heap} {A : Ad}
def spGapAhead (A : Ad) : Sp := fun vs H Q _ => ∃ (f r : Nat) (s : Addr) (x : Nat × Nat), vs = [.int (f : Int), .ref s, .int (r : Int)] ∧ PieceAt A H s x ∧ 0 < r ∧ Q (.int ((Kh351.gap r f (x.2 % r) : Nat) : Int)) H
theorem ok_gap_ahead (T : Tx A K mg) : FnOk P w K mg base CX0 1 A.a_gap_ahead A.d_gap_ahead ["place", "strip", "repeat"] (spGapAhead A) := by
  refine T.F_gap_ahead.ok sc_gap_ahead (fun vs H Q E h => ?_) (fun cdv Ar outer s H vs Q E hr h => ?_)
  · obtain ⟨f, r, s, x, rfl, _⟩ := h
    rfl
  · obtain ⟨f, r, s, x, rfl, ⟨dx, hp⟩, h0, k⟩ := h
    refine ⟨_, (pss_one (ps_ret (pe_op op_mod (pe_op op_sub (pe_fld (pv 1) rfl) (pv 0)) (pv 2)))), ?_⟩
    refine ⟨_, rfl, _, _, _, _, _, rfl, hp, T.cl_Piece, T.f_Piece_begins, pf_begins, _, rfl, _, _, rfl, rfl, _, rfl, _, _, rfl, rfl, (by show (0 : Int) < r; omega), ?_⟩
    rw [gap_int_mod h0] at k
    exact k
/-- the strips of an order lie there -/
def spOrderNeed (A : Ad) (K : PySem.W.Frag) : Sp := fun vs H Q _ => ∃ (l o g : Addr) (a : Abs) (os : List Nat), vs = [.ref l, .ref o, .int (a.repeat_ : Int)] ∧ PiecesAt A H g l (a.strips.map pr) ∧ SqL K H o (iv os) ∧ (∀ i ∈ os, i < a.strips.length) ∧ 0 < a.repeat_ ∧
  Q (.int ((Kh351.need a.repeat_ 0 (Kh351.ofOrder a os) : Nat) : Int)) H
theorem ok_order_need (T : Tx A K mg) : FnOk P w K mg base CX0 2 A.a_order_need A.d_order_need ["strips", "order", "repeat"] (spOrderNeed A K) := by
  refine T.F_order_need.ok sc_order_need (fun vs H Q E h => ?_) (fun cdv Ar outer s H vs Q E hr h => ?_)
  · obtain ⟨l, o, g, a, os, rfl, _⟩ := h
    rfl
  · obtain ⟨l, o, g, a, os, rfl, ⟨_, as, hl, hP⟩, ho, hos, h0, k⟩ := h
    refine ⟨_, (pss_cons (ps_set (i := 3) sc_order_need.nd rfl (Or.inl rfl) pe_int)
      (pss_cons (ps_for PassesOwn.never rfl (pi_list (pv 1)) (pg_name (i := 4) sc_order_need.nd rfl (Or.inl rfl)) (pss_cons (ps_set (i := 5) sc_order_need.nd rfl (Or.inl rfl) (pe_ix ix_list (pv 0) (pv 4) (fun _ _ => rfl)))
      (pss_one (ps_set (i := 3) sc_order_need.nd rfl (Or.inl rfl) (pe_op op_add (pe_op op_add (pv 3) (pe_call (ok_gap_ahead T) (hr.mono (by decide)) rfl T.m_gap_ahead T.F_gap_ahead.kp T.b_gap_ahead .nil pass0 (pa_cons (pv 3) (pa_cons (pv 5) (pa_cons (pv 2) pa_nil))))) (pe_fld (pv 5) rfl))))))
      (pss_one (ps_ret (pv 3))))), ?_⟩
    refine ⟨_, rfl, o, rfl, ⟨_, ho⟩, for_list (K := K) (a := o) (xs := iv os) (fun i σ H' => H' = H ∧ ∃ (e : Nat) (v4 v5 : Option V), σ = [some (.ref l), some (.ref o), some (.int (a.repeat_ : Int)), some (.int (e : Int)), v4, v5] ∧
      e + Kh351.need a.repeat_ e (Kh351.ofOrder a (os.drop i)) = Kh351.need a.repeat_ 0 (Kh351.ofOrder a os)) ⟨rfl, 0, none, none, rfl, by rw [List.drop_zero, Nat.zero_add]⟩ (fun i σ H' _ ⟨e, _⟩ => by rw [e]; exact ho) ?_ ?_⟩
    · rintro i y σ H' hi ⟨rfl, e, v4, v5, rfl, he⟩
      obtain ⟨j, hj, rfl⟩ := iv_get hi
      have hjl := hos j (List.mem_of_getElem? hj)
      obtain ⟨ad, had, dy, hpy⟩ := Paired.get hP (getElem?_pr (stripAt_get hjl))
      refine ⟨_, rfl, _, rfl, l, _, _, _, rfl, rfl, SqL.of hl, atI_nat (v := V.ref ad) (by rw [List.getElem?_map, had]; rfl), ?_⟩
      refine ⟨_, rfl, _, rfl, _, rfl, _, rfl, e, a.repeat_, ad, _, rfl, ⟨dy, hpy⟩, h0, _, _, rfl, rfl, _, rfl, _, _, _, _, _, rfl, hpy, T.cl_Piece, T.f_Piece_long, pf_long, _, _, rfl, rfl, ?_⟩
      refine ⟨rfl, e + Kh351.gap a.repeat_ e ((stripAt a j).begins % a.repeat_) + (stripAt a j).long, _, _, rfl, ?_⟩
      rw [← he]
      have hd : os.drop i = j :: os.drop (i + 1) := by
        obtain ⟨h1, h2⟩ := List.getElem?_eq_some_iff.mp hj
        rw [List.drop_eq_getElem_cons h1, h2]
      rw [hd]
      show _ = e + Kh351.need a.repeat_ e (stripAt a j :: Kh351.ofOrder a (os.drop (i + 1)))
      rw [need_go h0]
      omega
    · rintro σ H' ⟨rfl, e, v4, v5, rfl, he⟩
      rw [iv_len, List.drop_length] at he
      refine ⟨_, rfl, ?_⟩
      rw [← he] at k
      exact k
def mkGap (ws : List V) (c : Kh351.Call) : Prop := ∃ i j : Nat, ws = [.int (i : Int), .int (j : Int)] ∧ c = .gap i j
theorem ok_gap (T : Tx A K mg) : FnOk P w K mg base CX0 2 A.a_gap A.d_gap ["carpet", "i", "j"] (spC A mkGap) := by
  refine T.F_gap.ok sc_gap (fun vs H Q E h => ?_) (fun cdv Ar outer s H vs Q E hr h => ?_)
  · obtain ⟨p, g, a, c, ws, rfl, ⟨i, x, rfl, _⟩, _⟩ := h
    rfl
  · obtain ⟨p, g, a, c, ws, rfl, ⟨i, j, rfl, rfl⟩, hC, W, hg, k⟩ := h
    obtain ⟨dx, a0, b0, c0, ts, C⟩ := id hC
    obtain ⟨hs0, as, hl, hP⟩ := C.strips
    have hlen : as.length = a.strips.length := by rw [hP.length, List.length_map]
    refine ⟨_, (pss_cons (ps_set (i := 3) sc_gap.nd rfl (Or.inl rfl) (pe_callB call_len_seq (by rfl) T.n_len bt_len (pa_cons (pe_fld (pv 0) rfl) pa_nil)))
      (pss_cons (ps_if (PW.pt (pw_or (pt_cmpR op_ge (pv 1) (pv 3) (nomark _)) (pw_or1 (pt_cmpR op_ge (pv 2) (pv 3) (nomark _))))) (pss_one (ps_ret (pe_lst (pa_cons (pe_gint rfl T.c_NO_SUCH) pa_nil)))) pss_nil)
      (pss_cons (ps_if (pt_cmpR op_eq (pv 1) (pv 2) (nomark _)) (pss_one (ps_ret (pe_lst (pa_cons (pe_gint rfl T.c_NOT_AS_TOLD) pa_nil)))) pss_nil)
      (pss_cons (ps_set (i := 4) sc_gap.nd rfl (Or.inl rfl) (pe_ix ix_list (pe_fld (pv 0) rfl) (pv 1) (fun _ _ => rfl)))
      (pss_one (ps_ret (pe_lst (pa_cons (pe_call (ok_gap_ahead T) (hr.mono (by decide)) rfl T.m_gap_ahead T.F_gap_ahead.kp T.b_gap_ahead .nil pass0 (pa_cons (pe_op op_add (pe_fld (pv 4) rfl) (pe_fld (pv 4) rfl)) (pa_cons (pe_ix ix_list (pe_fld (pv 0) rfl) (pv 2) (fun _ _ => rfl)) (pa_cons (pe_fld (pv 0) rfl) pa_nil)))) pa_nil)))))))), ?_⟩
    have no : ¬ (i < a.strips.length ∧ j < a.strips.length) → ∀ q, H q = none → Q (.ref q) (upd H q (.lst [.int (-2)])) := fun hx q hq => k.no (by
      show (match a.strips[i]?, a.strips[j]? with | some x, some y => _ | _, _ => _) = _
      by_cases hi : i < a.strips.length
      · rw [List.getElem?_eq_none (show a.strips.length ≤ j by omega), stripAt_get hi]
      · rw [List.getElem?_eq_none (show a.strips.length ≤ i by omega)]) hC hq
    refine ⟨_, rfl, _, _, _, _, _, rfl, C.at_, T.cl_Carpet, T.f_Carpet_strips, cf_strips, a0, _, rfl, .inl (SqL.of hl), ?_⟩
    rw [List.length_map, hlen]
    refine ⟨_, rfl, _, rfl, _, _, rfl, rfl, _, rfl, ite2 (fun h => iteT ⟨by show 1 ≤ sizeLine; decide, no (by have := of_decide_eq_true h; omega)⟩) (fun h => ?_)⟩
    have hi : i < a.strips.length := Nat.lt_of_not_le fun q => h (decide_eq_true (by omega))
    refine ⟨_, rfl, _, rfl, _, _, rfl, rfl, _, rfl, ite2 (fun h => ⟨by show 1 ≤ sizeLine; decide, no (by have := of_decide_eq_true h; omega)⟩) (fun h => ?_)⟩
    have hj : j < a.strips.length := Nat.lt_of_not_le fun q => h (decide_eq_true (by omega))
    have e0 : Kh351.doing (some a) (.gap i j) = if i = j then (some a, Kh351.say (-22)) else (some a, Kh351.say (Kh351.gap a.repeat_ ((stripAt a i).begins + (stripAt a i).long) (stripAt a j).begins)) := by
      show (match a.strips[i]?, a.strips[j]? with | some x, some y => _ | _, _ => _) = _
      rw [stripAt_get hi, stripAt_get hj]
    refine ⟨_, rfl, _, rfl, rfl, _, rfl, ite2 (fun h => ?_) (fun h => ?_)⟩
    · have := deq_int.mp h
      exact ⟨by show 1 ≤ sizeLine; decide, fun q hq => k.no (e0.trans (if_pos (by omega))) hC hq⟩
    · have hij : ¬ i = j := fun q => h (deq_int.mpr (by omega))
      obtain ⟨ai, hai, di, hpi⟩ := Paired.get hP (getElem?_pr (stripAt_get hi))
      obtain ⟨aj, haj, dj, hpj⟩ := Paired.get hP (getElem?_pr (stripAt_get hj))
      refine ⟨_, rfl, _, _, _, _, _, rfl, C.at_, T.cl_Carpet, T.f_Carpet_strips, cf_strips, _, rfl, a0, _, _, _, rfl, rfl, SqL.of hl, atI_nat (v := V.ref ai) (by rw [List.getElem?_map, hai]; rfl), ?_⟩
      refine ⟨_, rfl, _, _, _, _, _, rfl, hpi, T.cl_Piece, T.f_Piece_begins, pf_begins, _, rfl, _, _, _, _, _, rfl, hpi, T.cl_Piece, T.f_Piece_long, pf_long, _, _, rfl, rfl, _, rfl, _, _, _, _, _, rfl, C.at_, T.cl_Carpet, T.f_Carpet_strips, cf_strips, _, rfl, a0, _, _, _, rfl, rfl, SqL.of hl, atI_nat (v := V.ref aj) (by rw [List.getElem?_map, haj]; rfl), _, rfl, _, _, _, _, _, rfl, C.at_, T.cl_Carpet, T.f_Carpet_repeat, cf_repeat,
        (stripAt a i).begins + (stripAt a i).long, a.repeat_, aj, _, rfl, ⟨dj, hpj⟩, W.now.r1, (by show 1 ≤ sizeLine; decide), fun q hq => ?_⟩
      have hb := (W.now.ps _ (List.mem_of_getElem? (stripAt_get hj))).2.2
      show Q (.ref q) (upd H q (.lst [.int ((Kh351.gap a.repeat_ ((stripAt a i).begins + (stripAt a i).long) ((stripAt a j).begins % a.repeat_) : Nat) : Int)]))
      rw [Nat.mod_eq_of_lt hb]
      exact k.no (e0.trans (if_neg hij)) hC hq
theorem ref_get {as : List Addr} {i : Nat} {y : V} (h : (as.map V.ref)[i]? = some y) : ∃ ad, as[i]? = some ad ∧ y = V.ref ad := by
  rw [List.getElem?_map] at h
  cases e : as[i]? with
  | none => rw [e] at h; cases h
  | some ad => rw [e] at h; exact ⟨ad, rfl, (Option.some.inj h).symm⟩
def mkLook (ws : List V) (c : Kh351.Call) : Prop := ∃ i : Nat, ws = [.int (i : Int)] ∧ c = .look i
theorem ok_look (T : Tx A K mg) : FnOk P w K mg base CX0 1 A.a_look A.d_look ["carpet", "i"] (spC A mkLook) := by
  refine T.F_look.ok sc_look (fun vs H Q E h => ?_) (fun cdv Ar outer s H vs Q E hr h => ?_)
  · obtain ⟨p, g, a, c, ws, rfl, ⟨i, rfl, _⟩, _⟩ := h
    rfl
  · obtain ⟨p, g, a, c, ws, rfl, ⟨i, rfl, rfl⟩, hC, W, hg, k⟩ := h
    obtain ⟨dx, a0, b0, c0, ts, C⟩ := id hC
    obtain ⟨hs0, as, hl, hP⟩ := C.strips
    have hlen : as.length = a.strips.length := by rw [hP.length, List.length_map]
    refine ⟨_, (pss_cons (ps_if (pt_cmpR op_ge (pv 1) (pe_callB call_len_seq (by rfl) T.n_len bt_len (pa_cons (pe_fld (pv 0) rfl) pa_nil)) (nomark _)) (pss_one (ps_ret (pe_lst (pa_cons (pe_gint rfl T.c_NO_SUCH) pa_nil)))) pss_nil)
      (pss_cons (ps_set (i := 2) sc_look.nd rfl (Or.inl rfl) (pe_ix ix_list (pe_fld (pv 0) rfl) (pv 1) (fun _ _ => rfl)))
      (pss_one (ps_ret (pe_lst (pa_cons (pe_fld (pv 2) rfl) (pa_cons (pe_fld (pv 2) rfl) (pa_cons (pe_op op_mod (pe_op op_add (pe_fld (pv 2) rfl) (pe_fld (pv 2) rfl)) (pe_fld (pv 0) rfl)) pa_nil)))))))), ?_⟩
    refine ⟨_, rfl, _, rfl, _, _, _, _, _, rfl, C.at_, T.cl_Carpet, T.f_Carpet_strips, cf_strips, a0, _, rfl, .inl (SqL.of hl), _, _, rfl, rfl, _, rfl, ite2 (fun h => ?_) (fun h => ?_)⟩
    · have h1 := of_decide_eq_true h
      rw [List.length_map, hlen] at h1
      refine ⟨by show 1 ≤ sizeLine; decide, fun q hq => k.no ?_ hC hq⟩
      show (match a.strips[i]? with | none => _ | some y => _) = _
      rw [List.getElem?_eq_none (by omega)]
    · have h1 : i < a.strips.length := by
        refine Nat.lt_of_not_le fun q => h (decide_eq_true ?_)
        rw [List.length_map, hlen]
        omega
      have e0 : Kh351.doing (some a) (.look i) = (some a, ⟨(stripAt a i).long, [(stripAt a i).begins, ((stripAt a i).begins + (stripAt a i).long) % a.repeat_]⟩) := by
        show (match a.strips[i]? with | none => _ | some y => _) = _
        rw [stripAt_get h1]
      have hr0 := W.now.r1
      obtain ⟨ad, had, dy, hpy⟩ := Paired.get hP (getElem?_pr (stripAt_get h1))
      refine ⟨_, rfl, _, _, _, _, _, rfl, C.at_, T.cl_Carpet, T.f_Carpet_strips, cf_strips, _, rfl, a0, _, _, _, rfl, rfl, SqL.of hl, atI_nat (v := V.ref ad) (by rw [List.getElem?_map, had]; rfl), ?_⟩
      refine ⟨_, rfl, _, _, _, _, _, rfl, hpy, T.cl_Piece, T.f_Piece_long, pf_long, _, rfl, _, _, _, _, _, rfl, hpy, T.cl_Piece, T.f_Piece_begins, pf_begins, _, rfl, _, _, _, _, _, rfl, hpy, T.cl_Piece, T.f_Piece_begins, pf_begins, _, rfl, _, _, _, _, _, rfl, hpy, T.cl_Piece, T.f_Piece_long, pf_long, _, _, rfl, rfl, _, rfl, _, _, _, _, _, rfl, C.at_, T.cl_Carpet, T.f_Carpet_repeat, cf_repeat, _, _, rfl, rfl, (by show (0 : Int) < a.repeat_; omega), (by show 3 ≤ sizeLine; decide), fun q hq => ?_⟩
      exact k.fin _ e0 rfl (xs := [((stripAt a i).long : Int), ((stripAt a i).begins : Int), ((((stripAt a i).begins + (stripAt a i).long) % a.repeat_ : Nat) : Int)]) rfl hC (But.refl _ _) hq
def mkAlone (ws : List V) (c : Kh351.Call) : Prop := ∃ i j : Nat, ws = [.int (i : Int), .int (j : Int)] ∧ c = .alone i j
theorem ok_alone (T : Tx A K mg) : FnOk P w K mg base CX0 2 A.a_alone A.d_alone ["carpet", "i", "j"] (spC A mkAlone) := by
  refine T.F_alone.ok sc_alone (fun vs H Q E h => ?_) (fun cdv Ar outer s H vs Q E hr h => ?_)
  · obtain ⟨p, g, a, c, ws, rfl, ⟨i, x, rfl, _⟩, _⟩ := h
    rfl
  · obtain ⟨p, g, a, c, ws, rfl, ⟨i, j, rfl, rfl⟩, hC, W, hg, k⟩ := h
    obtain ⟨dx, a0, b0, c0, ts, C⟩ := id hC
    obtain ⟨hs0, as, hl, hP⟩ := C.strips
    obtain ⟨hs1, bs, hlr, hR⟩ := C.rolls
    have hlen : as.length = a.strips.length := by rw [hP.length, List.length_map]
    have hlen2 : bs.length = a.rolls.length := hR.length
    refine ⟨_, (pss_cons (ps_if (PW.pt (pw_or (pt_cmpR op_ge (pv 1) (pe_callB call_len_seq (by rfl) T.n_len bt_len (pa_cons (pe_fld (pv 0) rfl) pa_nil)) (nomark _)) (pw_or1 (pt_cmpR op_ge (pv 2) (pe_callB call_len_seq (by rfl) T.n_len bt_len (pa_cons (pe_fld (pv 0) rfl) pa_nil)) (nomark _))))) (pss_one (ps_ret (pe_lst (pa_cons (pe_gint rfl T.c_NO_SUCH) pa_nil)))) pss_nil)
      (pss_cons (ps_set (i := 3) sc_alone.nd rfl (Or.inl rfl) (pe_ix ix_list (pe_fld (pv 0) rfl) (pv 1) (fun _ _ => rfl)))
      (pss_cons (ps_set (i := 4) sc_alone.nd rfl (Or.inl rfl) (pe_ix ix_list (pe_fld (pv 0) rfl) (pv 2) (fun _ _ => rfl)))
      (pss_cons (ps_set (i := 5) sc_alone.nd rfl (Or.inl rfl) (pe_op op_add (pe_call (ok_gap_ahead T) (hr.mono (by decide)) rfl T.m_gap_ahead T.F_gap_ahead.kp T.b_gap_ahead .nil pass0 (pa_cons (pe_fld (pv 4) rfl) (pa_cons (pv 3) (pa_cons (pe_fld (pv 0) rfl) pa_nil)))) (pe_fld (pv 3) rfl)))
      (pss_one (ps_ret (pe_lst (pa_cons (pe_ifExp (pt_cmpR op_le (pv 5) (pe_fld (pv 4) rfl) (nomark _)) pe_int pe_int) (pa_cons (pv 5) pa_nil))))))))), ?_⟩
    have no : ¬ (i < a.strips.length ∧ j < a.rolls.length) → ∀ q, H q = none → Q (.ref q) (upd H q (.lst [.int (-2)])) := fun hx q hq => k.no (by
      show (match a.strips[i]?, a.rolls[j]? with | some x, some y => _ | _, _ => _) = _
      by_cases hi : i < a.strips.length
      · rw [List.getElem?_eq_none (show a.rolls.length ≤ j by omega), stripAt_get hi]
      · rw [List.getElem?_eq_none (show a.strips.length ≤ i by omega)]) hC hq
    refine ⟨_, rfl, _, rfl, _, _, _, _, _, rfl, C.at_, T.cl_Carpet, T.f_Carpet_strips, cf_strips, a0, _, rfl, .inl (SqL.of hl), _, _, rfl, rfl, _, rfl, ite2 (fun h => iteT ⟨by show 1 ≤ sizeLine; decide, no ?_⟩) (fun h => ?_)⟩
    · have := of_decide_eq_true h
      rw [List.length_map, hlen] at this
      omega
    have hi : i < a.strips.length := Nat.lt_of_not_le fun q => h (decide_eq_true (by rw [List.length_map, hlen]; omega))
    refine ⟨_, rfl, _, rfl, _, _, _, _, _, rfl, C.at_, T.cl_Carpet, T.f_Carpet_rolls, cf_rolls, b0, _, rfl, .inl (SqL.of hlr), _, _, rfl, rfl, _, rfl, ite2 (fun h => ⟨by show 1 ≤ sizeLine; decide, no ?_⟩) (fun h => ?_)⟩
    · have := of_decide_eq_true h
      rw [List.length_map, hlen2] at this
      omega
    have hj : j < a.rolls.length := Nat.lt_of_not_le fun q => h (decide_eq_true (by rw [List.length_map, hlen2]; omega))
    obtain ⟨y, hy⟩ : ∃ y, a.rolls[j]? = some y := ⟨_, List.getElem?_eq_getElem hj⟩
    have e0 : Kh351.doing (some a) (.alone i j) = (some a, ⟨if Kh351.need a.repeat_ y.2 [stripAt a i] ≤ y.1 then 1 else 0, [Kh351.need a.repeat_ y.2 [stripAt a i]]⟩) := by
      show (match a.strips[i]?, a.rolls[j]? with | some x, some y => _ | _, _ => _) = _
      rw [stripAt_get hi, hy]
    obtain ⟨ai, hai, di, hpi⟩ := Paired.get hP (getElem?_pr (stripAt_get hi))
    obtain ⟨aj, haj, dj, hpj⟩ := Paired.get hR hy
    refine ⟨_, rfl, _, _, _, _, _, rfl, C.at_, T.cl_Carpet, T.f_Carpet_strips, cf_strips, _, rfl, a0, _, _, _, rfl, rfl, SqL.of hl, atI_nat (v := V.ref ai) (by rw [List.getElem?_map, hai]; rfl), ?_⟩
    refine ⟨_, rfl, _, _, _, _, _, rfl, C.at_, T.cl_Carpet, T.f_Carpet_rolls, cf_rolls, _, rfl, b0, _, _, _, rfl, rfl, SqL.of hlr, atI_nat (v := V.ref aj) (by rw [List.getElem?_map, haj]; rfl), ?_⟩
    refine ⟨_, rfl, _, _, _, _, _, rfl, hpj, T.cl_Piece, T.f_Piece_begins, pf_begins, _, rfl, _, rfl, _, _, _, _, _, rfl, C.at_, T.cl_Carpet, T.f_Carpet_repeat, cf_repeat, y.2, a.repeat_, ai, _, rfl, ⟨di, hpi⟩, W.now.r1, _, rfl, _, _, _, _, _, rfl, hpi, T.cl_Piece, T.f_Piece_long, pf_long, _, _, rfl, rfl, ?_⟩
    have hn : ((Kh351.need a.repeat_ y.2 [stripAt a i] : Nat) : Int) = ((Kh351.gap a.repeat_ y.2 ((stripAt a i).begins % a.repeat_) : Nat) : Int) + ((stripAt a i).long : Int) := rfl
    refine ⟨_, rfl, _, rfl, _, _, _, _, _, rfl, hpj, T.cl_Piece, T.f_Piece_long, pf_long, _, _, rfl, rfl, _, rfl, ite2 (fun h => ?_) (fun h => ?_)⟩
    · have h1 := of_decide_eq_true h
      have h2 : Kh351.need a.repeat_ y.2 [stripAt a i] ≤ y.1 := by
        have h1 : ((Kh351.gap a.repeat_ y.2 ((stripAt a i).begins % a.repeat_) : Nat) : Int) + ((stripAt a i).long : Int) ≤ (y.1 : Int) := h1
        omega
      rw [if_pos h2] at e0
      refine ⟨_, rfl, (by show 2 ≤ sizeLine; decide), fun q hq => ?_⟩
      exact k.fin _ e0 rfl (xs := [1, ((Kh351.need a.repeat_ y.2 [stripAt a i] : Nat) : Int)]) rfl hC (But.refl _ _) hq
    · have h2 : ¬ Kh351.need a.repeat_ y.2 [stripAt a i] ≤ y.1 := fun q => h (decide_eq_true (by
        show ((Kh351.gap a.repeat_ y.2 ((stripAt a i).begins % a.repeat_) : Nat) : Int) + ((stripAt a i).long : Int) ≤ (y.1 : Int)
        omega))
      rw [if_neg h2] at e0
      refine ⟨_, rfl, (by show 2 ≤ sizeLine; decide), fun q hq => ?_⟩
      exact k.fin _ e0 rfl (xs := [0, ((Kh351.need a.repeat_ y.2 [stripAt a i] : Nat) : Int)]) rfl hC (But.refl _ _) hq
def mkState (ws : List V) (c : Kh351.Call) : Prop := ws = [] ∧ c = .state
theorem ok_state (T : Tx A K mg) : FnOk P w K mg base CX0 1 A.a_state A.d_state ["carpet"] (spC A mkState) := by
  refine T.F_state.ok sc_state (fun vs H Q E h => ?_) (fun cdv Ar outer s H vs Q E hr h => ?_)
  · obtain ⟨p, g, a, c, ws, rfl, ⟨rfl, _⟩, _⟩ := h
    rfl
  · obtain ⟨p, g, a, c, ws, rfl, ⟨rfl, rfl⟩, hC, W, hg, k⟩ := h
    obtain ⟨dx, a0, b0, c0, ts, C⟩ := id hC
    obtain ⟨hs0, as, hl, hP⟩ := C.strips
    obtain ⟨hs1, bs, hlr, hR⟩ := C.rolls
    have hlen : as.length = a.strips.length := by rw [hP.length, List.length_map]
    have hlen2 : bs.length = a.rolls.length := hR.length
    have tl : ts.length = a.undo.length := by rw [C.undo.length, List.length_reverse]
    have W3 := W.now.l
    refine ⟨_, (pss_cons (ps_set (i := 1) sc_state.nd rfl (Or.inl rfl) (pe_lst (pa_cons (pe_fld (pv 0) rfl) (pa_cons (pe_callB call_len_seq (by rfl) T.n_len bt_len (pa_cons (pe_fld (pv 0) rfl) pa_nil)) (pa_cons (pe_callB call_len_seq (by rfl) T.n_len bt_len (pa_cons (pe_fld (pv 0) rfl) pa_nil)) (pa_cons (pe_callB call_len_seq (by rfl) T.n_len bt_len (pa_cons (pe_fld (pv 0) rfl) pa_nil)) pa_nil))))))
      (pss_cons (ps_for PassesOwn.never rfl (pi_list (pe_fld (pv 0) rfl)) (pg_name (i := 2) sc_state.nd rfl (Or.inl rfl)) (pss_one (ps_expr (pe_bm PySem.F.plainAttrs_list PySem.F.slot_list_extend PySem.F.type_list_extend mt_extend (pv 1) (pa_cons (pe_lst (pa_cons (pe_fld (pv 2) rfl) (pa_cons (pe_fld (pv 2) rfl) pa_nil))) pa_nil)))))
      (pss_one (ps_ret (pv 1))))), ?_⟩
    refine ⟨_, rfl, _, _, _, _, _, rfl, C.at_, T.cl_Carpet, T.f_Carpet_repeat, cf_repeat, _, rfl, _, _, _, _, _, rfl, C.at_, T.cl_Carpet, T.f_Carpet_strips, cf_strips, a0, _, rfl, .inl (SqL.of hl), _, rfl, _, _, _, _, _, rfl, C.at_, T.cl_Carpet, T.f_Carpet_rolls, cf_rolls, b0, _, rfl, .inl (SqL.of hlr), _, rfl, _, _, _, _, _, rfl, C.at_, T.cl_Carpet, T.f_Carpet_past, cf_past, c0, _, rfl, .inl (SqL.of C.past), (by show 4 ≤ sizeLine; decide), fun q hq => ?_⟩
    rw [List.length_map, List.length_map, List.length_map, hlen, hlen2, tl]
    have s1 := Same.upd (o := .lst (iv ([a.repeat_, a.strips.length, a.rolls.length, a.undo.length] ++ (a.rolls.take 0).flatMap fun x => [x.1, x.2]))) hq
    have C1 := C.mono s1
    refine ⟨_, rfl, _, _, _, _, _, rfl, C1.at_, T.cl_Carpet, T.f_Carpet_rolls, cf_rolls, b0, rfl, ⟨_, SqL.of (s1 _ _ hlr)⟩, for_list (K := K) (a := b0) (xs := bs.map V.ref) (fun i σ H' => Same H H' ∧ ∃ v2 : Option V, σ = [some (.ref p), some (.ref q), v2] ∧ H' q = some (.lst (iv ([a.repeat_, a.strips.length, a.rolls.length, a.undo.length] ++ (a.rolls.take i).flatMap fun x => [x.1, x.2]))))
      ⟨s1, none, rfl, upd_same⟩ (fun i σ H' _ ⟨s2, _⟩ => SqL.of (s2 _ _ hlr)) ?_ ?_⟩
    · rintro i y σ H' hi ⟨s2, v2, rfl, hq2⟩
      obtain ⟨ad, had, rfl⟩ := ref_get hi
      have hilt : i < a.rolls.length := by rw [← hlen2]; exact (List.getElem?_eq_some_iff.mp had).1
      obtain ⟨x, hx⟩ : ∃ x, a.rolls[i]? = some x := ⟨_, List.getElem?_eq_getElem hilt⟩
      obtain ⟨ad', had', dy, hpy⟩ := Paired.get hR hx
      obtain rfl : ad' = ad := Option.some.inj (had'.symm.trans had)
      refine ⟨_, rfl, .inl ⟨rfl, _, SqL.of hq2⟩, _, rfl, _, _, _, _, _, rfl, (s2 _ _ hpy), T.cl_Piece, T.f_Piece_long, pf_long, _, rfl, _, _, _, _, _, rfl, (s2 _ _ hpy), T.cl_Piece, T.f_Piece_begins, pf_begins, (by show 2 ≤ sizeLine; decide), fun q3 hq3 => ?_⟩
      have s3 := Same.upd (o := .lst [.int (x.1 : Int), .int (x.2 : Int)]) hq3
      refine ⟨q, q3, _, _, rfl, rfl, s3 _ _ hq2, upd_same, ?_, ?_⟩
      · rw [iv_len, List.length_append, List.length_flatMap]
        have : ((a.rolls.take i).map fun x => ([x.1, x.2] : List Nat).length).sum ≤ 6 := by
          have e : ((a.rolls.take i).map fun x => ([x.1, x.2] : List Nat).length) = List.replicate (a.rolls.take i).length 2 := by
            rw [← List.map_const']
            exact List.map_congr_left fun _ _ => rfl
          rw [e, List.sum_replicate_nat, List.length_take]
          omega
        exact Nat.le_trans (show 4 + _ + 2 ≤ 12 by omega) (by decide)
      · refine ⟨fun b o e => ?_, _, rfl, ?_⟩
        · rw [upd_ne (ne_of_none e hq)]
          exact s3 _ _ (s2 _ _ e)
        · rw [upd_same, List.take_add_one, hx]
          have e : [a.repeat_, a.strips.length, a.rolls.length, a.undo.length] ++ (a.rolls.take i ++ [x]).flatMap (fun x => [x.1, x.2]) = ([a.repeat_, a.strips.length, a.rolls.length, a.undo.length] ++ (a.rolls.take i).flatMap fun x => [x.1, x.2]) ++ [x.1, x.2] := by
            rw [List.flatMap_append, List.append_assoc]
            rfl
          show _ = some (HO.lst (iv ([a.repeat_, a.strips.length, a.rolls.length, a.undo.length] ++ (a.rolls.take i ++ [x]).flatMap fun x => [x.1, x.2])))
          rw [e, iv_app _ [x.1, x.2]]
          rfl
    · rintro σ H' ⟨s2, v2, rfl, hq2⟩
      rw [List.length_map, hlen2, List.take_length] at hq2
      refine ⟨_, rfl, k.2 H' q ?_ (But.of s2) ?_ (fun e => hg (e ▸ hq))⟩
      · exact hC.mono s2
      · rw [hq2, iv_ints]
        rfl
end
end PM

end

section
set_option Elab.async false
set_option linter.all false
set_option maxRecDepth 100000
set_option maxHeartbeats 2000000
namespace PM
open PySem PySem.Spec PyProof.Rows L2
open Kh351 (Abs Strip)
/-! ### a set's firsts, as a dict -/
def fdK (a : Abs) (l ks : List Nat) : List (Key × V) := ks.map fun (i : Nat) => ((Sum.inl (i : Int) : Key), V.int ((F a l i : Nat) : Int))
def fdm (a : Abs) (m : Nat) : List (Key × V) := fdK a (bl a.strips.length m) (bl a.strips.length m)
theorem valV_fd {a : Abs} {l : List Nat} {i : Nat} : ∀ {ks : List Nat}, i ∈ ks → valV (fdK a l ks) (Sum.inl (i : Int) : Key) = some (.int ((F a l i : Nat) : Int))
  | [], h => by cases h
  | j :: ks, h => by
    show valV (((Sum.inl (j : Int) : Key), V.int ((F a l j : Nat) : Int)) :: fdK a l ks) (Sum.inl (i : Int) : Key) = _
    by_cases e : j = i
    · subst e
      exact valV_pos rfl
    · rw [valV_neg (fun z => e (by injection z with z; exact Int.ofNat.inj z))]
      rcases List.mem_cons.mp h with q | q
      · exact absurd q.symm e
      · exact valV_fd q
theorem valV_fd_none {a : Abs} {l : List Nat} {i : Nat} : ∀ {ks : List Nat}, i ∉ ks → valV (fdK a l ks) (Sum.inl (i : Int) : Key) = none
  | [], _ => rfl
  | j :: ks, h => by
    show valV (((Sum.inl (j : Int) : Key), V.int ((F a l j : Nat) : Int)) :: fdK a l ks) (Sum.inl (i : Int) : Key) = _
    have h1 : i ≠ j ∧ i ∉ ks := ⟨fun e => h (e ▸ List.mem_cons_self ..), fun q => h (List.mem_cons_of_mem _ q)⟩
    rw [valV_neg (fun z => h1.1 (by injection z with z; exact (Int.ofNat.inj z).symm))]
    exact valV_fd_none h1.2
theorem fdK_get {a : Abs} {l ks : List Nat} {i : Nat} {k : Key} {v : V} (h : (fdK a l ks)[i]? = some (k, v)) : ∃ j, ks[i]? = some j ∧ k = Sum.inl (j : Int) ∧ v = .int ((F a l j : Nat) : Int) := by
  unfold fdK at h
  rw [List.getElem?_map] at h
  cases e : ks[i]? with
  | none => rw [e] at h; cases h
  | some j =>
    rw [e] at h
    have h1 := Option.some.inj h
    exact ⟨j, rfl, (congrArg Prod.fst h1).symm, (congrArg Prod.snd h1).symm⟩
theorem fdK_len (a : Abs) (l ks : List Nat) : (fdK a l ks).length = ks.length := List.length_map ..
def FoundAt (H : Hp) (q : Addr) (a : Abs) (k : Nat) : Prop := ∃ ds : List Addr, H q = some (.lst (ds.map V.ref)) ∧ Paired (fun (d : Addr) (j : Nat) => H d = some (.dK (fdm a j))) ds (List.range k)
theorem FoundAt.monoT {H H' : Hp} (k : SameT H H') {q : Addr} {a : Abs} {n : Nat} (h : FoundAt H q a n) : FoundAt H' q a n := by
  obtain ⟨ds, h1, h2⟩ := h
  exact ⟨ds, k.at_ h1 (fun _ z => nomatch z), pimp (fun d j q => k.at_ (o := .dK (fdm a j)) q (fun _ z => nomatch z)) h2⟩
theorem FoundAt.mono {H H' : Hp} (k : Same H H') {q : Addr} {a : Abs} {n : Nat} (h : FoundAt H q a n) : FoundAt H' q a n := h.monoT (.of k)
theorem FoundAt.get {H : Hp} {q : Addr} {a : Abs} {n j : Nat} (h : FoundAt H q a n) (hj : j < n) : ∃ (xs : List V) (d : Addr), H q = some (.lst xs) ∧ xs[j]? = some (V.ref d) ∧ H d = some (.dK (fdm a j)) ∧ xs.length = n := by
  obtain ⟨ds, h1, h2⟩ := h
  obtain ⟨d, e1, e2⟩ := Paired.get h2 (show (List.range n)[j]? = some j by rw [List.getElem?_range hj])
  exact ⟨_, d, h1, by rw [List.getElem?_map, e1]; rfl, e2, by rw [List.length_map, h2.length, List.length_range]⟩
theorem atI_neg1 {xs : List V} {n : Nat} {v : V} (hl : xs.length = n + 1) (h : xs[n]? = some v) : atI xs (-1) = some v := by
  have e : ixN xs.length (-1) = some n := by
    unfold ixN
    rw [hl, if_neg (by decide), if_pos (by omega)]
    congr 1
    omega
  unfold atI
  rw [e]
  exact h
theorem lock_same {H H' : Hp} {d : Addr} {u fz : HO} (hd : H d = some u) (h : Same (upd H d fz) H') : Same H (upd H' d u) := fun b o e => by
  by_cases hb : b = d
  · rw [hb] at e ⊢
    rw [upd_same, ← hd]
    exact e
  · rw [upd_ne hb]
    exact h b o (by rw [upd_ne hb]; exact e)
theorem PiecesAt.atD {A : Ad} {H : Hp} {g l d : Addr} {o : HO} {kvs : List (Key × V)} {xs : List (Nat × Nat)} (hd : H d = some (.dK kvs)) (h : PiecesAt A H g l xs) : PiecesAt A (upd H d o) g l xs := by
  obtain ⟨n, as, h1, h2⟩ := h
  refine ⟨n, as, by rw [upd_ne (ne_of h1 hd (by intro z; cases z))]; exact h1, pimp (fun _ _ q => ?_) h2⟩
  obtain ⟨dx, q⟩ := q
  exact ⟨dx, by rw [upd_ne (ne_of q hd (by intro z; cases z))]; exact q⟩
/-- the strip at i, where the strips lie -/
theorem strip_at {A : Ad} {H : Hp} {g l : Addr} {a : Abs} (h : PiecesAt A H g l (a.strips.map pr)) {i : Nat} (hi : i < a.strips.length) : ∃ (xs : List V) (ad dy : Addr), H l = some (.lst xs) ∧ xs[i]? = some (V.ref ad) ∧ H ad = some (.ins A.k_Piece dy (pf (stripAt a i).long (stripAt a i).begins)) := by
  obtain ⟨_, as, hl, hP⟩ := h
  obtain ⟨ad, had, dy, hpy⟩ := Paired.get hP (getElem?_pr (stripAt_get hi))
  exact ⟨_, ad, dy, hl, by rw [List.getElem?_map, had]; rfl, hpy⟩
theorem bl_get {n m i j : Nat} (h : (bl n m)[i]? = some j) : j < n ∧ m.testBit j = true := mem_bl.mp (List.mem_of_getElem? h)
theorem take_snoc {l : List Nat} {i j : Nat} (h : l[i]? = some j) : l.take (i + 1) = l.take i ++ [j] := by
  rw [List.take_add_one, h]
  rfl
section
variable {P : Program} {w : World} {K : PySem.W.Frag} {mg : Str → Option Value} {base : Heap} {A : Ad}
def spLeast (A : Ad) : Sp := fun vs H Q _ => ∃ (f m : Nat) (l d g : Addr) (a : Abs), vs = [.int (f : Int), .ref l, .ref d, .int (a.repeat_ : Int)] ∧ PiecesAt A H g l (a.strips.map pr) ∧ H d = some (.dK (fdm a m)) ∧ 0 < a.repeat_ ∧ a.strips.length ≤ 6 ∧
  ∀ H', Same H H' → Q (.int ((Kh351.best a f (bl a.strips.length m)).2 : Int)) H'
theorem bl_len (n m : Nat) : (bl n m).length ≤ n := by
  have := List.length_filter_le (fun i => m.testBit i) (List.range n)
  rw [List.length_range] at this
  exact this
theorem ok_least_from (T : Tx A K mg) : FnOk P w K mg base CX0 2 A.a_least_from A.d_least_from ["place", "strips", "firsts", "repeat"] (spLeast A) := by
  refine T.F_least_from.ok sc_least_from (fun vs H Q E h => ?_) (fun cdv Ar outer s H vs Q E hr h => ?_)
  · obtain ⟨f, m, l, d, g, a, rfl, _⟩ := h
    rfl
  · obtain ⟨f, m, l, d, g, a, rfl, hPs, hd, h0, h6, k⟩ := h
    refine ⟨_, (pss_one (ps_ret (pe_minD rfl (by rfl) T.n_min (pa_cons (pe_lock (pe_lc (own := [("i", 4)]) (te := (tOp (rI0 fun i j => .int (i + j)) (tCall (spGapAhead A) [] E0 (tCons (tVar 0) (tCons (tOp (rIxL K) (tVar 1) (tVar 4)) (tCons (tVar 3) tNil)))) (tDGet (tVar 2) (tVar 4)))) (tt := tYes) rfl sc_least_from.nd (pi_keys (pv 2)) (show BlkOk ["place", "strips", "firsts", "repeat", "i"] (defScope s_least_from) _ [("i", 4)] from ⟨rfl, by decide +kernel, by decide +kernel, by decide +kernel, by decide +kernel⟩) (fun _ _ _ _ _ => (pg_name (i := 4) sc_least_from.nd rfl (Or.inl rfl))) (fun _ _ _ _ _ => pts_nil) (fun _ _ _ _ _ => (pe_op op_add (pe_call (ok_gap_ahead T) (hr.mono (by decide)) rfl T.m_gap_ahead T.F_gap_ahead.kp T.b_gap_ahead .nil pass0 (pa_cons (pv 0) (pa_cons (pe_ix ix_list (pv 1) (pv 4) (fun _ _ => rfl)) (pa_cons (pv 3) pa_nil)))) (pe_dget (hu_of hr) (pv 2) (pv 4) (fun _ _ => rfl)))))) pa_nil) (pk_cons pe_int pk_nil)))), ?_⟩
    refine ⟨d, _, hd, trivial, fun od => ⟨_, rfl, d, od, rfl, .inl ⟨_, upd_same, fun D hD => ?_⟩⟩⟩
    have hPl := PiecesAt.atD (o := .frz od (.dK (fdm a m))) hd hPs
    refine lc_keys (d := d) (o := od) (kvs := fdm a m) (fun i H' => Same (upd H d (.frz od (.dK (fdm a m)))) H' ∧ H' D = some (.lst (iv (((bl a.strips.length m).take i).map (gF a f (bl a.strips.length m))))))
      ⟨Same.upd hD, upd_same⟩ (fun i H' _ ⟨s1, _⟩ => s1 _ _ upd_same) ?_ ?_
    · rintro i kk vv H' hi ⟨s1, hD1⟩
      obtain ⟨j, hj, rfl, rfl⟩ := fdK_get hi
      obtain ⟨hjn, hjb⟩ := bl_get hj
      obtain ⟨xs, ad, dy, hl, hx, hpy⟩ := strip_at (hPl.mono s1) hjn
      refine ⟨rfl, ?_⟩
      dsimp only [tYes]
      rw [if_pos rfl]
      refine ⟨_, rfl, _, rfl, _, rfl, l, _, _, _, rfl, rfl, SqL.of hl, atI_nat hx, _, rfl, f, a.repeat_, ad, ((stripAt a j).long, (stripAt a j).begins), rfl, ⟨dy, hpy⟩, h0, _, rfl, _, rfl, d, _, rfl, .inl ⟨_, (Sum.inl (j : Int) : Key), .inr ⟨od, s1 _ _ upd_same⟩, rfl, (valV_fd (mem_bl.mpr ⟨hjn, hjb⟩)).symm⟩, _, _, rfl, rfl, ?_⟩
      refine ⟨_, hD1, ?_, fun b o e => ?_, ?_⟩
      · have := bl_len a.strips.length m
        rw [iv_len, List.length_map, List.length_take]
        exact Nat.lt_of_le_of_lt (show min i _ ≤ 6 by omega) (by decide)
      · rw [upd_ne (ne_of_none e hD)]
        exact s1 _ _ e
      · rw [upd_same, take_snoc hj, List.map_append, iv_app]
        rfl
    · rintro H' ⟨s1, hD1⟩
      rw [show (fdm a m).length = (bl a.strips.length m).length from fdK_len .., List.take_length] at hD1
      have s2 := lock_same hd s1
      have hDd : D ≠ d := fun e => by rw [e, upd_same] at hD; cases hD
      refine ⟨s1 _ _ upd_same, D, ((bl a.strips.length m).map (gF a f (bl a.strips.length m))).map fun (i : Nat) => (i : Int), .int 0, rfl, rfl, SqL.of (by rw [upd_ne hDd, hD1, iv_ints]), fun hn => ?_, fun M hM hle => ?_⟩
      · have e : bl a.strips.length m = [] := List.map_eq_nil_iff.mp (List.map_eq_nil_iff.mp hn)
        have := k _ s2
        rw [e, best_nil] at this
        exact this
      · obtain ⟨M', hM', rfl⟩ := List.mem_map.mp hM
        have := least_is a f (bl_nodup a.strips.length m) hM' fun y hy => by
          have := hle (y : Int) (List.mem_map.mpr ⟨y, hy, rfl⟩)
          omega
        rw [this]
        exact k _ s2
theorem bit_test (c t : Nat) : decide (V.int (Builtin.bitAnd ((c : Int) / 2 ^ ((t : Int)).toNat) 1) = V.int 1) = true ↔ c.testBit t = true := by
  rw [deq_int, bitAnd_m1, Nat.testBit_eq_decide_div_mod_eq, decide_eq_true_iff]
  have e : ((c / 2 ^ t % 2 : Nat) : Int) = (c : Int) / 2 ^ ((t : Int)).toNat % 2 := by
    rw [Int.toNat_natCast]
    norm_cast
  omega
theorem shl_one (t : Nat) : (1 : Int) * 2 ^ ((t : Int)).toNat = ((2 ^ t : Nat) : Int) := by
  rw [Int.toNat_natCast, Int.one_mul]
  norm_cast
def spFirsts (A : Ad) : Sp := fun vs H Q _ => ∃ (l g : Addr) (a : Abs), vs = [.ref l, .int (a.repeat_ : Int)] ∧ PiecesAt A H g l (a.strips.map pr) ∧ 0 < a.repeat_ ∧ a.strips.length ≤ 6 ∧
  ∀ H' q, Same H H' → FoundAt H' q a (2 ^ a.strips.length) → Q (.ref q) H'
theorem pow_le {n : Nat} (h : n ≤ 6) : 2 ^ n ≤ 64 := Nat.pow_le_pow_right (by decide) h
theorem cpow1 {t : Nat} (h : t ≤ 6) : CPow 1 (t : Int) := ⟨by omega, by omega, by decide⟩
theorem ok_firsts_of_sets (T : Tx A K mg) : FnOk P w K mg base CX0 3 A.a_firsts_of_sets A.d_firsts_of_sets ["strips", "repeat"] (spFirsts A) := by
  refine T.F_firsts_of_sets.ok sc_firsts_of_sets (fun vs H Q E h => ?_) (fun cdv Ar outer s H vs Q E hr h => ?_)
  · obtain ⟨l, g, a, rfl, _⟩ := h
    rfl
  · obtain ⟨l, g, a, rfl, hPs, h0, h6, k⟩ := h
    obtain ⟨hlg, as, hl, hP⟩ := id hPs
    have hlen : as.length = a.strips.length := by rw [hP.length, List.length_map]
    refine ⟨_, (pss_cons (ps_set (i := 2) sc_firsts_of_sets.nd rfl (Or.inl rfl) (pe_lst (pa_cons pe_dnewK pa_nil)))
      (pss_cons (ps_for PassesOwn.never rfl (pi_range2 rfl T.n_range (pa_cons pe_int (pa_cons (pe_op op_shl pe_int (pe_callB call_len_seq (by rfl) T.n_len bt_len (pa_cons (pv 0) pa_nil))) pa_nil))) (pg_name (i := 3) sc_firsts_of_sets.nd rfl (Or.inl rfl)) (pss_cons (ps_set (i := 4) sc_firsts_of_sets.nd rfl (Or.inl rfl) pe_dnewK)
      (pss_cons (ps_for PassesOwn.never rfl (pi_enum rfl T.n_enumerate (pa_cons (pv 0) pa_nil)) (pg_tup (n := 2) rfl (pgs_cons (pg_name (i := 5) sc_firsts_of_sets.nd rfl (Or.inl rfl)) (pgs_cons (pg_name (i := 6) sc_firsts_of_sets.nd rfl (Or.inl rfl)) pgs_nil))) (pss_one (ps_if (pt_cmpR op_eq (pe_op op_and (pe_op op_shr (pv 3) (pv 5)) pe_int) pe_int (nomark _)) (pss_cons (ps_set (i := 7) sc_firsts_of_sets.nd rfl (Or.inl rfl) (pe_ix ix_list (pv 2) (pe_op op_sub (pv 3) (pe_op op_shl pe_int (pv 5))) (fun _ _ => rfl)))
      (pss_one (ps_dput (hu_of hr) (pv 4) (pv 5) (pe_op op_add (pe_fld (pv 6) rfl) (pe_call (ok_least_from T) (hr.mono (by decide)) rfl T.m_least_from T.F_least_from.kp T.b_least_from .nil pass0 (pa_cons (pe_op op_add (pe_fld (pv 6) rfl) (pe_fld (pv 6) rfl)) (pa_cons (pv 0) (pa_cons (pv 7) (pa_cons (pv 1) pa_nil)))))) rfl))) pss_nil)))
      (pss_one (ps_expr (pe_bm PySem.F.plainAttrs_list PySem.F.slot_list_append PySem.F.type_list_append mt_append (pv 2) (pa_cons (pv 4) pa_nil)))))))
      (pss_one (ps_ret (pv 2))))), ?_⟩
    refine fun d0 hd0 => ⟨(by show 1 ≤ sizeLine; decide), fun q hq => ?_⟩
    have s0' := Same.upd (o := .dK []) hd0
    have s0 := s0'.trans (Same.upd (o := .lst [.ref d0]) hq)
    have hq0 : H q = none := s0'.free hq
    refine ⟨_, rfl, l, _, rfl, .inl (SqL.of (s0 _ _ hl)), _, _, rfl, rfl, ?_⟩
    rw [List.length_map, hlen]
    refine ⟨cpow1 h6, 1, _, rfl, ?_⟩
    rw [shl_one]
    have hp64 := pow_le h6
    have hp1 : 1 ≤ 2 ^ a.strips.length := Nat.one_le_two_pow
    refine ⟨⟨by omega, by omega, by omega, by omega⟩, ?_⟩
    rw [show (((2 ^ a.strips.length : Nat) : Int) - 1).toNat = 2 ^ a.strips.length - 1 by omega]
    refine for_range (lo := 1) (n := 2 ^ a.strips.length - 1) (fun i σ H' => Same H H' ∧ ∃ v3 v4 v5 v6 v7 : Option V, σ = [some (.ref l), some (.int (a.repeat_ : Int)), some (.ref q), v3, v4, v5, v6, v7] ∧ FoundAt H' q a (i + 1))
      ⟨s0, none, none, none, none, none, rfl, [d0], upd_same, .cons ?_ .nil⟩ ?_ ?_
    · rw [upd_ne (ne_of_none upd_same hq), upd_same, show fdm a 0 = [] by unfold fdm; rw [bl_zero]; rfl]
    · rintro i σ H1 hi ⟨s1, v3, v4, v5, v6, v7, rfl, hF⟩
      intro d1 hd1
      have hd1' : H d1 = none := s1.free hd1
      have hl1 := s1 _ _ hl
      have hC : ((1 : Int) + (i : Int)) = ((1 + i : Nat) : Int) := rfl
      rw [hC]
      refine ⟨_, rfl, l, _, rfl, SqL.of (Same.upd hd1 _ _ hl1), for_enum (K := K) (a := l) (xs := as.map V.ref) (fun t σ H' => Same H1 H' ∧ ∃ v5 v6 v7 : Option V, σ = [some (.ref l), some (.int (a.repeat_ : Int)), some (.ref q), some (.int ((1 + i : Nat) : Int)), some (.ref d1), v5, v6, v7] ∧
        H' d1 = some (.dK (fdK a (bl a.strips.length (1 + i)) (bl t (1 + i))))) ⟨Same.upd hd1, _, _, _, rfl, upd_same⟩ (fun t σ H' _ ⟨s2, _⟩ => SqL.of (s2 _ _ hl1)) ?_ ?_⟩
      · rintro t y σ H2 T0 ht ⟨s2, v5, v6, v7, rfl, hd2⟩ hT
        obtain ⟨ad, had, rfl⟩ := ref_get ht
        have htn : t < a.strips.length := by rw [← hlen]; exact (List.getElem?_eq_some_iff.mp had).1
        obtain ⟨ad', had', dy, hpy⟩ := Paired.get hP (getElem?_pr (stripAt_get htn))
        obtain rfl : ad' = ad := Option.some.inj (had'.symm.trans had)
        have s3' := Same.upd (o := .tup [.int (t : Nat), .ref ad']) hT
        have s3 := s2.trans s3'
        have sH := s1.trans s3
        have hd3 := s3' _ _ hd2
        have hpy3 := sH _ _ hpy
        refine ⟨T0, _, rfl, SqT.of upd_same, rfl, _, _, rfl, _, _, rfl, rfl, ?_⟩
        refine ⟨_, rfl, _, rfl, _, _, rfl, rfl, (by show (0 : Int) ≤ (t : Int); omega), _, _, rfl, rfl, rfl, _, rfl, ite2 (fun h => ?_) (fun h => ?_)⟩
        · have hbit := (bit_test (1 + i) t).mp h
          have hge := tb_ge hbit
          have hlt : 1 + i - 2 ^ t < i + 1 := by
            have : 1 ≤ 2 ^ t := Nat.one_le_two_pow
            omega
          obtain ⟨xs, dr, hq3, hx, hdr, hxl⟩ := FoundAt.get (hF.mono s3) hlt
          have eix : ((1 + i : Nat) : Int) - (1 : Int) * 2 ^ ((t : Int)).toNat = ((1 + i - 2 ^ t : Nat) : Int) := by
            rw [shl_one]
            omega
          refine ⟨_, rfl, _, rfl, _, rfl, _, _, rfl, rfl, cpow1 (by omega), _, _, rfl, rfl, q, _, _, _, rfl, rfl, SqL.of hq3, (by rw [eix]; exact atI_nat hx), ?_⟩
          refine ⟨_, rfl, _, _, _, _, _, rfl, hpy3, T.cl_Piece, T.f_Piece_long, pf_long, _, rfl, _, _, _, _, _, rfl, hpy3, T.cl_Piece, T.f_Piece_begins, pf_begins, _, rfl, _, _, _, _, _, rfl, hpy3, T.cl_Piece, T.f_Piece_long, pf_long, _, _, rfl, rfl, _, rfl, _, rfl, _, rfl, (stripAt a t).begins + (stripAt a t).long, 1 + i - 2 ^ t, l, dr, g, a, rfl, hPs.mono sH, hdr, h0, h6, fun H4 s4' => ?_⟩
          have hd4 := s4' _ _ hd3
          refine ⟨_, _, rfl, rfl, _, rfl, _, rfl, d1, _, rfl, DPut.k (k := (Sum.inl (t : Int) : Key)) hd4 (by rw [fdK_len]; exact Nat.lt_of_le_of_lt (Nat.le_trans (bl_len _ _) (show t ≤ 6 by omega)) (by decide)), ?_⟩
          refine ⟨fun b o e => ?_, _, _, _, rfl, ?_⟩
          · rw [upd_ne (ne_of_none e hd1)]
            exact s4' _ _ (s3 _ _ e)
          · rw [upd_same, putK_new _ (valV_fd_none fun q => Nat.lt_irrefl _ (mem_bl.mp q).1), bl_succ, if_pos hbit]
            unfold fdK
            rw [List.map_append]
            show some (HO.dK (_ ++ [((Sum.inl (t : Int) : Key), V.int (((stripAt a t).long : Int) + ((Kh351.best a ((stripAt a t).begins + (stripAt a t).long) (bl a.strips.length (1 + i - 2 ^ t))).2 : Int)))])) = _
            rw [bl_sub hbit]
            rfl
        · have hbit : ¬ (1 + i).testBit t = true := fun q => h ((bit_test (1 + i) t).mpr q)
          refine ⟨s3, _, _, _, rfl, ?_⟩
          rw [hd3, bl_succ, if_neg hbit, List.append_nil]
      · rintro σ H2 ⟨s2, v5, v6, v7, rfl, hd2⟩
        rw [List.length_map, hlen] at hd2
        obtain ⟨ds, hds, hPd⟩ := hF.mono s2
        have hdl : ds.length = i + 1 := by rw [hPd.length, List.length_range]
        refine ⟨_, rfl, .inl ⟨rfl, _, SqL.of hds⟩, _, rfl, q, _, _, rfl, rfl, hds, (by rw [List.length_map, hdl]; exact Nat.lt_of_le_of_lt (show i + 1 ≤ 64 by omega) (by decide)), ?_⟩
        refine ⟨fun b o e => ?_, _, _, _, _, _, rfl, ds ++ [d1], ?_, ?_⟩
        · rw [upd_ne (ne_of_none e hq0)]
          exact s2 _ _ (s1 _ _ e)
        · rw [upd_same, List.map_append]
          rfl
        · rw [List.range_succ]
          refine Paired.app (pimp (fun d j q => ?_) hPd) (.cons ?_ .nil)
          · rw [upd_ne (ne_of q hds (by intro z; cases z))]
            exact q
          · rw [upd_ne (ne_of hd2 hds (by intro z; cases z)), hd2, Nat.add_comm 1 i]
            rfl
    · rintro σ H' ⟨s1, v3, v4, v5, v6, v7, rfl, hF⟩
      refine ⟨_, rfl, k H' q s1 ?_⟩
      rw [show 2 ^ a.strips.length - 1 + 1 = 2 ^ a.strips.length by omega] at hF
      exact hF
end
end PM

end

section
set_option Elab.async false
set_option linter.all false
set_option maxRecDepth 100000
set_option maxHeartbeats 2000000
namespace PM
open PySem PySem.Spec PyProof.Rows L2
open Kh351 (Abs Strip)
theorem ofOrder_at {a : Abs} {l o : List Nat} (h : o.Perm l) (hl : ∀ i ∈ l, i < a.strips.length) : ∀ i ∈ o, i < a.strips.length := fun i hi => hl i (h.mem_iff.mp hi)
theorem SameT.wr {H H' : Hp} {q : Addr} {o : HO} (k : SameT H H') (h : H q = none) : SameT H (upd H' q o) := fun b u e => by
  rw [upd_ne (ne_of_none e h)]
  exact k b u e
theorem Same.wr {H H' : Hp} {q : Addr} {o : HO} (k : Same H H') (h : H q = none) : Same H (L2.upd H' q o) := fun b u e => by
  rw [upd_ne (ne_of_none e h)]
  exact k b u e
section
variable {P : Program} {w : World} {K : PySem.W.Frag} {mg : Str → Option Value} {base : Heap} {A : Ad}
def spNeedAll (A : Ad) : Sp := fun vs H Q _ => ∃ (l g : Addr) (a : Abs), vs = [.ref l, .int (a.repeat_ : Int)] ∧ PiecesAt A H g l (a.strips.map pr) ∧ 0 < a.repeat_ ∧ a.strips.length ≤ 6 ∧
  ∀ H', Same H H' → Q (.int ((Kh351.best a 0 (List.range a.strips.length)).2 : Int)) H'
theorem ok_least_need (T : Tx A K mg) : FnOk P w K mg base CX0 4 A.a_least_need A.d_least_need ["strips", "repeat"] (spNeedAll A) := by
  refine T.F_least_need.ok sc_least_need (fun vs H Q E h => ?_) (fun cdv Ar outer s H vs Q E hr h => ?_)
  · obtain ⟨l, g, a, rfl, _⟩ := h
    rfl
  · obtain ⟨l, g, a, rfl, hPs, h0, h6, k⟩ := h
    refine ⟨_, (pss_one (ps_ret (pe_call (ok_least_from T) (hr.mono (by decide)) rfl T.m_least_from T.F_least_from.kp T.b_least_from .nil pass0 (pa_cons pe_int (pa_cons (pv 0) (pa_cons (pe_ix ix_list (pe_call (ok_firsts_of_sets T) (hr.mono (by decide)) rfl T.m_firsts_of_sets T.F_firsts_of_sets.kp T.b_firsts_of_sets .nil pass0 (pa_cons (pv 0) (pa_cons (pv 1) pa_nil))) (pe_un un_neg pe_int) (fun _ _ => rfl)) (pa_cons (pv 1) pa_nil))))))), ?_⟩
    refine ⟨_, rfl, _, rfl, _, rfl, l, g, a, rfl, hPs, h0, h6, fun H1 q s1 hF => ?_⟩
    have hp1 : 1 ≤ 2 ^ a.strips.length := Nat.one_le_two_pow
    obtain ⟨xs, d, hq, hx, hd, hxl⟩ := hF.get (j := 2 ^ a.strips.length - 1) (by omega)
    refine ⟨_, rfl, q, _, _, _, rfl, rfl, SqL.of hq, atI_neg1 (n := 2 ^ a.strips.length - 1) (by omega) hx, _, rfl, 0, 2 ^ a.strips.length - 1, l, d, g, a, rfl, hPs.mono s1, hd, h0, h6, fun H2 s2 => ?_⟩
    rw [bl_full]
    exact k H2 (s1.trans s2)
def mkFiner (ws : List V) (c : Kh351.Call) : Prop := ∃ r : Nat, ws = [.int (r : Int)] ∧ c = .finer r
theorem ok_finer (T : Tx A K mg) : FnOk P w K mg base CX0 5 A.a_finer A.d_finer ["carpet", "r"] (spC A mkFiner) := by
  refine T.F_finer.ok sc_finer (fun vs H Q E h => ?_) (fun cdv Ar outer s H vs Q E hr h => ?_)
  · obtain ⟨p, g, a, c, ws, rfl, ⟨r, rfl, _⟩, _⟩ := h
    rfl
  · obtain ⟨p, g, a, c, ws, rfl, ⟨r, rfl, rfl⟩, hC, W, hg, k⟩ := h
    obtain ⟨dx, a0, b0, c0, ts, C⟩ := id hC
    refine ⟨_, (pss_cons (ps_if (pt_not (pt_val (pe_call (ok_goes_into T) (hr.mono (by decide)) rfl T.m_goes_into T.F_goes_into.kp T.b_goes_into .nil pass0 (pa_cons (pv 1) (pa_cons (pe_fld (pv 0) rfl) pa_nil))))) (pss_one (ps_ret (pe_lst (pa_cons (pe_gint rfl T.c_NOT_AS_TOLD) pa_nil)))) pss_nil)
      (pss_one (ps_ret (pe_lst (pa_cons (pe_call (ok_least_need T) (hr.mono (by decide)) rfl T.m_least_need T.F_least_need.kp T.b_least_need .nil pass0 (pa_cons (pe_call (ok_places_left T) (hr.mono (by decide)) rfl T.m_places_left T.F_places_left.kp T.b_places_left .nil pass0 (pa_cons (pe_fld (pv 0) rfl) (pa_cons (pv 1) pa_nil))) (pa_cons (pv 1) pa_nil))) pa_nil))))), ?_⟩
    refine ⟨_, rfl, _, rfl, _, _, _, _, _, rfl, C.at_, T.cl_Carpet, T.f_Carpet_repeat, cf_repeat, r, a.repeat_, rfl, _, rfl, ?_⟩
    by_cases hx : r < 1 ∨ a.repeat_ % r ≠ 0
    · rw [decide_eq_false (show ¬ (r ≠ 0 ∧ a.repeat_ % r = 0) by omega)]
      exact iteT ⟨by show 1 ≤ sizeLine; decide, fun q hq => k.no (if_pos hx) hC hq⟩
    · rw [decide_eq_true (show r ≠ 0 ∧ a.repeat_ % r = 0 by omega)]
      refine iteF ?_
      refine ⟨_, rfl, _, _, _, _, _, rfl, C.at_, T.cl_Carpet, T.f_Carpet_strips, cf_strips, _, rfl, a0, g, _, r, rfl, C.strips, (by rw [List.length_map]; exact Nat.le_trans W.now.s (by decide)), by omega, hg, fun H1 q1 s1 P1 => ?_⟩
      have hP1 : PiecesAt A H1 g q1 ((Kh351.finer a r).strips.map pr) := by
        have e : (Kh351.finer a r).strips.map pr = (a.strips.map pr).map fun x => (x.1, x.2 % r) := by
          show (a.strips.map _).map pr = _
          rw [List.map_map, List.map_map]
          rfl
        rw [e]
        exact P1
      have hfl : (Kh351.finer a r).strips.length = a.strips.length := List.length_map ..
      refine ⟨_, rfl, q1, g, Kh351.finer a r, rfl, hP1, (by show 0 < r; omega), (by rw [hfl]; exact W.now.s), fun H2 s2 => ⟨by show 1 ≤ sizeLine; decide, fun q hq => ?_⟩⟩
      rw [hfl]
      exact k.fin _ (if_neg hx) rfl (xs := [((Kh351.best (Kh351.finer a r) 0 (List.range a.strips.length)).2 : Int)]) rfl (hC.mono (s1.trans s2)) (But.of (s1.trans s2)) hq
def spFirst (A : Ad) : Sp := fun vs H Q _ => ∃ (f m : Nat) (l d g : Addr) (a : Abs), vs = [.int (f : Int), .ref l, .ref d, .int (a.repeat_ : Int)] ∧ PiecesAt A H g l (a.strips.map pr) ∧ H d = some (.dK (fdm a m)) ∧ bl a.strips.length m ≠ [] ∧ 0 < a.repeat_ ∧ a.strips.length ≤ 6 ∧ TabAt A H ∧
  ∀ H' i, SameT H H' → TabAt A H' → i ∈ bl a.strips.length m → Kh351.best a f (bl a.strips.length m) = grp a f (bl a.strips.length m) i → Q (.int (i : Int)) H'
theorem ok_best_first (T : Tx A K mg) (B : Bx A mg base) : FnOk P w K mg base CX0 4 A.a_best_first A.d_best_first ["place", "strips", "firsts", "repeat"] (spFirst A) := by
  obtain ⟨oc, od, kVv, doc, pm, an, cdv, ct, osl, e, lk, hcd⟩ := T.F_best_first.ex
  have hcv : cdv = .ref A.t_c := by
    have := T.tcd
    rw [e] at this
    exact this
  subst hcv
  rw [e] at lk ⊢
  refine fn_of lk hcd sc_best_first (fun vs H Q E h => ?_) (fun Ar outer s H vs Q E hr h => ?_)
  · obtain ⟨f, m, l, d, g, a, rfl, _⟩ := h
    rfl
  · obtain ⟨f, m, l, d, g, a, rfl, hPs, hd, hne, h0, h6, hT, k⟩ := h
    suffices hs : ∃ t, PSs (cxOf CX0 P w K mg base ["place", "strips", "firsts", "repeat", "i"] "best_first" (defScope s_best_first) A.a_best_first (.ref A.t_c) Ar outer s H E).nox (defBody s_best_first) t ∧ t { nx := fun _ H' => Q .non H', rt := Q } (start ["place", "strips", "firsts", "repeat", "i"] [.int (f : Int), .ref l, .ref d, .int (a.repeat_ : Int)]) H by
      obtain ⟨t, ht, hq⟩ := hs
      exact ⟨t, ht.nox, hq⟩
    refine ⟨_, (pss_one (ps_ret (pe_minK (tb := (tOp (rI0 fun i j => .int (i + j)) (tCall (spGapAhead A) [] E0 (tCons (tVar 0) (tCons (tOp (rIxL K) (tVar 1) (tVar 4)) (tCons (tVar 3) tNil)))) (tDGet (tVar 2) (tVar 4)))) rfl hr (by rfl) T.n_min rfl B.code B.bm (show LamOk ["place", "strips", "firsts", "repeat", "i"] (defScope s_best_first) _ "i" 4 from ⟨rfl, rfl, rfl, by decide +kernel, by decide +kernel, by decide +kernel, by decide +kernel, rfl, rfl, by decide +kernel⟩) rfl (fun _ _ _ _ _ _ => rfl) (pa_cons (pe_callTy (call_list_dict rfl) (by rfl) T.n_list bt_list (pa_cons (pv 2) pa_nil)) pa_nil) (fun _ _ _ _ _ _ => (pe_op op_add (pe_call (ok_gap_ahead T) (((hr.mono (j := 3) (by decide)).in1.deeper _).mono (by decide)) rfl T.m_gap_ahead T.F_gap_ahead.kp T.b_gap_ahead .nil pass0 (pa_cons (pv 0) (pa_cons (pe_ix ix_list (pv 1) (pv 4) (fun _ _ => rfl)) (pa_cons (pv 3) pa_nil)))) (pe_dget (hu_of ((hr.mono (j := 3) (by decide)).in1.deeper _)) (pv 2) (pv 4) (fun _ _ => rfl))))))), ?_⟩
    refine ⟨_, rfl, d, _, rfl, hd, fun l1 hl1 => ?_⟩
    have s1 := Same.upd (o := .lst ((fdm a m).map fun p => kV p.1)) hl1
    have hlen : ((fdm a m).map fun p => kV p.1).length = (bl a.strips.length m).length := by
      rw [List.length_map]
      exact fdK_len ..
    have hget : ∀ {j : Nat} {x : V}, ((fdm a m).map fun p => kV p.1)[j]? = some x → ∃ i, (bl a.strips.length m)[j]? = some i ∧ x = .int (i : Int) := fun {j x} hx => by
      rw [List.getElem?_map] at hx
      cases e : (fdm a m)[j]? with
      | none => rw [e] at hx; cases hx
      | some kv =>
        rw [e] at hx
        obtain ⟨i, hi, hk, _⟩ := fdK_get (k := kv.1) (v := kv.2) e
        refine ⟨i, hi, ?_⟩
        have : x = kV kv.1 := (Option.some.inj hx).symm
        rw [hk] at this
        exact this
    refine ⟨l1, _, fun j => ((gF a f (bl a.strips.length m) ((bl a.strips.length m).getD j 0) : Nat) : Int), rfl, ?_, hT.mono s1, fun H2 sT hT2 => ⟨SqL.of (sT.at_ upd_same (fun _ z => nomatch z)), fun j x hx => ?_, fun j x hx hmin => ?_⟩⟩
    · rw [hlen]
      exact List.length_pos_iff.mpr hne
    · obtain ⟨i, hi, rfl⟩ := hget hx
      obtain ⟨hin, hib⟩ := bl_get hi
      have sT' := (SameT.of s1).trans sT
      obtain ⟨xs, ad, dy, hl, hx2, hpy⟩ := strip_at (hPs.monoT sT') hin
      refine ⟨_, rfl, _, rfl, _, rfl, l, _, _, _, rfl, rfl, SqL.of hl, atI_nat hx2, _, rfl, f, a.repeat_, ad, ((stripAt a i).long, (stripAt a i).begins), rfl, ⟨dy, hpy⟩, h0, _, rfl, _, rfl, d, _, rfl, .inl ⟨_, (Sum.inl (i : Int) : Key), .inl (sT'.at_ hd (fun _ z => nomatch z)), rfl, (valV_fd (mem_bl.mpr ⟨hin, hib⟩)).symm⟩, _, _, rfl, rfl, ?_⟩
      refine ⟨?_, rfl⟩
      show _ = V.int ((gF a f (bl a.strips.length m) ((bl a.strips.length m).getD j 0) : Nat) : Int)
      rw [List.getD_eq_getElem?_getD, hi]
      rfl
    · obtain ⟨i, hi, rfl⟩ := hget hx
      refine k H2 i ((SameT.of s1).trans sT) hT2 (List.mem_of_getElem? hi) (first_is a f (bl_nodup _ _) hi fun j' y hy => ?_)
      have := hmin j' (by rw [hlen]; exact (List.getElem?_eq_some_iff.mp hy).1)
      dsimp only at this
      rw [List.getD_eq_getElem?_getD, List.getD_eq_getElem?_getD, hi, hy] at this
      have h1 := this.1
      have h2 := this.2
      dsimp only [Option.getD_some] at h1 h2
      exact ⟨by omega, fun q => by have := h2 q; omega⟩
def spOrder (A : Ad) : Sp := fun vs H Q _ => ∃ (l g : Addr) (a : Abs), vs = [.ref l, .int (a.repeat_ : Int)] ∧ PiecesAt A H g l (a.strips.map pr) ∧ 0 < a.repeat_ ∧ a.strips.length ≤ 6 ∧ TabAt A H ∧
  ∀ H' o, SameT H H' → TabAt A H' → H o = none → H' o = some (.lst (iv (Kh351.best a 0 (List.range a.strips.length)).1)) → Q (.ref o) H'
theorem ok_best_order (T : Tx A K mg) (B : Bx A mg base) : FnOk P w K mg base CX0 5 A.a_best_order A.d_best_order ["strips", "repeat"] (spOrder A) := by
  refine T.F_best_order.ok sc_best_order (fun vs H Q E h => ?_) (fun cdv Ar outer s H vs Q E hr h => ?_)
  · obtain ⟨l, g, a, rfl, _⟩ := h
    rfl
  · obtain ⟨l, g, a, rfl, hPs, h0, h6, hT, k⟩ := h
    have hp64 := pow_le h6
    have hp1 : 1 ≤ 2 ^ a.strips.length := Nat.one_le_two_pow
    have hbl : (Kh351.best a 0 (List.range a.strips.length)).1.length = a.strips.length := by
      rw [(best_min a 0 List.nodup_range).1.length_eq, List.length_range]
    refine ⟨_, (pss_cons (ps_set (i := 2) sc_best_order.nd rfl (Or.inl rfl) (pe_call (ok_firsts_of_sets T) (hr.mono (by decide)) rfl T.m_firsts_of_sets T.F_firsts_of_sets.kp T.b_firsts_of_sets .nil pass0 (pa_cons (pv 0) (pa_cons (pv 1) pa_nil))))
      (pss_cons (ps_set (i := 3) sc_best_order.nd rfl (Or.inl rfl) (pe_op op_sub (pe_callB call_len_seq (by rfl) T.n_len bt_len (pa_cons (pv 2) pa_nil)) pe_int))
      (pss_cons (ps_set (i := 4) sc_best_order.nd rfl (Or.inl rfl) pe_int)
      (pss_cons (ps_set (i := 5) sc_best_order.nd rfl (Or.inl rfl) (pe_lst pa_nil))
      (pss_cons (ps_while PassesOwn.never (pt_cmpR op_ne (pv 3) pe_int (nomark _)) (pss_cons (ps_set (i := 6) sc_best_order.nd rfl (Or.inl rfl) (pe_call (ok_best_first T B) (hr.mono (by decide)) rfl T.m_best_first T.F_best_first.kp T.b_best_first .nil pass0 (pa_cons (pv 4) (pa_cons (pv 0) (pa_cons (pe_ix ix_list (pv 2) (pv 3) (fun _ _ => rfl)) (pa_cons (pv 1) pa_nil))))))
      (pss_cons (ps_expr (pe_bm PySem.F.plainAttrs_list PySem.F.slot_list_append PySem.F.type_list_append mt_append (pv 5) (pa_cons (pv 6) pa_nil)))
      (pss_cons (ps_set (i := 4) sc_best_order.nd rfl (Or.inl rfl) (pe_op op_add (pe_fld (pe_ix ix_list (pv 0) (pv 6) (fun _ _ => rfl)) rfl) (pe_fld (pe_ix ix_list (pv 0) (pv 6) (fun _ _ => rfl)) rfl)))
      (pss_one (ps_set (i := 3) sc_best_order.nd rfl (Or.inl rfl) (pe_op op_sub (pv 3) (pe_op op_shl pe_int (pv 6)))))))))
      (pss_one (ps_ret (pv 5)))))))), ?_⟩
    refine ⟨_, rfl, _, rfl, l, g, a, rfl, hPs, h0, h6, fun H1 q s1 hF => ?_⟩
    obtain ⟨xs, d, hq, hx, hd, hxl⟩ := hF.get (j := 0) (by omega)
    refine ⟨_, rfl, q, _, rfl, .inl (SqL.of hq), _, _, rfl, rfl, ?_⟩
    rw [hxl]
    have e21 : ((2 ^ a.strips.length : Nat) : Int) - 1 = ((2 ^ a.strips.length - 1 : Nat) : Int) := by omega
    refine ⟨Nat.zero_le _, fun o ho => ?_⟩
    have ho1 : H1 o = none := ho
    have hoH : H o = none := s1.free ho1
    have hqo : q ≠ o := ne_of_none hq ho1
    refine ⟨fun mm σ H' => ∃ (left f : Nat) (os : List Nat) (v6 : Option V), mm = left ∧ left < 2 ^ a.strips.length ∧ σ = [some (.ref l), some (.int (a.repeat_ : Int)), some (.ref q), some (.int (left : Int)), some (.int (f : Int)), some (.ref o), v6] ∧ SameT H1 H' ∧ TabAt A H' ∧ H' o = some (.lst (iv os)) ∧
      os ++ (Kh351.best a f (bl a.strips.length left)).1 = (Kh351.best a 0 (List.range a.strips.length)).1,
      ⟨_, 2 ^ a.strips.length - 1, 0, [], none, rfl, by omega, (by rw [← e21]; rfl), .of (Same.upd ho), (hT.mono s1).mono (Same.upd ho), upd_same, by rw [bl_full]; rfl⟩, ?_⟩
    rintro left σ H2 ⟨_, f, os, v6, rfl, hleft, rfl, sT, hT2, ho2, hbest⟩
    have sH := (SameT.of s1).trans sT
    refine ⟨_, rfl, rfl, _, rfl, ite2 (fun h => ?_) (fun h => ?_)⟩
    · have hl0 : left ≠ 0 := fun e => dne_int.mp h (by rw [e]; rfl)
      refine ⟨_, fun σ' H' h => h, ?_⟩
      obtain ⟨ys, dl, hq2, hy, hdl, _⟩ := (hF.monoT sT).get hleft
      refine ⟨_, rfl, _, rfl, _, rfl, _, rfl, q, _, _, _, rfl, rfl, SqL.of hq2, atI_nat hy, _, rfl, f, left, l, dl, g, a, rfl, hPs.monoT sH, hdl, bl_ne hleft hl0, h0, h6, hT2, fun H3 i sT3 hT3 hi hb => ?_⟩
      obtain ⟨hin, hib⟩ := mem_bl.mp hi
      have hge := tb_ge hib
      have ho3 := sT3.at_ ho2 (fun _ z => nomatch z)
      have hosl : os.length ≤ 6 := by
        have := congrArg List.length hbest
        rw [List.length_append, hbl] at this
        omega
      refine ⟨_, rfl, .inl ⟨rfl, _, SqL.of ho3⟩, _, rfl, o, _, _, rfl, rfl, ho3, (by rw [iv_len]; exact Nat.lt_of_le_of_lt hosl (by decide)), ?_⟩
      have sT4 : SameT H1 (upd H3 o (.lst (iv os ++ [.int (i : Int)]))) := SameT.wr (sT.trans sT3) ho1
      obtain ⟨zs, ad, dy, hl4, hz, hpy⟩ := strip_at ((hPs.mono s1).monoT sT4) hin
      refine ⟨_, rfl, _, rfl, l, _, _, _, rfl, rfl, SqL.of hl4, atI_nat hz, _, _, _, _, _, rfl, hpy, T.cl_Piece, T.f_Piece_begins, pf_begins, _, rfl, _, rfl, l, _, _, _, rfl, rfl, SqL.of hl4, atI_nat hz, _, _, _, _, _, rfl, hpy, T.cl_Piece, T.f_Piece_long, pf_long, _, _, rfl, rfl, ?_⟩
      refine ⟨_, rfl, _, rfl, _, _, rfl, rfl, cpow1 (by omega), _, _, rfl, rfl, ?_⟩
      have e22 : (left : Int) - (1 : Int) * 2 ^ ((i : Int)).toNat = ((left - 2 ^ i : Nat) : Int) := by
        rw [shl_one]
        omega
      have h2 : 1 ≤ 2 ^ i := Nat.one_le_two_pow
      refine ⟨left - 2 ^ i, by omega, left - 2 ^ i, (stripAt a i).begins + (stripAt a i).long, os ++ [i], _, rfl, by omega, (by rw [← e22]; rfl), sT4, tab_upd ho3 (fun _ z => nomatch z) (fun _ z => nomatch z) hT3, by rw [upd_same, iv_app]; rfl, ?_⟩
      rw [← hbest, hb, bl_sub hib, List.append_assoc]
      rfl
    · have hl0 : left = 0 := Decidable.byContradiction fun e => h (dne_int.mpr (by omega))
      rw [hl0, bl_zero, best_nil, List.append_nil] at hbest
      refine ⟨_, rfl, k H2 o sH hT2 hoH ?_⟩
      rw [ho2, hbest]
def mkBest (ws : List V) (c : Kh351.Call) : Prop := ws = [] ∧ c = .best
theorem ok_best (T : Tx A K mg) (B : Bx A mg base) : FnOk P w K mg base CX0 6 A.a_best A.d_best ["carpet"] (spC A mkBest) := by
  refine T.F_best.ok sc_best (fun vs H Q E h => ?_) (fun cdv Ar outer s H vs Q E hr h => ?_)
  · obtain ⟨p, g, a, c, ws, rfl, ⟨rfl, _⟩, _⟩ := h
    rfl
  · obtain ⟨p, g, a, c, ws, rfl, ⟨rfl, rfl⟩, hC, W, hg, k⟩ := h
    obtain ⟨dx, a0, b0, c0, ts, C⟩ := id hC
    obtain ⟨b1, b2, b3⟩ := best_min a 0 (l := List.range a.strips.length) List.nodup_range
    have W6 := W.now.s
    refine ⟨_, (pss_cons (ps_set (i := 1) sc_best.nd rfl (Or.inl rfl) (pe_call (ok_best_order T B) (hr.mono (by decide)) rfl T.m_best_order T.F_best_order.kp T.b_best_order .nil pass0 (pa_cons (pe_fld (pv 0) rfl) (pa_cons (pe_fld (pv 0) rfl) pa_nil))))
      (pss_one (ps_ret (pe_op op_cat (pe_lst (pa_cons (pe_call (ok_order_need T) (hr.mono (by decide)) rfl T.m_order_need T.F_order_need.kp T.b_order_need .nil pass0 (pa_cons (pe_fld (pv 0) rfl) (pa_cons (pv 1) (pa_cons (pe_fld (pv 0) rfl) pa_nil)))) pa_nil)) (pv 1))))), ?_⟩
    refine ⟨_, rfl, _, _, _, _, _, rfl, C.at_, T.cl_Carpet, T.f_Carpet_strips, cf_strips, _, rfl, _, _, _, _, _, rfl, C.at_, T.cl_Carpet, T.f_Carpet_repeat, cf_repeat, a0, g, a, rfl, C.strips, W.now.r1, W6, C.tab, fun H1 o sT hT ho0 ho => ?_⟩
    have C1 := C.monoT sT hT
    refine ⟨_, rfl, _, _, _, _, _, rfl, C1.at_, T.cl_Carpet, T.f_Carpet_strips, cf_strips, _, rfl, _, rfl, _, _, _, _, _, rfl, C1.at_, T.cl_Carpet, T.f_Carpet_repeat, cf_repeat, a0, o, g, a, _, rfl, C1.strips, SqL.of ho, (fun i hi => List.mem_range.mp (b1.mem_iff.mp hi)), W.now.r1, (by show 1 ≤ sizeLine; decide), fun q3 hq3 => ?_⟩
    rw [b2]
    have s3' := Same.upd (o := .lst [.int ((Kh351.best a 0 (List.range a.strips.length)).2 : Int)]) hq3
    have sT3 := sT.trans (.of s3')
    refine ⟨_, rfl, q3, o, _, _, rfl, rfl, upd_same, s3' _ _ ho, (by rw [iv_len, b1.length_eq, List.length_range]; exact Nat.le_trans (show 1 + a.strips.length ≤ 7 by omega) (by decide)), fun q4 hq4 => ?_⟩
    have := k.fin (some a, ⟨(Kh351.best a 0 (Kh351.everything a)).2, (Kh351.best a 0 (Kh351.everything a)).1⟩) rfl rfl (xs := ((Kh351.best a 0 (List.range a.strips.length)).2 : Int) :: (Kh351.best a 0 (List.range a.strips.length)).1.map Int.ofNat) rfl (hC.monoT sT3 (hT.mono s3')) (But.ofT sT3) hq4
    rw [List.map_cons, List.map_map] at this
    exact this
end
end PM

end

section
set_option Elab.async false
set_option linter.all false
set_option maxRecDepth 100000
set_option maxHeartbeats 2000000
namespace PM
open PySem PySem.Spec PyProof.Rows L2
open Kh351 (Abs Strip)
section
variable {P : Program} {w : World} {K : PySem.W.Frag} {mg : Str → Option Value} {base : Heap} {A : Ad}
theorem filter_snoc {l : List Nat} {p : Nat → Bool} {i j : Nat} (h : l[i]? = some j) : (l.take (i + 1)).filter p = (l.take i).filter p ++ if p j = true then [j] else [] := by
  rw [take_snoc h, List.filter_append, List.filter_cons]
  by_cases e : p j = true
  · rw [if_pos e, if_pos e]
    rfl
  · rw [if_neg e, if_neg e]
    rfl
def spShift (A : Ad) : Sp := fun vs H Q _ => ∃ (l g : Addr) (a : Abs), vs = [.ref l, .int (a.repeat_ : Int)] ∧ PiecesAt A H g l (a.strips.map pr) ∧ Ok3 a.repeat_ a.strips [] ∧
  ∀ H' t, Same H H' → H' t = some (.tup [.int ((Kh351.bestMove a).1 : Int), .int ((Kh351.bestMove a).2 : Int)]) → Q (.ref t) H'
theorem ok_best_shift (T : Tx A K mg) : FnOk P w K mg base CX0 4 A.a_best_shift A.d_best_shift ["strips", "repeat"] (spShift A) := by
  refine T.F_best_shift.ok sc_best_shift (fun vs H Q E h => ?_) (fun cdv Ar outer s H vs Q E hr h => ?_)
  · obtain ⟨l, g, a, rfl, _⟩ := h
    rfl
  · obtain ⟨l, g, a, rfl, hPs, W, k⟩ := h
    have h0 := W.r1
    have h6 := W.s
    have hb : ∀ i, i < a.strips.length → (stripAt a i).begins < a.repeat_ := fun i hi => (W.ps _ (List.mem_of_getElem? (stripAt_get hi))).2.2
    refine ⟨_, (pss_cons (ps_set (i := 2) sc_best_shift.nd rfl (Or.inr rfl) (pe_ix ix_list (pe_call (ok_firsts_of_sets T) (hr.mono (by decide)) rfl T.m_firsts_of_sets T.F_firsts_of_sets.kp T.b_firsts_of_sets .nil pass0 (pa_cons (pv 0) (pa_cons (pv 1) pa_nil))) (pe_un un_neg pe_int) (fun _ _ => rfl)))
      (pss_cons (ps_set (i := 3) sc_best_shift.nd rfl (Or.inr rfl) (pe_minD rfl (by rfl) T.n_min (pa_cons (pe_lock (pe_lc (own := [("i", 5)]) (te := (tDGet (tVar 2) (tVar 5))) (tt := tYes) rfl sc_best_shift.nd (pi_keys (pv 2)) (show BlkOk ["strips", "repeat", "firsts", "least", "shifts", "i"] (defScope s_best_shift) _ [("i", 5)] from ⟨rfl, by decide +kernel, by decide +kernel, by decide +kernel, by decide +kernel⟩) (fun _ _ _ _ _ => (pg_name (i := 5) sc_best_shift.nd rfl (Or.inl rfl))) (fun _ _ _ _ _ => pts_nil) (fun _ _ _ _ _ => (pe_dget (hu_of hr) (pv 2) (pv 5) (fun _ _ => rfl))))) pa_nil) (pk_cons pe_int pk_nil)))
      (pss_cons (ps_lock (ps_setLc (i := 4) (own := [("i", 5)]) (te := (tOp (rI (fun _ j => 0 < j) fun i j => .int (i % j)) (tOp (rI0 fun i j => .int (i - j)) (tVar 1) (tFld K (tOp (rIxL K) (tVar 0) (tVar 5)) "begins")) (tVar 1))) (tt := (tTest (tOp rEq (tDGet (tVar 2) (tVar 5)) (tVar 3)))) rfl sc_best_shift.nd rfl rfl (sw_true rfl rfl rfl rfl) (pi_keys (pv 2)) (show BlkOk ["strips", "repeat", "firsts", "least", "shifts", "i"] (defScope s_best_shift) _ [("i", 5)] from ⟨rfl, by decide +kernel, by decide +kernel, by decide +kernel, by decide +kernel⟩) (fun _ _ _ _ _ => (pg_name (i := 5) sc_best_shift.nd rfl (Or.inl rfl))) (fun _ _ _ _ _ => pts_one (pt_cmpR op_eq (pe_dget (hu_of hr) (pv 2) (pv 5) (fun _ _ => rfl)) (pv 3) (nomark _))) (fun _ _ _ _ _ => (pe_op op_mod (pe_op op_sub (pv 1) (pe_fld (pe_ix ix_list (pv 0) (pv 5) (fun _ _ => rfl)) rfl)) (pv 1)))))
      (pss_one (ps_ret (pe_tup (pa_cons (pe_minD rfl (by rfl) T.n_min (pa_cons (pv 4) pa_nil) (pk_cons pe_int pk_nil)) (pa_cons (pv 3) pa_nil)))))))), ?_⟩
    refine ⟨_, rfl, _, rfl, l, g, a, rfl, hPs, h0, h6, fun H1 q s1 hF => ?_⟩
    have hp1 : 1 ≤ 2 ^ a.strips.length := Nat.one_le_two_pow
    obtain ⟨xs, d, hq, hx, hd, hxl⟩ := hF.get (j := 2 ^ a.strips.length - 1) (by omega)
    refine ⟨_, rfl, q, _, _, _, rfl, rfl, SqL.of hq, atI_neg1 (n := 2 ^ a.strips.length - 1) (by omega) hx, ?_⟩
    have efd : fdm a (2 ^ a.strips.length - 1) = fdK a (List.range a.strips.length) (List.range a.strips.length) := by
      unfold fdm
      rw [bl_full]
    rw [efd] at hd
    -- least
    refine ⟨d, _, hd, trivial, fun od => ⟨_, rfl, d, od, rfl, .inl ⟨_, upd_same, fun D hD => ?_⟩⟩⟩
    refine lc_keys (d := d) (o := od) (kvs := fdK a (List.range a.strips.length) (List.range a.strips.length)) (fun i H' => Same (upd H1 d (.frz od (.dK (fdK a (List.range a.strips.length) (List.range a.strips.length))))) H' ∧ H' D = some (.lst (iv (((List.range a.strips.length).take i).map (F a (List.range a.strips.length))))))
      ⟨Same.upd hD, upd_same⟩ (fun i H' _ ⟨s2, _⟩ => s2 _ _ upd_same) ?_ ?_
    · rintro i kk vv H' hi ⟨s2, hD2⟩
      obtain ⟨j, hj, rfl, rfl⟩ := fdK_get hi
      refine ⟨rfl, ?_⟩
      dsimp only [tYes]
      rw [if_pos rfl]
      refine ⟨_, rfl, _, rfl, d, _, rfl, .inl ⟨_, (Sum.inl (j : Int) : Key), .inr ⟨od, s2 _ _ upd_same⟩, rfl, (valV_fd (List.mem_of_getElem? hj)).symm⟩, ?_⟩
      refine ⟨_, hD2, ?_, Same.wr s2 hD, ?_⟩
      · rw [iv_len, List.length_map, List.length_take, List.length_range]
        exact Nat.lt_of_le_of_lt (show min i _ ≤ 6 by omega) (by decide)
      · rw [upd_same, take_snoc hj, List.map_append, iv_app]
        rfl
    rintro H2 ⟨s2, hD2⟩
    rw [fdK_len, List.take_length] at hD2
    have s3 := lock_same hd s2
    have hDd : D ≠ d := fun e => by rw [e, upd_same] at hD; cases hD
    have hdl : (upd H2 d (.dK (fdK a (List.range a.strips.length) (List.range a.strips.length)))) d = some (.dK (fdK a (List.range a.strips.length) (List.range a.strips.length))) := upd_same
    -- what follows, whatever the least is
    have dne : d ≠ D := Ne.symm hDd
    have rest : ∀ (v : Nat) (D2 : Addr) (H5 : Hp), (a.strips.length = 0 → v = 0) → (a.strips.length ≠ 0 → v ∈ (List.range a.strips.length).map (F a (List.range a.strips.length)) ∧ ∀ y ∈ (List.range a.strips.length).map (F a (List.range a.strips.length)), v ≤ y) →
        Same H H5 → H5 D2 = some (.lst (iv (((List.range a.strips.length).filter fun i => decide (F a (List.range a.strips.length) i = v)).map (sh a)))) → ∀ (t : Addr) (m : Int), H5 t = none →
        ((((List.range a.strips.length).filter fun i => decide (F a (List.range a.strips.length) i = v)).map (sh a)).map (fun (i : Nat) => (i : Int)) = [] ∧ m = 0 ∨ m ∈ (((List.range a.strips.length).filter fun i => decide (F a (List.range a.strips.length) i = v)).map (sh a)).map (fun (i : Nat) => (i : Int)) ∧ ∀ y ∈ (((List.range a.strips.length).filter fun i => decide (F a (List.range a.strips.length) i = v)).map (sh a)).map (fun (i : Nat) => (i : Int)), m ≤ y) →
        Q (.ref t) (upd H5 t (.tup [.int m, .int (v : Int)])) := by
      intro v D2 H5 hv0 hv1 s5 hD5 t m ht hm
      refine k _ t (s5.trans (Same.upd ht)) ?_
      rw [upd_same]
      rcases hm with ⟨hn, rfl⟩ | ⟨hm, hle⟩
      · have hn' := List.map_eq_nil_iff.mp (List.map_eq_nil_iff.mp hn)
        have hz : a.strips.length = 0 := Decidable.byContradiction fun hz => by
          obtain ⟨i, hi, e⟩ := List.mem_map.mp (hv1 hz).1
          have : i ∈ (List.range a.strips.length).filter fun i => decide (F a (List.range a.strips.length) i = v) := List.mem_filter.mpr ⟨hi, decide_eq_true e⟩
          rw [hn'] at this
          cases this
        rw [move_nil (List.length_eq_zero_iff.mp hz), hv0 hz]
        rfl
      · obtain ⟨m', hm', rfl⟩ := List.mem_map.mp hm
        obtain ⟨i, hi, rfl⟩ := List.mem_map.mp hm'
        obtain ⟨hir, hiF⟩ := List.mem_filter.mp hi
        have hil := List.mem_range.mp hir
        have hz : a.strips.length ≠ 0 := by omega
        have hbm := shift_is (a := a) (v := v) (s := sh a i) h0 (fun x hx => (W.ps x hx).2.2) (fun e => hz (by rw [e]; rfl)) (hv1 hz).1 (hv1 hz).2 ⟨i, hil, of_decide_eq_true hiF, rfl⟩ (fun j hj hjF => by
          have := hle (sh a j : Int) (List.mem_map.mpr ⟨sh a j, List.mem_map.mpr ⟨j, List.mem_filter.mpr ⟨List.mem_range.mpr hj, decide_eq_true hjF⟩, rfl⟩, rfl⟩)
          omega)
        rw [hbm]
    have s4 : Same H (upd H2 d (.dK (fdK a (List.range a.strips.length) (List.range a.strips.length)))) := s1.trans s3
    have hPl : ∀ o : HO, PiecesAt A (upd (upd H2 d (.dK (fdK a (List.range a.strips.length) (List.range a.strips.length)))) d o) g l (a.strips.map pr) := fun o => PiecesAt.atD hdl (hPs.mono s4)
    refine ⟨s2 _ _ upd_same, D, ((List.range a.strips.length).map (F a (List.range a.strips.length))).map fun (i : Nat) => (i : Int), .int 0, rfl, rfl, SqL.of (by rw [upd_ne hDd, hD2, iv_ints]), fun hn => ?c0, fun M hM hle => ?c1⟩
    case c0 | c1 =>
      first
      | (obtain ⟨v, rfl, hv0, hv1⟩ : ∃ v : Nat, (v : Int) = M ∧ (a.strips.length = 0 → v = 0) ∧ (a.strips.length ≠ 0 → v ∈ (List.range a.strips.length).map (F a (List.range a.strips.length)) ∧ ∀ y ∈ (List.range a.strips.length).map (F a (List.range a.strips.length)), v ≤ y) := by
          obtain ⟨v, hv, e⟩ := List.mem_map.mp hM
          refine ⟨v, e, fun hz => ?_, fun _ => ⟨hv, fun y hy => ?_⟩⟩
          · rw [hz] at hv
            cases hv
          · have := hle (y : Int) (List.mem_map.mpr ⟨y, hy, rfl⟩)
            omega)
      | (obtain ⟨v, hvz, hv0, hv1⟩ : ∃ v : Nat, v = 0 ∧ (a.strips.length = 0 → v = 0) ∧ (a.strips.length ≠ 0 → v ∈ (List.range a.strips.length).map (F a (List.range a.strips.length)) ∧ ∀ y ∈ (List.range a.strips.length).map (F a (List.range a.strips.length)), v ≤ y) :=
          ⟨0, rfl, fun _ => rfl, fun hz => absurd (List.range_eq_nil.mp (List.map_eq_nil_iff.mp (List.map_eq_nil_iff.mp hn))) hz⟩)
      refine ⟨d, _, hdl, trivial, fun od2 => ⟨_, rfl, d, od2, rfl, .inl ⟨_, upd_same, fun D2 hD2' => ?_⟩⟩⟩
      refine lc_keys (d := d) (o := od2) (kvs := fdK a (List.range a.strips.length) (List.range a.strips.length)) (fun i H' => Same (upd (upd H2 d (.dK (fdK a (List.range a.strips.length) (List.range a.strips.length)))) d (.frz od2 (.dK (fdK a (List.range a.strips.length) (List.range a.strips.length))))) H' ∧
          H' D2 = some (.lst (iv ((((List.range a.strips.length).take i).filter fun i => decide (F a (List.range a.strips.length) i = v)).map (sh a)))))
        ⟨Same.upd hD2', upd_same⟩ (fun i H' _ ⟨s5, _⟩ => s5 _ _ upd_same) ?_ ?_
      · rintro i kk vv H' hi ⟨s5, hD5⟩
        obtain ⟨j, hj, rfl, rfl⟩ := fdK_get hi
        have hjn := List.mem_range.mp (List.mem_of_getElem? hj)
        obtain ⟨xs5, ad, dy, hl5, hx5, hpy5⟩ := strip_at ((hPl _).mono s5) hjn
        refine ⟨rfl, ?_⟩
        refine ⟨_, rfl, _, rfl, d, _, rfl, .inl ⟨_, (Sum.inl (j : Int) : Key), .inr ⟨od2, s5 _ _ upd_same⟩, rfl, (valV_fd (List.mem_of_getElem? hj)).symm⟩, _, rfl, rfl, _, rfl, ite2 (fun h => ?_) (fun h => ?_)⟩
        · have hF := deq_int.mp h
          have hF' : F a (List.range a.strips.length) j = v := by omega
          have hbj := hb j hjn
          refine ⟨_, rfl, _, rfl, _, rfl, l, _, _, _, rfl, rfl, SqL.of hl5, atI_nat hx5, _, _, _, _, _, rfl, hpy5, T.cl_Piece, T.f_Piece_begins, pf_begins, _, _, rfl, rfl, _, rfl, _, _, rfl, rfl, (by show (0 : Int) < a.repeat_; omega), ?_⟩
          refine ⟨_, hD5, ?_, Same.wr s5 hD2', ?_⟩
          · rw [iv_len, List.length_map]
            have := List.length_filter_le (fun i => decide (F a (List.range a.strips.length) i = v)) ((List.range a.strips.length).take i)
            rw [List.length_take, List.length_range] at this
            exact Nat.lt_of_le_of_lt (show _ ≤ 6 by omega) (by decide)
          · rw [upd_same, filter_snoc hj, if_pos (decide_eq_true hF'), List.map_append, iv_app]
            have e : ((a.repeat_ : Int) - ((stripAt a j).begins : Int)) % (a.repeat_ : Int) = ((sh a j : Nat) : Int) := by
              unfold sh
              rw [Int.natCast_emod, Int.natCast_sub (by omega)]
            show some (HO.lst (_ ++ [V.int (((a.repeat_ : Int) - ((stripAt a j).begins : Int)) % (a.repeat_ : Int))])) = _
            rw [e]
            rfl
        · have hF' : ¬ F a (List.range a.strips.length) j = v := fun q => h (deq_int.mpr (by omega))
          refine ⟨s5, ?_⟩
          rw [hD5, filter_snoc hj, if_neg (by rw [decide_eq_false hF']; decide), List.append_nil]
      · rintro H5 ⟨s5, hD5⟩
        rw [fdK_len, List.take_of_length_le (Nat.le_refl _)] at hD5
        have hDd2 : D2 ≠ d := fun e => by rw [e, upd_same] at hD2'; cases hD2'
        have s6 := s4.trans (lock_same hdl s5)
        refine ⟨s5 _ _ upd_same, ?_⟩
        refine ⟨_, rfl, D2, _, .int 0, rfl, rfl, SqL.of (by rw [upd_ne hDd2, hD5, iv_ints]), fun hn2 => ?_, fun m hm hle2 => ?_⟩
        · refine ⟨_, rfl, (by show 2 ≤ sizeLine; decide), fun t ht => ?_⟩
          have r := rest v D2 _ hv0 hv1 s6 (by rw [upd_ne hDd2]; exact hD5) t 0 ht (.inl ⟨hn2, rfl⟩)
          first
          | exact r
          | (subst hvz; exact r)
        · refine ⟨_, rfl, (by show 2 ≤ sizeLine; decide), fun t ht => ?_⟩
          have r := rest v D2 _ hv0 hv1 s6 (by rw [upd_ne hDd2]; exact hD5) t m ht (.inr ⟨hm, hle2⟩)
          first
          | exact r
          | (subst hvz; exact r)
def mkBestMove (ws : List V) (c : Kh351.Call) : Prop := ws = [] ∧ c = .bestMove
theorem ok_best_move (T : Tx A K mg) : FnOk P w K mg base CX0 5 A.a_best_move A.d_best_move ["carpet"] (spC A mkBestMove) := by
  refine T.F_best_move.ok sc_best_move (fun vs H Q E h => ?_) (fun cdv Ar outer s H vs Q E hr h => ?_)
  · obtain ⟨p, g, a, c, ws, rfl, ⟨rfl, _⟩, _⟩ := h
    rfl
  · obtain ⟨p, g, a, c, ws, rfl, ⟨rfl, rfl⟩, hC, W, hg, k⟩ := h
    obtain ⟨dx, a0, b0, c0, ts, C⟩ := id hC
    refine ⟨_, (pss_one (ps_ret (pe_callTy call_list_of (by rfl) T.n_list bt_list (pa_cons (pe_call (ok_best_shift T) (hr.mono (by decide)) rfl T.m_best_shift T.F_best_shift.kp T.b_best_shift .nil pass0 (pa_cons (pe_fld (pv 0) rfl) (pa_cons (pe_fld (pv 0) rfl) pa_nil))) pa_nil)))), ?_⟩
    refine ⟨_, rfl, _, _, _, _, _, rfl, C.at_, T.cl_Carpet, T.f_Carpet_strips, cf_strips, _, rfl, _, _, _, _, _, rfl, C.at_, T.cl_Carpet, T.f_Carpet_repeat, cf_repeat, a0, g, a, rfl, C.strips, ⟨W.now.r1, W.now.r2, W.now.s, Nat.zero_le _, W.now.ps, fun x hx => by cases hx⟩, fun H1 t s1 ht => ?_⟩
    refine ⟨t, _, rfl, .inr (SqT.of ht), fun q hq => ?_⟩
    exact k.fin (some a, ⟨(Kh351.bestMove a).1, [(Kh351.bestMove a).2]⟩) rfl rfl (xs := [((Kh351.bestMove a).1 : Int), ((Kh351.bestMove a).2 : Int)]) rfl (hC.mono s1) (But.of s1) hq
def mkSetMove (ws : List V) (c : Kh351.Call) : Prop := ws = [] ∧ c = .setMove
theorem ok_set_move (T : Tx A K mg) : FnOk P w K mg base CX0 5 A.a_set_move A.d_set_move ["carpet"] (spC A mkSetMove) := by
  refine T.F_set_move.ok sc_set_move (fun vs H Q E h => ?_) (fun cdv Ar outer s H vs Q E hr h => ?_)
  · obtain ⟨p, g, a, c, ws, rfl, ⟨rfl, _⟩, _⟩ := h
    rfl
  · obtain ⟨p, g, a, c, ws, rfl, ⟨rfl, rfl⟩, hC, W, hg, k⟩ := h
    obtain ⟨dx, a0, b0, c0, ts, C⟩ := id hC
    refine ⟨_, (pss_cons (ps_set (i := 1) sc_set_move.nd rfl (Or.inl rfl) (pe_call (ok_best_shift T) (hr.mono (by decide)) rfl T.m_best_shift T.F_best_shift.kp T.b_best_shift .nil pass0 (pa_cons (pe_fld (pv 0) rfl) (pa_cons (pe_fld (pv 0) rfl) pa_nil))))
      (pss_cons (ps_if (pt_cmpR op_eq (pe_ix ix_tup (pv 1) pe_int (fun _ _ => rfl)) pe_int (nomark _)) (pss_one (ps_ret (pe_lst (pa_cons (pe_gint rfl T.c_NO_MOVE) pa_nil)))) pss_nil)
      (pss_cons (ps_expr (pe_meth (pv 0) T.cl_Carpet T.me_Carpet_change (ok_Carpet_change T) (hr.mono (by decide)) T.b_Carpet_change .nil pass0 (pa_cons (pe_fld (pv 0) rfl) (pa_cons (pe_call (ok_moved_on T) (hr.mono (by decide)) rfl T.m_moved_on T.F_moved_on.kp T.b_moved_on .nil pass0 (pa_cons (pe_fld (pv 0) rfl) (pa_cons (pe_ix ix_tup (pv 1) pe_int (fun _ _ => rfl)) (pa_cons (pe_fld (pv 0) rfl) pa_nil)))) (pa_cons (pe_fld (pv 0) rfl) pa_nil)))))
      (pss_one (ps_ret (pe_lst (pa_cons (pe_ix ix_tup (pv 1) pe_int (fun _ _ => rfl)) pa_nil))))))), ?_⟩
    refine ⟨_, rfl, _, _, _, _, _, rfl, C.at_, T.cl_Carpet, T.f_Carpet_strips, cf_strips, _, rfl, _, _, _, _, _, rfl, C.at_, T.cl_Carpet, T.f_Carpet_repeat, cf_repeat, a0, g, a, rfl, C.strips, ⟨W.now.r1, W.now.r2, W.now.s, Nat.zero_le _, W.now.ps, fun x hx => by cases hx⟩, fun H1 t s1 ht => ?_⟩
    have C1 := C.mono s1
    refine ⟨_, rfl, t, _, _, _, rfl, rfl, SqT.of ht, rfl, rfl, _, rfl, ite2 (fun h => ?_) (fun h => ?_)⟩
    · have h0 : (Kh351.bestMove a).1 = 0 := by
        have := deq_int.mp h
        omega
      exact ⟨by show 1 ≤ sizeLine; decide, fun q hq => k.fin _ (if_pos h0) rfl (xs := [-17]) rfl (hC.mono s1) (But.of s1) hq⟩
    · have h0 : ¬ (Kh351.bestMove a).1 = 0 := fun q => h (deq_int.mpr (by omega))
      refine ⟨_, rfl, p, dx, _, rfl, C1.at_, rfl, _, rfl, _, _, _, _, _, rfl, C1.at_, T.cl_Carpet, T.f_Carpet_repeat, cf_repeat, _, rfl, _, _, _, _, _, rfl, C1.at_, T.cl_Carpet, T.f_Carpet_strips, cf_strips, _, rfl, t, _, _, _, rfl, rfl, SqT.of ht, rfl, _, rfl, _, _, _, _, _, rfl, C1.at_, T.cl_Carpet, T.f_Carpet_repeat, cf_repeat, a0, g, _, (Kh351.bestMove a).1, a.repeat_, rfl, C1.strips, (by rw [List.length_map]; exact Nat.le_trans W.now.s (by decide)), W.now.r1, (fun e => hg (s1.free e)), fun H2 q2 s2' P2 => ?_⟩
      have s2 := s1.trans s2'
      have C2 := C.mono s2
      refine ⟨_, rfl, _, _, _, _, _, rfl, C2.at_, T.cl_Carpet, T.f_Carpet_rolls, cf_rolls, p, g, q2, b0, a, a.repeat_, (Kh351.moved a (Kh351.bestMove a).1).strips, a.rolls, rfl, hC.mono s2, W.u, (fun e => hg (s2.free e)), ?_, C2.rolls, fun H3 C3 b3 => ?_⟩
      · have e : (Kh351.moved a (Kh351.bestMove a).1).strips.map pr = (a.strips.map pr).map fun x => (x.1, (x.2 + (Kh351.bestMove a).1) % a.repeat_) := by
          show (a.strips.map _).map pr = _
          rw [List.map_map, List.map_map]
          rfl
        rw [e]
        exact P2
      · have ht3 := b3.at_ (s2' _ _ ht) (ne_of (s2' _ _ ht) C2.at_ (by intro z; cases z)) (fun _ z => nomatch z)
        refine ⟨_, rfl, t, _, _, _, rfl, rfl, SqT.of ht3, rfl, (by show 1 ≤ sizeLine; decide), fun q4 hq4 => ?_⟩
        exact k.fin _ (if_neg h0) rfl (xs := [((Kh351.bestMove a).2 : Int)]) rfl C3 ((But.of s2).trans b3) hq4
end
end PM

end

section
set_option Elab.async false
set_option linter.all false
set_option maxRecDepth 100000
set_option maxHeartbeats 2000000
namespace PM
open PySem PySem.Spec PyProof.Rows L2
open Kh351 (Abs Strip)
theorem cut_iv {os : List Nat} {k i : Nat} (hn : os.Nodup) (h : os[k]? = some i) : cutV (iv os) none (some ((k : Nat) : Int)) ++ cutV (iv os) (some (((k : Nat) : Int) + 1)) none = iv (os.filter fun j => j != i) := by
  rw [cut_to_nat, show (((k : Nat) : Int) + 1) = ((k + 1 : Nat) : Int) from rfl, cut_from_nat, ← eraseIdx_filter hn h, iv_app]
  unfold iv
  rw [List.map_take, List.map_drop]
/-! ### lists of ints compared; an order of all strips -/
theorem dpInts {K : PySem.W.Frag} {H : Hp} : ∀ ns : List Int, DpAll K H (ns.map V.int) (ns.map PyData.int)
  | [] => .nil
  | n :: ns => .cons (.int n) (dpInts ns)
theorem eqv_ints : ∀ ns ms : List Int, PyData.eqvAll (ns.map PyData.int) (ms.map PyData.int) = decide (ns = ms)
  | [], [] => by simp [PyData.eqvAll]
  | n :: ns, [] => by simp [PyData.eqvAll]
  | [], m :: ms => by simp [PyData.eqvAll]
  | n :: ns, m :: ms => by
    simp only [List.map_cons, PyData.eqvAll, PyData.eqv, eqv_ints ns ms]
    by_cases h : n = m <;> by_cases h2 : ns = ms <;> simp [h, h2]
theorem canLay_ints : ∀ ns : List Int, PyData.canLayAll0 (ns.map PyData.int) = true
  | [] => by simp [PyData.canLayAll0]
  | n :: ns => by simp [PyData.canLayAll0, PyData.canLay0, canLay_ints ns]
theorem depth_ints : ∀ ns : List Int, PyData.depthAll (ns.map PyData.int) = 0
  | [] => by simp [PyData.depthAll]
  | n :: ns => by simp [PyData.depthAll, PyData.depth, depth_ints ns]
theorem shaped_ints' (ns : List Int) : SeqAt.shaped (.list (ns.map PyData.int)) = true := by
  unfold SeqAt.shaped
  simp [PyData.canLay0, PyData.depth, canLay_ints, depth_ints]
theorem perm_of_sub : ∀ (l m : List Nat), l.Nodup → (∀ x ∈ l, x ∈ m) → m.length ≤ l.length → l.Perm m
  | [], m, _, _, h => by
    have : m = [] := List.length_eq_zero_iff.mp (Nat.le_zero.mp h)
    rw [this]
  | x :: l, m, hn, hs, h => by
    have hn' := List.nodup_cons.mp hn
    have hx : x ∈ m := hs x (List.mem_cons_self ..)
    have h1 : l.Perm (m.erase x) := perm_of_sub l (m.erase x) hn'.2 (fun y hy => (List.mem_erase_of_ne (fun e => hn'.1 (by rw [← e]; exact hy))).mpr (hs y (List.mem_cons_of_mem _ hy))) (by
      rw [List.length_erase_of_mem hx]
      have : m.length ≤ l.length + 1 := h
      omega)
    exact (List.Perm.cons x h1).trans (List.perm_cons_erase hx).symm
theorem order_iff {n : Nat} {os : List Nat} {ns : List Int} (hp : ns.Perm (os.map fun (i : Nat) => (i : Int))) (hs : ns.Pairwise (· ≤ ·)) : (ns = (List.range n).map fun (i : Nat) => (i : Int)) ↔ Kh351.isOrder n os = true := by
  have hr : ((List.range n).map fun (i : Nat) => (i : Int)).Pairwise (· ≤ ·) := by
    rw [List.pairwise_map]
    exact List.pairwise_lt_range.imp fun h => by omega
  have key : os.Perm (List.range n) ↔ Kh351.isOrder n os = true := by
    unfold Kh351.isOrder
    rw [Bool.and_eq_true, Bool.and_eq_true, beq_iff_eq, List.all_eq_true, decide_eq_true_iff]
    constructor
    · intro h
      exact ⟨by rw [h.length_eq, List.length_range], fun x hx => decide_eq_true (List.mem_range.mp (h.mem_iff.mp hx)), h.nodup_iff.mpr List.nodup_range⟩
    · rintro ⟨h1, h2, h3⟩
      exact perm_of_sub _ _ h3 (fun x hx => List.mem_range.mpr (of_decide_eq_true (h2 x hx))) (by rw [List.length_range, h1]; exact Nat.le_refl _)
  rw [← key]
  constructor
  · intro e
    rw [e] at hp
    have h1 := hp.symm.map Int.toNat
    rw [List.map_map, List.map_map] at h1
    have e1 : (Int.toNat ∘ fun (i : Nat) => (i : Int)) = id := by
      funext i
      exact Int.toNat_natCast i
    rw [e1, List.map_id, List.map_id] at h1
    exact h1
  · intro h
    exact List.Perm.eq_of_pairwise (fun x y _ _ h1 h2 => Int.le_antisymm h1 h2) hs hr (hp.trans (h.map _))
theorem need_ge (r : Nat) : ∀ (l : List Strip) (f : Nat), (l.map Strip.long).sum ≤ Kh351.need r f l
  | [], f => Nat.le_refl _
  | s :: l, f => by
    have := need_ge r l ((s.begins + s.long) % r)
    show s.long + (l.map Strip.long).sum ≤ Kh351.gap r f (s.begins % r) + s.long + Kh351.need r ((s.begins + s.long) % r) l
    omega
theorem ofOrder_range (a : Abs) : Kh351.ofOrder a (List.range a.strips.length) = a.strips := by
  unfold Kh351.ofOrder
  apply List.ext_getElem
  · rw [List.length_map, List.length_range]
  · intro i h1 h2
    rw [List.getElem_map, List.getElem_range, List.getD_eq_getElem?_getD, List.getElem?_eq_getElem h2]
    rfl
theorem order_perm {n : Nat} {os : List Nat} (h : Kh351.isOrder n os = true) : os.Perm (List.range n) := by
  unfold Kh351.isOrder at h
  rw [Bool.and_eq_true, Bool.and_eq_true, beq_iff_eq, List.all_eq_true, decide_eq_true_iff] at h
  obtain ⟨h1, h2, h3⟩ := h
  exact perm_of_sub _ _ h3 (fun x hx => List.mem_range.mpr (of_decide_eq_true (h2 x hx))) (by rw [List.length_range, h1]; exact Nat.le_refl _)
theorem order_sum {a : Abs} {os : List Nat} (h : Kh351.isOrder a.strips.length os = true) : ((Kh351.ofOrder a os).map Strip.long).sum = (a.strips.map Strip.long).sum := by
  have h1 : (Kh351.ofOrder a os).Perm a.strips := by
    have := (order_perm h).map fun i => a.strips.getD i ⟨0, 0⟩
    have e := ofOrder_range a
    unfold Kh351.ofOrder at e ⊢
    rw [e] at this
    exact this
  exact (h1.map Strip.long).sum_nat
theorem cast_sum : ∀ l : List Nat, (l.map fun (i : Nat) => (i : Int)).sum = ((l.sum : Nat) : Int)
  | [] => rfl
  | x :: l => by
    rw [List.map_cons, List.sum_cons, List.sum_cons, cast_sum l]
    omega
section
variable {P : Program} {w : World} {K : PySem.W.Frag} {mg : Str → Option Value} {base : Heap} {A : Ad}
def spNeed (A : Ad) (K : PySem.W.Frag) : Sp := fun vs H Q _ => ∃ (p g o : Addr) (a : Abs) (os : List Nat), vs = [.ref p, .ref o] ∧ SqL K H o (iv os) ∧ os.length ≤ 8 ∧ CarpetAt A H g p a ∧ Wf a ∧ H g ≠ none ∧ Post A p g a (.need os) H Q
theorem ok_need (T : Tx A K mg) : FnOk P w K mg base CX0 3 A.a_need A.d_need ["carpet", "order"] (spNeed A K) := by
  refine T.F_need.ok sc_need (fun vs H Q E h => ?_) (fun cdv Ar outer s H vs Q E hr h => ?_)
  · obtain ⟨p, g, o, a, os, rfl, _⟩ := h
    rfl
  · obtain ⟨p, g, o, a, os, rfl, ho, h8, hC, W, hg, k⟩ := h
    obtain ⟨dx, a0, b0, c0, ts, C⟩ := id hC
    obtain ⟨hs0, as, hl, hP⟩ := C.strips
    have hlen : as.length = a.strips.length := by rw [hP.length, List.length_map]
    have W6 := W.now.s
    refine ⟨_, (pss_cons (ps_if (pt_cmpR (op_neD hr.units) (pe_callB cr_sorted (by rfl) T.n_sorted bt_sorted (pa_cons (pv 1) pa_nil)) (pe_callTy (call_list_rng rfl) (by rfl) T.n_list bt_list (pa_cons (pe_callTy call_rng1 (by rfl) T.n_range bt_range (pa_cons (pe_callB call_len_seq (by rfl) T.n_len bt_len (pa_cons (pe_fld (pv 0) rfl) pa_nil)) pa_nil)) pa_nil)) (nomark _)) (pss_one (ps_ret (pe_lst (pa_cons (pe_gint rfl T.c_NOT_AS_TOLD) pa_nil)))) pss_nil)
      (pss_cons (ps_set (i := 2) sc_need.nd rfl (Or.inl rfl) (pe_call (ok_order_need T) (hr.mono (by decide)) rfl T.m_order_need T.F_order_need.kp T.b_order_need .nil pass0 (pa_cons (pe_fld (pv 0) rfl) (pa_cons (pv 1) (pa_cons (pe_fld (pv 0) rfl) pa_nil)))))
      (pss_one (ps_ret (pe_lst (pa_cons (pv 2) (pa_cons (pe_op op_sub (pv 2) (pe_callB (cr_sum rfl) (by rfl) T.n_sum bt_sum (pa_cons (pe_lc (own := [("strip", 3)]) (te := (tFld K (tVar 3) "long")) (tt := tYes) rfl sc_need.nd (pi_list (pe_fld (pv 0) rfl)) (show BlkOk ["carpet", "order", "whole", "strip"] (defScope s_need) _ [("strip", 3)] from ⟨rfl, by decide +kernel, by decide +kernel, by decide +kernel, by decide +kernel⟩) (fun _ _ _ _ _ => (pg_name (i := 3) sc_need.nd rfl (Or.inl rfl))) (fun _ _ _ _ _ => pts_nil) (fun _ _ _ _ _ => (pe_fld (pv 3) rfl))) pa_nil))) pa_nil))))))), ?_⟩
    refine ⟨_, rfl, o, os.map fun (i : Nat) => (i : Int), rfl, by rw [← iv_ints]; exact ho, (by rw [List.length_map]; omega), fun ns p1 hperm hsort hp1 => ?_⟩
    have s1 := Same.upd (o := .lst (ns.map V.int)) hp1
    have C1 := C.mono s1
    refine ⟨_, rfl, _, _, _, _, _, rfl, C1.at_, T.cl_Carpet, T.f_Carpet_strips, cf_strips, a0, _, rfl, .inl (SqL.of (s1 _ _ hl)), _, rfl, fun p2 hp2 => ⟨p2, (as.map V.ref).length, rfl, upd_same, (by rw [List.length_map, hlen]; omega), fun p3 hp3 => ?_⟩⟩
    have s2' := Same.upd (o := .rng 0 ((as.map V.ref).length : Int)) hp2
    have s3' := Same.upd (o := .lst (iv (List.range (as.map V.ref).length))) hp3
    have s3 := (s1.trans s2').trans s3'
    refine ⟨.list (ns.map PyData.int), .list (((List.range (as.map V.ref).length).map fun (i : Nat) => (i : Int)).map PyData.int), .lst (SqL.of (s3' _ _ (s2' _ _ upd_same))) (dpInts ns), .lst (SqL.of upd_same) (by have e := iv_ints (List.range (as.map V.ref).length); unfold iv at e; rw [e]; exact dpInts _), shaped_ints' _, shaped_ints' _, _, rfl, ?_⟩
    rw [show PyData.eqv (.list (ns.map PyData.int)) (.list (((List.range (as.map V.ref).length).map fun (i : Nat) => (i : Int)).map PyData.int)) = decide (ns = (List.range (as.map V.ref).length).map fun (i : Nat) => (i : Int)) by rw [PyData.eqv, eqv_ints]]
    rw [List.length_map, hlen] at s3' s3 ⊢
    have C3 := C.mono s3
    by_cases hx : Kh351.isOrder a.strips.length os = true
    · rw [decide_eq_true ((order_iff hperm hsort).mpr hx)]
      refine iteF ?_
      have e0 : Kh351.doing (some a) (.need os) = (some a, ⟨Kh351.need a.repeat_ 0 (Kh351.ofOrder a os), [Kh351.need a.repeat_ 0 (Kh351.ofOrder a os) - ((Kh351.ofOrder a os).map Strip.long).sum]⟩) := if_neg (by rw [hx]; decide)
      refine ⟨_, rfl, _, _, _, _, _, rfl, C3.at_, T.cl_Carpet, T.f_Carpet_strips, cf_strips, _, rfl, _, rfl, _, _, _, _, _, rfl, C3.at_, T.cl_Carpet, T.f_Carpet_repeat, cf_repeat, a0, o, g, a, os, rfl, C3.strips, s3.seq ho, (fun i hi => List.mem_range.mp ((order_perm hx).mem_iff.mp hi)), W.now.r1, ?_⟩
      refine ⟨_, rfl, _, rfl, _, rfl, _, _, _, _, _, rfl, C3.at_, T.cl_Carpet, T.f_Carpet_strips, cf_strips, a0, rfl, ⟨_, SqL.of (s3 _ _ hl)⟩, fun D hD => ?_⟩
      refine lc_list (K := K) (a := a0) (xs := as.map V.ref) (fun i H' => Same H H' ∧ H' D = some (.lst (iv ((a.strips.take i).map Strip.long)))) ⟨s3.trans (Same.upd hD), upd_same⟩ (fun i H' _ ⟨s1, _⟩ => SqL.of (s1 _ _ hl)) ?_ ?_
      · rintro i y H' hi ⟨s4, hD4⟩
        rw [List.getElem?_map] at hi
        obtain ⟨ad, had, rfl⟩ : ∃ ad, as[i]? = some ad ∧ y = V.ref ad := by
          cases e : as[i]? with
          | none => rw [e] at hi; cases hi
          | some ad => rw [e] at hi; exact ⟨ad, rfl, (Option.some.inj hi).symm⟩
        have hilt : i < a.strips.length := by rw [← hlen]; exact (List.getElem?_eq_some_iff.mp had).1
        obtain ⟨ad', had', dy, hpy⟩ := Paired.get hP (getElem?_pr (stripAt_get hilt))
        obtain rfl : ad' = ad := Option.some.inj (had'.symm.trans had)
        refine ⟨rfl, ?_⟩
        dsimp only [tYes]
        rw [if_pos rfl]
        refine ⟨_, rfl, _, _, _, _, _, rfl, (s4 _ _ hpy), T.cl_Piece, T.f_Piece_long, pf_long, _, hD4, ?_, fun b o e => ?_, ?_⟩
        · rw [iv_len, List.length_map, List.length_take]
          exact Nat.lt_of_le_of_lt (show min i a.strips.length ≤ 6 by omega) (by decide)
        · rw [upd_ne (ne_of_none (s3 _ _ e) hD)]
          exact s4 _ _ e
        · rw [upd_same, List.take_add_one, stripAt_get hilt, List.map_append, iv_app]
          rfl
      · rintro H' ⟨s4, hD4⟩
        rw [List.length_map, hlen, List.take_length] at hD4
        refine ⟨D, (a.strips.map Strip.long).map fun (i : Nat) => (i : Int), rfl, SqL.of (by rw [← iv_ints]; exact hD4), _, _, rfl, rfl, (by show 2 ≤ sizeLine; decide), fun q hq => ?_⟩
        have h1 := need_ge a.repeat_ (Kh351.ofOrder a os) 0
        have h2 := order_sum hx
        have := k.fin _ e0 rfl (xs := [((Kh351.need a.repeat_ 0 (Kh351.ofOrder a os) : Nat) : Int), ((Kh351.need a.repeat_ 0 (Kh351.ofOrder a os) - ((Kh351.ofOrder a os).map Strip.long).sum : Nat) : Int)]) rfl (hC.mono s4) (But.of s4) hq
        rw [cast_sum]
        rw [h2] at this h1
        show Q (.ref q) (upd H' q (.lst [.int ((Kh351.need a.repeat_ 0 (Kh351.ofOrder a os) : Nat) : Int), .int (((Kh351.need a.repeat_ 0 (Kh351.ofOrder a os) : Nat) : Int) - (((a.strips.map Strip.long).sum : Nat) : Int))]))
        rw [show ((Kh351.need a.repeat_ 0 (Kh351.ofOrder a os) : Nat) : Int) - (((a.strips.map Strip.long).sum : Nat) : Int) = ((Kh351.need a.repeat_ 0 (Kh351.ofOrder a os) - (a.strips.map Strip.long).sum : Nat) : Int) by omega]
        exact this
    · rw [decide_eq_false (fun e => hx ((order_iff hperm hsort).mp e))]
      refine iteT ⟨by show 1 ≤ sizeLine; decide, fun q hq => ?_⟩
      exact k.fin _ (if_pos (by cases e : Kh351.isOrder a.strips.length os with | true => exact absurd e hx | false => rfl)) rfl (xs := [-22]) rfl (hC.mono s3) (But.of s3) hq
theorem last_pairs (a : Abs) (h0 : 0 < a.repeat_) {l : List Nat} (hl : l.Nodup) (i : Nat) {es : List Nat} (hp : Paired (fun (e : Nat) (j : Nat) => IsLast a (l.filter fun k => k != j) j e) es l) {M : Nat} (h1 : M ∈ es.map (nxtE a i)) (h2 : ∀ y ∈ es.map (nxtE a i), M ≤ y) : IsLast a l i M := by
  have key : ∀ {es m : List Nat}, Paired (fun (e : Nat) (j : Nat) => IsLast a (l.filter fun k => k != j) j e) es m → ∃ f : Nat → Nat, (∀ j ∈ m, IsLast a (l.filter fun k => k != j) j (f j)) ∧ es.map (nxtE a i) = m.map fun j => nxtE a i (f j) := by
    intro es m hp
    have f0 : ∀ j : Nat, ∃ v : Nat, (∃ w, IsLast a (l.filter fun k => k != j) j w) → IsLast a (l.filter fun k => k != j) j v := fun j => by
      by_cases h : ∃ w, IsLast a (l.filter fun k => k != j) j w
      · obtain ⟨w, hw⟩ := h
        exact ⟨w, fun _ => hw⟩
      · exact ⟨0, fun q => absurd q h⟩
    refine ⟨fun j => Classical.choose (f0 j), fun j hj => ?_, ?_⟩
    · refine Classical.choose_spec (f0 j) ?_
      clear h1 h2
      induction hp with
      | nil => cases hj
      | cons r _ ih =>
        rcases List.mem_cons.mp hj with rfl | q
        · exact ⟨_, r⟩
        · exact ih q
    · clear h1 h2
      induction hp with
      | nil => rfl
      | cons r _ ih =>
        rw [List.map_cons, List.map_cons, ih]
        congr 1
        exact congrArg (nxtE a i) ((Classical.choose_spec (f0 _) ⟨_, r⟩).uniq r).symm
  obtain ⟨f, hf, e⟩ := key hp
  rw [e] at h1 h2
  exact last_step a h0 hl i f hf h1 h2
def spLast (A : Ad) (K : PySem.W.Frag) (n : Nat) : Sp := fun vs H Q _ => ∃ (l o g : Addr) (a : Abs) (os : List Nat) (i : Nat), vs = [.ref l, .ref o, .int (i : Int), .int (a.repeat_ : Int)] ∧ PiecesAt A H g l (a.strips.map pr) ∧ SqL K H o (iv os) ∧ os.Nodup ∧ (∀ j ∈ os, j < a.strips.length) ∧ i < a.strips.length ∧
  os.length < n ∧ os.length ≤ 100 ∧ 0 < a.repeat_ ∧ (∀ x ∈ a.strips, x.begins < a.repeat_) ∧ ∀ (H' : Hp) (v : Nat), Same H H' → IsLast a os i v → Q (.int (v : Int)) H'
theorem ok_lw (T : Tx A K mg) : ∀ n : Nat, FnOk P w K mg base CX0 (n + 1) A.a_least_with_last A.d_least_with_last ["strips", "others", "last", "repeat"] (spLast A K n)
  | 0 => ⟨fun vs H Q E h => by
      obtain ⟨l, o, g, a, os, i, rfl, _⟩ := h
      rfl, fun Ar outer s H args us vs Q E _ _ _ _ h => by
      obtain ⟨l, o, g, a, os, i, _, _, _, _, _, _, h, _⟩ := h
      exact absurd h (Nat.not_lt_zero _)⟩
  | n + 1 => by
    have IH := ok_lw T n
    refine T.F_least_with_last.ok sc_least_with_last (fun vs H Q E h => ?_) (fun cdv Ar outer s H vs Q E hr h => ?_)
    · obtain ⟨l, o, g, a, os, i, rfl, _⟩ := h
      rfl
    · obtain ⟨l, o, g, a, os, i, rfl, hPs, ho, hnd, hos, hi, hn, h100, h0, hbg, k⟩ := h
      obtain ⟨xs0, ai, di, hl, hxi, hpi⟩ := strip_at hPs hi
      refine ⟨_, (pss_cons (ps_set (i := 4) sc_least_with_last.nd rfl (Or.inr rfl) (pe_ix ix_list (pv 0) (pv 2) (fun _ _ => rfl)))
      (pss_cons (ps_set (i := 5) sc_least_with_last.nd rfl (Or.inl rfl) (pe_lst pa_nil))
      (pss_cons (ps_for PassesOwn.never rfl (pi_enum rfl T.n_enumerate (pa_cons (pv 1) pa_nil)) (pg_tup (n := 2) rfl (pgs_cons (pg_name (i := 7) sc_least_with_last.nd rfl (Or.inl rfl)) (pgs_cons (pg_name (i := 8) sc_least_with_last.nd rfl (Or.inl rfl)) pgs_nil))) (pss_one (ps_expr (pe_bm PySem.F.plainAttrs_list PySem.F.slot_list_append PySem.F.type_list_append mt_append (pv 5) (pa_cons (pe_call IH (hr.mono (by omega)) rfl T.m_least_with_last T.F_least_with_last.kp T.b_least_with_last .nil pass0 (pa_cons (pv 0) (pa_cons (pe_op op_cat (pe_slice sl_list (pv 1) po_none (po_some (pv 7))) (pe_slice sl_list (pv 1) (po_some (pe_op op_add (pv 7) pe_int)) po_none)) (pa_cons (pv 8) (pa_cons (pv 3) pa_nil))))) pa_nil)))))
      (pss_cons (ps_setLc (i := 6) (own := [("end", 9)]) (te := (tOp (rI0 fun i j => .int (i + j)) (tOp (rI0 fun i j => .int (i + j)) (tVar 9) (tCall (spGapAhead A) [] E0 (tCons (tVar 9) (tCons (tVar 4) (tCons (tVar 3) tNil))))) (tFld K (tVar 4) "long"))) (tt := tYes) rfl sc_least_with_last.nd rfl rfl (sw_true rfl rfl rfl rfl) (pi_list (pv 5)) (show BlkOk ["strips", "others", "last", "repeat", "strip", "ends", "needs", "k", "i", "end"] (defScope s_least_with_last) _ [("end", 9)] from ⟨rfl, by decide +kernel, by decide +kernel, by decide +kernel, by decide +kernel⟩) (fun _ _ _ _ _ => (pg_name (i := 9) sc_least_with_last.nd rfl (Or.inl rfl))) (fun _ _ _ _ _ => pts_nil) (fun _ _ _ _ _ => (pe_op op_add (pe_op op_add (pv 9) (pe_call (ok_gap_ahead T) (hr.mono (by omega)) rfl T.m_gap_ahead T.F_gap_ahead.kp T.b_gap_ahead .nil pass0 (pa_cons (pv 9) (pa_cons (pv 4) (pa_cons (pv 3) pa_nil))))) (pe_fld (pv 4) rfl))))
      (pss_one (ps_ret (pe_minD rfl (by rfl) T.n_min (pa_cons (pv 6) pa_nil) (pk_cons (pe_op op_add (pe_fld (pv 4) rfl) (pe_fld (pv 4) rfl)) pk_nil)))))))), ?_⟩
      refine ⟨_, rfl, _, rfl, l, _, _, _, rfl, rfl, SqL.of hl, atI_nat hxi, ?_⟩
      refine ⟨Nat.zero_le _, fun q0 hq0 => ?_⟩
      have s0 := Same.upd (o := .lst []) hq0
      refine ⟨_, rfl, o, _, rfl, s0.seq ho, for_enum (K := K) (a := o) (xs := iv os) (fun t σ H' => Same H H' ∧ ∃ (es : List Nat) (v6 v7 v8 v9 : Option V), σ = [some (.ref l), some (.ref o), some (.int (i : Int)), some (.int (a.repeat_ : Int)), some (.ref ai), some (.ref q0), v6, v7, v8, v9] ∧ H' q0 = some (.lst (iv es)) ∧
        Paired (fun (e : Nat) (j : Nat) => IsLast a (os.filter fun k => k != j) j e) es (os.take t))
        ⟨s0, [], none, none, none, none, rfl, upd_same, .nil⟩ (fun t σ H' _ ⟨s1, _⟩ => s1.seq ho) ?_ ?_⟩
      · rintro t y σ H1 T0 ht ⟨s1, es, v6, v7, v8, v9, rfl, hq1, hpe⟩ hT
        obtain ⟨j, hj, rfl⟩ := iv_get ht
        have htl : t < os.length := (List.getElem?_eq_some_iff.mp hj).1
        have hel : es.length ≤ 100 := by
          rw [hpe.length, List.length_take]
          omega
        have s2' := Same.upd (o := .tup [.int (t : Nat), .int (j : Int)]) hT
        have s2 := s1.trans s2'
        refine ⟨T0, _, rfl, SqT.of upd_same, rfl, _, _, rfl, _, _, rfl, rfl, ?_⟩
        refine ⟨_, rfl, .inl ⟨rfl, _, SqL.of (s2' _ _ hq1)⟩, _, rfl, _, rfl, _, rfl, _, rfl, o, _, rfl, s2.seq ho, fun q1 hq1' => ?_⟩
        have s3' := Same.upd (o := .lst (cutV (iv os) none (some ((t : Nat) : Int)))) hq1'
        have s3 := s2.trans s3'
        refine ⟨_, rfl, _, rfl, _, _, rfl, rfl, _, rfl, o, _, rfl, s3.seq ho, fun q2 hq2 => ?_⟩
        have s4' := Same.upd (o := .lst (cutV (iv os) (some (((t : Nat) : Int) + 1)) none)) hq2
        have s4 := s3.trans s4'
        have l1 := cutV_length (iv os) none (some ((t : Nat) : Int))
        have l2 := cutV_length (iv os) (some (((t : Nat) : Int) + 1)) none
        rw [iv_len] at l1 l2
        refine ⟨q1, q2, _, _, rfl, rfl, s4' _ _ upd_same, upd_same, Nat.le_trans (show _ ≤ 200 by omega) (by decide), fun q3 hq3 => ?_⟩
        rw [cut_iv hnd hj]
        have s5' := Same.upd (o := .lst (iv (os.filter fun k => k != j))) hq3
        have s5 := s4.trans s5'
        have hfl := filter_len hnd (List.mem_of_getElem? hj)
        refine ⟨_, rfl, _, rfl, l, q3, g, a, os.filter fun k => k != j, j, rfl, hPs.mono s5, SqL.of upd_same, hnd.filter _, (fun x hx => hos x (List.mem_filter.mp hx).1), hos j (List.mem_of_getElem? hj), (by omega), (by omega), h0, hbg, fun H6 v s6' hv => ?_⟩
        have hq6 := s6' _ _ (s5' _ _ (s4' _ _ (s3' _ _ (s2' _ _ hq1))))
        refine ⟨q0, _, _, rfl, rfl, hq6, (by rw [iv_len]; exact Nat.lt_of_le_of_lt hel (by decide)), ?_⟩
        refine ⟨Same.wr (s5.trans s6') hq0, es ++ [v], _, _, _, _, rfl, by rw [upd_same, iv_app]; rfl, ?_⟩
        rw [take_snoc hj]
        exact Paired.app hpe (.cons hv .nil)
      · rintro σ H1 ⟨s1, es, v6, v7, v8, v9, rfl, hq1, hpe⟩
        rw [iv_len, List.take_length] at hpe
        have hel : es.length ≤ 100 := by
          rw [hpe.length]
          exact h100
        refine ⟨_, rfl, q0, rfl, ⟨_, SqL.of hq1⟩, fun D hD => ?_⟩
        refine lc_list (K := K) (a := q0) (xs := iv es) (fun t H' => Same H1 H' ∧ H' D = some (.lst (iv ((es.take t).map (nxtE a i))))) ⟨Same.upd hD, upd_same⟩ (fun t H' _ ⟨s2, _⟩ => SqL.of (s2 _ _ hq1)) ?_ ?_
        · rintro t y H2 ht ⟨s2, hD2⟩
          obtain ⟨e, he, rfl⟩ := iv_get ht
          have hpi2 := s2 _ _ (s1 _ _ hpi)
          refine ⟨rfl, ?_⟩
          dsimp only [tYes]
          rw [if_pos rfl]
          refine ⟨_, rfl, _, rfl, _, rfl, _, rfl, e, a.repeat_, ai, ((stripAt a i).long, (stripAt a i).begins), rfl, ⟨di, hpi2⟩, h0, _, _, rfl, rfl, _, rfl, _, _, _, _, _, rfl, hpi2, T.cl_Piece, T.f_Piece_long, pf_long, _, _, rfl, rfl, ?_⟩
          refine ⟨_, hD2, ?_, Same.wr s2 hD, ?_⟩
          · rw [iv_len, List.length_map, List.length_take]
            exact Nat.lt_of_le_of_lt (show min t es.length ≤ 100 by omega) (by decide)
          · rw [upd_same, take_snoc he, List.map_append, iv_app]
            rfl
        · rintro H2 ⟨s2, hD2⟩
          rw [iv_len, List.take_length] at hD2
          have hpi2 := s2 _ _ (s1 _ _ hpi)
          have s3 := s1.trans s2
          refine ⟨_, rfl, _, rfl, _, _, _, _, _, rfl, hpi2, T.cl_Piece, T.f_Piece_begins, pf_begins, _, rfl, _, _, _, _, _, rfl, hpi2, T.cl_Piece, T.f_Piece_long, pf_long, _, _, rfl, rfl, D, (es.map (nxtE a i)).map fun (i : Nat) => (i : Int), _, rfl, rfl, SqL.of (by rw [hD2, iv_ints]), fun hn => ?_, fun M hM hle => ?_⟩
          · have hes : es = [] := List.map_eq_nil_iff.mp (List.map_eq_nil_iff.mp hn)
            rw [hes] at hpe
            cases hpe
            exact k H2 ((stripAt a i).begins + (stripAt a i).long) s3 (last_nil a i (hbg _ (List.mem_of_getElem? (stripAt_get hi))))
          · obtain ⟨M', hM', rfl⟩ := List.mem_map.mp hM
            refine k H2 M' s3 (last_pairs a h0 hnd i hpe hM' fun y hy => ?_)
            have := hle (y : Int) (List.mem_map.mpr ⟨y, hy, rfl⟩)
            omega
theorem ok_least_with_last (T : Tx A K mg) : FnOk P w K mg base CX0 8 A.a_least_with_last A.d_least_with_last ["strips", "others", "last", "repeat"] (spLast A K 7) := ok_lw T 7
def mkBestLast (ws : List V) (c : Kh351.Call) : Prop := ∃ i : Nat, ws = [.int (i : Int)] ∧ c = .bestLast i
theorem ok_best_last (T : Tx A K mg) : FnOk P w K mg base CX0 9 A.a_best_last A.d_best_last ["carpet", "i"] (spC A mkBestLast) := by
  refine T.F_best_last.ok sc_best_last (fun vs H Q E h => ?_) (fun cdv Ar outer s H vs Q E hr h => ?_)
  · obtain ⟨p, g, a, c, ws, rfl, ⟨i, rfl, _⟩, _⟩ := h
    rfl
  · obtain ⟨p, g, a, c, ws, rfl, ⟨i, rfl, rfl⟩, hC, W, hg, k⟩ := h
    obtain ⟨dx, a0, b0, c0, ts, C⟩ := id hC
    obtain ⟨hs0, as, hl, hP⟩ := C.strips
    have hlen : as.length = a.strips.length := by rw [hP.length, List.length_map]
    have W6 := W.now.s
    refine ⟨_, (pss_cons (ps_set (i := 2) sc_best_last.nd rfl (Or.inl rfl) (pe_callB call_len_seq (by rfl) T.n_len bt_len (pa_cons (pe_fld (pv 0) rfl) pa_nil)))
      (pss_cons (ps_if (pt_cmpR op_ge (pv 1) (pv 2) (nomark _)) (pss_one (ps_ret (pe_lst (pa_cons (pe_gint rfl T.c_NO_SUCH) pa_nil)))) pss_nil)
      (pss_cons (ps_setLc (i := 3) (own := [("k", 4)]) (te := (tVar 4)) (tt := (tTest (tOp rNe (tVar 4) (tVar 1)))) rfl sc_best_last.nd rfl rfl (sw_true rfl rfl rfl rfl) (pi_range1 rfl T.n_range (pa_cons (pv 2) pa_nil)) (show BlkOk ["carpet", "i", "count", "others", "k"] (defScope s_best_last) _ [("k", 4)] from ⟨rfl, by decide +kernel, by decide +kernel, by decide +kernel, by decide +kernel⟩) (fun _ _ _ _ _ => (pg_name (i := 4) sc_best_last.nd rfl (Or.inl rfl))) (fun _ _ _ _ _ => pts_one (pt_cmpR op_ne (pv 4) (pv 1) (nomark _))) (fun _ _ _ _ _ => (pv 4)))
      (pss_one (ps_ret (pe_lst (pa_cons (pe_call (ok_least_with_last T) (hr.mono (by decide)) rfl T.m_least_with_last T.F_least_with_last.kp T.b_least_with_last .nil pass0 (pa_cons (pe_fld (pv 0) rfl) (pa_cons (pv 3) (pa_cons (pv 1) (pa_cons (pe_fld (pv 0) rfl) pa_nil))))) pa_nil))))))), ?_⟩
    refine ⟨_, rfl, _, _, _, _, _, rfl, C.at_, T.cl_Carpet, T.f_Carpet_strips, cf_strips, a0, _, rfl, .inl (SqL.of hl), ?_⟩
    rw [List.length_map, hlen]
    refine ⟨_, rfl, _, rfl, _, _, rfl, rfl, _, rfl, ite2 (fun h => ?_) (fun h => ?_)⟩
    · have h1 := of_decide_eq_true h
      exact ⟨by show 1 ≤ sizeLine; decide, fun q hq => k.no (if_pos (show a.strips.length ≤ i by omega)) hC hq⟩
    · have h1 : ¬ a.strips.length ≤ i := fun q => h (decide_eq_true (by omega))
      refine ⟨_, rfl, (a.strips.length : Int), rfl, by omega, by omega, fun D hD => ?_⟩
      rw [Int.toNat_natCast]
      refine lc_range (lo := 0) (n := a.strips.length) (fun t H' => Same H H' ∧ H' D = some (.lst (iv ((List.range t).filter fun j => j != i)))) ⟨Same.upd hD, upd_same⟩ ?_ ?_
      · rintro t H1 ht ⟨s1, hD1⟩
        rw [Int.zero_add]
        refine ⟨rfl, ?_⟩
        refine ⟨_, rfl, _, rfl, rfl, _, rfl, ite2 (fun h => ?_) (fun h => ?_)⟩
        · have hti : t ≠ i := fun e => dne_int.mp h (by rw [e])
          refine ⟨_, rfl, _, hD1, ?_, Same.wr s1 hD, ?_⟩
          · rw [iv_len]
            have := List.length_filter_le (fun j => j != i) (List.range t)
            rw [List.length_range] at this
            exact Nat.lt_of_le_of_lt (show _ ≤ 6 by omega) (by decide)
          · rw [upd_same, List.range_succ, List.filter_append, iv_app, List.filter_cons, if_pos (by simpa using hti)]
            rfl
        · have hti : t = i := Decidable.byContradiction fun e => h (dne_int.mpr (by omega))
          refine ⟨s1, ?_⟩
          rw [hD1, List.range_succ, List.filter_append, List.filter_cons, if_neg (by simp [hti])]
          simp
      · rintro H1 ⟨s1, hD1⟩
        have C1 := C.mono s1
        have hfl := List.length_filter_le (fun j => j != i) (List.range a.strips.length)
        rw [List.length_range] at hfl
        refine ⟨_, rfl, _, _, _, _, _, rfl, C1.at_, T.cl_Carpet, T.f_Carpet_strips, cf_strips, _, rfl, _, rfl, _, rfl, _, _, _, _, _, rfl, C1.at_, T.cl_Carpet, T.f_Carpet_repeat, cf_repeat, a0, D, g, a, (List.range a.strips.length).filter fun j => j != i, i, rfl, C1.strips, SqL.of hD1, List.nodup_range.filter _, (fun j hj => List.mem_range.mp (List.mem_filter.mp hj).1), (by omega), (by omega), (by omega), W.now.r1, (fun x hx => (W.now.ps x hx).2.2), fun H2 v s2 hv => ?_⟩
        refine ⟨by show 1 ≤ sizeLine; decide, fun q hq => ?_⟩
        rw [hv.uniq (bestLast_is a i)]
        exact k.fin _ (if_neg h1) rfl (xs := [((Kh351.bestLast a i : Nat) : Int)]) rfl (hC.mono (s1.trans s2)) (But.of (s1.trans s2)) hq
end
end PM

end

section
set_option Elab.async false
set_option linter.all false
set_option maxRecDepth 100000
set_option maxHeartbeats 2000000
namespace PM
open PySem PySem.Spec PyProof.Rows L2
open Kh351 (Abs Strip)
/-! ### what is left of a roll behind each set of strips -/
def spZ (a : Abs) (x : Nat × Nat) (m : Nat) : Int := (x.1 : Int) - ((Kh351.best a x.2 (bl a.strips.length m)).2 : Int)
def spV (a : Abs) (x : Nat × Nat) : List V := (List.range (2 ^ a.strips.length)).map fun m => V.int (spZ a x m)
theorem spV_get {a : Abs} {x : Nat × Nat} {m : Nat} (h : m < 2 ^ a.strips.length) : (spV a x)[m]? = some (V.int (spZ a x m)) := by
  unfold spV
  rw [List.getElem?_map, List.getElem?_range h]
  rfl
def SparesAt (H : Hp) (s : Addr) (a : Abs) : Prop := ∃ ss : List Addr, H s = some (.lst (ss.map V.ref)) ∧ Paired (fun (y : Addr) (x : Nat × Nat) => H y = some (.lst (spV a x))) ss a.rolls
theorem SparesAt.mono {H H' : Hp} (k : Same H H') {s : Addr} {a : Abs} (h : SparesAt H s a) : SparesAt H' s a := by
  obtain ⟨ss, h1, h2⟩ := h
  exact ⟨ss, k _ _ h1, pimp (fun _ _ q => k _ _ q) h2⟩
theorem okL_iff {a : Abs} {j m : Nat} {x : Nat × Nat} (h : a.rolls[j]? = some x) : okL a j m = true ↔ 0 ≤ spZ a x m := by
  unfold okL spZ
  rw [h]
  dsimp only
  rw [decide_eq_true_iff]
  omega
theorem add_lt {n m i : Nat} (hm : m < 2 ^ n) (hi : i < n) (hb : m.testBit i = false) : m + 2 ^ i < 2 ^ n := by
  refine Nat.lt_pow_two_of_testBit _ fun j hj => ?_
  rw [tb_add i m j hb, Nat.testBit_lt_two_pow (Nat.lt_of_lt_of_le hm (Nat.pow_le_pow_right (by decide) hj)), Bool.false_or]
  exact decide_eq_false (by omega)
def WayV (r : Option (List Nat)) (v : V) (H : Hp) : Prop := (r = none ∧ v = .non) ∨ ∃ w q, r = some w ∧ v = .ref q ∧ H q = some (.lst (iv w))
theorem iv_set (l : List Nat) (j v : Nat) : (iv l).set j (.int (v : Int)) = iv (l.set j v) := by
  unfold iv
  rw [List.map_set]
theorem iv_at {L : List Nat} {i p : Nat} (h : L[i]? = some p) : (iv L)[i]? = some (V.int (p : Int)) := by
  unfold iv
  rw [List.getElem?_map, h]
  rfl
theorem cut_giv {loads : List Nat} {j i : Nat} (h : j < loads.length) : cutV (iv loads) none (some ((j : Nat) : Int)) ++ [V.int ((ld loads j + 2 ^ i : Nat) : Int)] ++ cutV (iv loads) (some (((j : Nat) : Int) + 1)) none = iv (giv loads j i) := by
  rw [cut_to_nat, show (((j : Nat) : Int) + 1) = ((j + 1 : Nat) : Int) from rfl, cut_from_nat]
  unfold giv
  rw [List.set_eq_take_append_cons_drop, if_pos h]
  unfold iv
  rw [List.map_append, List.map_cons, List.map_take, List.map_drop, List.append_assoc]
  rfl
section
variable {P : Program} {w : World} {K : PySem.W.Frag} {mg : Str → Option Value} {base : Heap} {A : Ad}
def spSparesOf (A : Ad) (K : PySem.W.Frag) : Sp := fun vs H Q _ => ∃ (rl l q g : Addr) (a : Abs) (x : Nat × Nat), vs = [.ref rl, .ref l, .ref q, .int (a.repeat_ : Int)] ∧ PieceAt A H rl x ∧ PiecesAt A H g l (a.strips.map pr) ∧ FoundAt H q a (2 ^ a.strips.length) ∧ 0 < a.repeat_ ∧ a.strips.length ≤ 6 ∧
  ∀ H' s, Same H H' → H s = none → H' s = some (.lst (spV a x)) → Q (.ref s) H'
theorem ok_spares_of_roll (T : Tx A K mg) : FnOk P w K mg base CX0 3 A.a_spares_of_roll A.d_spares_of_roll ["roll", "strips", "found", "repeat"] (spSparesOf A K) := by
  refine T.F_spares_of_roll.ok sc_spares_of_roll (fun vs H Q E h => ?_) (fun cdv Ar outer s H vs Q E hr h => ?_)
  · obtain ⟨rl, l, q, g, a, x, rfl, _⟩ := h
    rfl
  · obtain ⟨rl, l, q, g, a, x, rfl, ⟨dx, hrl⟩, hPs, hF, h0, h6, k⟩ := h
    have hp64 := pow_le h6
    obtain ⟨ds, hq, hPd⟩ := id hF
    have hdl : ds.length = 2 ^ a.strips.length := by rw [hPd.length, List.length_range]
    refine ⟨_, (pss_one (ps_ret (pe_lc (own := [("firsts", 4)]) (te := (tOp (rI0 fun i j => .int (i - j)) (tFld K (tVar 0) "long") (tCall (spLeast A) [] E0 (tCons (tFld K (tVar 0) "begins") (tCons (tVar 1) (tCons (tVar 4) (tCons (tVar 3) tNil))))))) (tt := tYes) rfl sc_spares_of_roll.nd (pi_list (pv 2)) (show BlkOk ["roll", "strips", "found", "repeat", "firsts"] (defScope s_spares_of_roll) _ [("firsts", 4)] from ⟨rfl, by decide +kernel, by decide +kernel, by decide +kernel, by decide +kernel⟩) (fun _ _ _ _ _ => (pg_name (i := 4) sc_spares_of_roll.nd rfl (Or.inl rfl))) (fun _ _ _ _ _ => pts_nil) (fun _ _ _ _ _ => (pe_op op_sub (pe_fld (pv 0) rfl) (pe_call (ok_least_from T) (hr.mono (by decide)) rfl T.m_least_from T.F_least_from.kp T.b_least_from .nil pass0 (pa_cons (pe_fld (pv 0) rfl) (pa_cons (pv 1) (pa_cons (pv 4) (pa_cons (pv 3) pa_nil)))))))))), ?_⟩
    refine ⟨_, rfl, q, rfl, ⟨_, SqL.of hq⟩, fun D hD => ?_⟩
    refine lc_list (K := K) (a := q) (xs := ds.map V.ref) (fun t H' => Same H H' ∧ H' D = some (.lst ((List.range t).map fun m => V.int (spZ a x m)))) ⟨Same.upd hD, upd_same⟩ (fun t H' _ ⟨s1, _⟩ => SqL.of (s1 _ _ hq)) ?_ ?_
    · rintro t y H1 ht ⟨s1, hD1⟩
      obtain ⟨d, hd, rfl⟩ := ref_get ht
      have htl : t < 2 ^ a.strips.length := by rw [← hdl]; exact (List.getElem?_eq_some_iff.mp hd).1
      obtain ⟨d', hd', hdt⟩ := Paired.get hPd (show (List.range (2 ^ a.strips.length))[t]? = some t by rw [List.getElem?_range htl])
      obtain rfl : d' = d := Option.some.inj (hd'.symm.trans hd)
      refine ⟨rfl, ?_⟩
      dsimp only [tYes]
      rw [if_pos rfl]
      refine ⟨_, rfl, _, _, _, _, _, rfl, (s1 _ _ hrl), T.cl_Piece, T.f_Piece_long, pf_long, _, rfl, _, _, _, _, _, rfl, (s1 _ _ hrl), T.cl_Piece, T.f_Piece_begins, pf_begins, _, rfl, _, rfl, _, rfl, x.2, t, l, d', g, a, rfl, hPs.mono s1, s1 _ _ hdt, h0, h6, fun H2 s2 => ⟨_, _, rfl, rfl, ?_⟩⟩
      refine ⟨_, s2 _ _ hD1, ?_, Same.wr (s1.trans s2) hD, ?_⟩
      · rw [List.length_map, List.length_range]
        exact Nat.lt_of_le_of_lt (show t ≤ 64 by omega) (by decide)
      · rw [upd_same, List.range_succ, List.map_append]
        rfl
    · rintro H1 ⟨s1, hD1⟩
      rw [List.length_map, hdl] at hD1
      exact k H1 D s1 hD hD1
def spSpares (A : Ad) : Sp := fun vs H Q _ => ∃ (l rl g : Addr) (a : Abs), vs = [.ref l, .ref rl, .int (a.repeat_ : Int)] ∧ PiecesAt A H g l (a.strips.map pr) ∧ PiecesAt A H g rl a.rolls ∧ 0 < a.repeat_ ∧ a.strips.length ≤ 6 ∧ a.rolls.length ≤ 3 ∧
  ∀ H' s, Same H H' → SparesAt H' s a → Q (.ref s) H'
theorem ok_spares_of_rolls (T : Tx A K mg) : FnOk P w K mg base CX0 4 A.a_spares_of_rolls A.d_spares_of_rolls ["strips", "rolls", "repeat"] (spSpares A) := by
  refine T.F_spares_of_rolls.ok sc_spares_of_rolls (fun vs H Q E h => ?_) (fun cdv Ar outer s H vs Q E hr h => ?_)
  · obtain ⟨l, rl, g, a, rfl, _⟩ := h
    rfl
  · obtain ⟨l, rl, g, a, rfl, hPs, hRs, h0, h6, h3, k⟩ := h
    obtain ⟨_, bs, hrl, hR⟩ := id hRs
    have hbl : bs.length = a.rolls.length := hR.length
    refine ⟨_, (pss_cons (ps_set (i := 3) sc_spares_of_rolls.nd rfl (Or.inr rfl) (pe_call (ok_firsts_of_sets T) (hr.mono (by decide)) rfl T.m_firsts_of_sets T.F_firsts_of_sets.kp T.b_firsts_of_sets .nil pass0 (pa_cons (pv 0) (pa_cons (pv 2) pa_nil))))
      (pss_one (ps_ret (pe_lc (own := [("roll", 4)]) (te := (tCall (spSparesOf A K) [] E0 (tCons (tVar 4) (tCons (tVar 0) (tCons (tVar 3) (tCons (tVar 2) tNil)))))) (tt := tYes) rfl sc_spares_of_rolls.nd (pi_list (pv 1)) (show BlkOk ["strips", "rolls", "repeat", "found", "roll"] (defScope s_spares_of_rolls) _ [("roll", 4)] from ⟨rfl, by decide +kernel, by decide +kernel, by decide +kernel, by decide +kernel⟩) (fun _ _ _ _ _ => (pg_name (i := 4) sc_spares_of_rolls.nd rfl (Or.inl rfl))) (fun _ _ _ _ _ => pts_nil) (fun _ _ _ _ _ => (pe_call (ok_spares_of_roll T) (hr.mono (by decide)) rfl T.m_spares_of_roll T.F_spares_of_roll.kp T.b_spares_of_roll .nil pass0 (pa_cons (pv 4) (pa_cons (pv 0) (pa_cons (pv 3) (pa_cons (pv 2) pa_nil)))))))))), ?_⟩
    refine ⟨_, rfl, _, rfl, l, g, a, rfl, hPs, h0, h6, fun H1 q s1 hF => ?_⟩
    refine ⟨_, rfl, rl, rfl, ⟨_, SqL.of (s1 _ _ hrl)⟩, fun D hD => ?_⟩
    refine lc_list (K := K) (a := rl) (xs := bs.map V.ref) (fun t H' => Same H1 H' ∧ ∃ ss : List Addr, H' D = some (.lst (ss.map V.ref)) ∧ Paired (fun (y : Addr) (x : Nat × Nat) => H' y = some (.lst (spV a x)) ∧ y ≠ D) ss (a.rolls.take t))
      ⟨Same.upd hD, [], upd_same, .nil⟩ (fun t H' _ ⟨s2, _⟩ => SqL.of (s2 _ _ (s1 _ _ hrl))) ?_ ?_
    · rintro t y H2 ht ⟨s2, ss, hD2, hPp⟩
      obtain ⟨ad, had, rfl⟩ := ref_get ht
      have htl : t < a.rolls.length := by rw [← hbl]; exact (List.getElem?_eq_some_iff.mp had).1
      obtain ⟨x, hx⟩ : ∃ x, a.rolls[t]? = some x := ⟨_, List.getElem?_eq_getElem htl⟩
      obtain ⟨ad', had', hpy⟩ := Paired.get hR hx
      obtain rfl : ad' = ad := Option.some.inj (had'.symm.trans had)
      have sH := s1.trans s2
      refine ⟨rfl, ?_⟩
      dsimp only [tYes]
      rw [if_pos rfl]
      refine ⟨_, rfl, _, rfl, _, rfl, _, rfl, ad', l, q, g, a, x, rfl, hpy.mono sH, hPs.mono sH, hF.mono s2, h0, h6, fun H3 s s3 hs0 hs => ?_⟩
      have hD3 := s3 _ _ hD2
      have hsD : s ≠ D := (ne_of_none hD2 hs0).symm
      refine ⟨_, hD3, ?_, Same.wr (s2.trans s3) hD, ss ++ [s], by rw [upd_same, List.map_append]; rfl, ?_⟩
      · rw [List.length_map, hPp.length, List.length_take]
        exact Nat.lt_of_le_of_lt (show min t _ ≤ 3 by omega) (by decide)
      · rw [List.take_add_one, hx]
        exact Paired.app (pimp (fun y x q => ⟨by rw [upd_ne q.2]; exact s3 _ _ q.1, q.2⟩) hPp) (.cons ⟨by rw [upd_ne hsD]; exact hs, hsD⟩ .nil)
    · rintro H2 ⟨s2, ss, hD2, hPp⟩
      rw [List.length_map, hbl, List.take_length] at hPp
      exact k H2 D (s1.trans s2) ⟨ss, hD2, pimp (fun _ _ q => q.1) hPp⟩
def spWay (K : PySem.W.Frag) (n : Nat) : Sp := fun vs H Q _ => ∃ (s lo le : Addr) (a : Abs) (loads left : List Nat), vs = [.ref s, .ref lo, .ref le] ∧ SparesAt H s a ∧ SqL K H lo (iv loads) ∧ SqL K H le (iv left) ∧ loads.length = a.rolls.length ∧ a.rolls.length ≤ 3 ∧ a.strips.length ≤ 6 ∧ Apart left loads ∧
  (∀ j, j < loads.length → ld loads j < 2 ^ a.strips.length) ∧ (∀ i ∈ left, i < a.strips.length) ∧ left.length < n ∧ left.length ≤ 100 ∧ ∀ (H' : Hp) (v : V), Same H H' → WayV (wayR (okL a) left loads) v H' → Q v H'
theorem len_nil {xs : List V} : decide (V.int ((xs.length : Nat) : Int) = V.int 0) = true ↔ xs = [] := by
  rw [deq_int]
  constructor
  · intro h
    exact List.length_eq_zero_iff.mp (by omega)
  · intro h
    rw [h]
    rfl
theorem ok_wf (T : Tx A K mg) : ∀ n : Nat, FnOk P w K mg base CX0 (n + 1) A.a_way_from A.d_way_from ["spares", "loads", "left"] (spWay K n)
  | 0 => ⟨fun vs H Q E h => by
      obtain ⟨s, lo, le, a, loads, left, rfl, _⟩ := h
      rfl, fun Ar outer s H args us vs Q E _ _ _ _ h => by
      obtain ⟨s, lo, le, a, loads, left, _, _, _, _, _, _, _, _, _, _, h, _⟩ := h
      exact absurd h (Nat.not_lt_zero _)⟩
  | n + 1 => by
    have IH := ok_wf T n
    refine T.F_way_from.ok sc_way_from (fun vs H Q E h => ?_) (fun cdv Ar outer s0 H vs Q E hr h => ?_)
    · obtain ⟨s, lo, le, a, loads, left, rfl, _⟩ := h
      rfl
    · obtain ⟨s, lo, le, a, loads, left, rfl, hS, hlo, hle, hll, h3, h6, hA, hlt, hli, hn, h100, k⟩ := h
      refine ⟨_, (pss_cons (ps_if (pt_cmpR op_eq (pe_callB call_len_seq (by rfl) T.n_len bt_len (pa_cons (pv 2) pa_nil)) pe_int (nomark _)) (pss_one (ps_ret (pe_lst pa_nil))) pss_nil)
      (pss_cons (ps_for PassesOwn.never rfl (pi_enum rfl T.n_enumerate (pa_cons (pv 1) pa_nil)) (pg_tup (n := 2) rfl (pgs_cons (pg_name (i := 3) sc_way_from.nd rfl (Or.inl rfl)) (pgs_cons (pg_name (i := 4) sc_way_from.nd rfl (Or.inl rfl)) pgs_nil))) (pss_cons (ps_set (i := 5) sc_way_from.nd rfl (Or.inl rfl) (pe_op op_add (pv 4) (pe_op op_shl pe_int (pe_ix ix_list (pv 2) pe_int (fun _ _ => rfl)))))
      (pss_one (ps_if (pt_cmpR op_ge (pe_ix ix_list (pe_ix ix_list (pv 0) (pv 3) (fun _ _ => rfl)) (pv 5) (fun _ _ => rfl)) pe_int (nomark _)) (pss_cons (ps_set (i := 6) sc_way_from.nd rfl (Or.inl rfl) (pe_call IH (hr.mono (by omega)) rfl T.m_way_from T.F_way_from.kp T.b_way_from .nil pass0 (pa_cons (pv 0) (pa_cons (pe_op op_cat (pe_op op_cat (pe_slice sl_list (pv 1) po_none (po_some (pv 3))) (pe_lst (pa_cons (pv 5) pa_nil))) (pe_slice sl_list (pv 1) (po_some (pe_op op_add (pv 3) pe_int)) po_none)) (pa_cons (pe_slice sl_list (pv 2) (po_some pe_int) po_none) pa_nil)))))
      (pss_one (ps_if (pt_cmpR op_notN (pv 6) pe_non (nomark _)) (pss_one (ps_ret (pe_op op_cat (pe_lst (pa_cons (pv 3) pa_nil)) (pv 6)))) pss_nil))) pss_nil))))
      (pss_one (ps_ret pe_non)))), ?_⟩
      refine ⟨_, rfl, le, _, rfl, .inl hle, rfl, _, rfl, ite2 (fun h => ?_) (fun h => ?_)⟩
      · have hnil : left = [] := List.map_eq_nil_iff.mp (len_nil.mp h)
        refine ⟨Nat.zero_le _, fun q hq => k _ _ (Same.upd hq) (.inr ⟨[], q, ?_, rfl, upd_same⟩)⟩
        rw [hnil]
        rfl
      · obtain ⟨i, left', hleft⟩ : ∃ i left', left = i :: left' := by
          cases left with
          | nil => exact absurd (len_nil.mpr rfl) h
          | cons i l => exact ⟨i, l, rfl⟩
        subst hleft
        have hi : i < a.strips.length := hli i (List.mem_cons_self ..)
        have hfi : wayR (okL a) (i :: left') loads = (List.range loads.length).findSome? fun j => if okL a j (ld loads j + 2 ^ i) = true then (wayR (okL a) left' (giv loads j i)).map fun w => j :: w else none := rfl
        refine ⟨_, rfl, lo, _, rfl, hlo, for_enum (K := K) (a := lo) (xs := iv loads) (fun t σ H' => Same H H' ∧ ∃ v3 v4 v5 v6 : Option V, σ = [some (.ref s), some (.ref lo), some (.ref le), v3, v4, v5, v6] ∧ ∀ j, j < t → (if okL a j (ld loads j + 2 ^ i) = true then (wayR (okL a) left' (giv loads j i)).map fun w => j :: w else none) = none)
          ⟨Same.refl H, none, none, none, none, rfl, fun j hj => absurd hj (Nat.not_lt_zero _)⟩ (fun t σ H' _ ⟨s1, _⟩ => s1.seq hlo) ?_ ?_⟩
        · rintro t y σ H1 T0 ht ⟨s1, v3, v4, v5, v6, rfl, hno⟩ hT
          obtain ⟨ldt, hldt, rfl⟩ := iv_get ht
          have htl : t < loads.length := (List.getElem?_eq_some_iff.mp hldt).1
          have hld : ld loads t = ldt := by
            unfold ld
            rw [List.getD_eq_getElem?_getD, hldt]
            rfl
          have s2' := Same.upd (o := .tup [.int (t : Nat), .int (ldt : Int)]) hT
          have s2 := s1.trans s2'
          obtain ⟨x, hx⟩ : ∃ x, a.rolls[t]? = some x := ⟨_, List.getElem?_eq_getElem (by omega)⟩
          obtain ⟨ss, hs, hPp⟩ := hS.mono s2
          obtain ⟨sy, hsy, hy⟩ := Paired.get hPp hx
          have hmlt : ld loads t + 2 ^ i < 2 ^ a.strips.length := add_lt (hlt t htl) hi (hA.2 t htl i (List.mem_cons_self ..))
          have emore : (ldt : Int) + (1 : Int) * 2 ^ ((i : Int)).toNat = ((ld loads t + 2 ^ i : Nat) : Int) := by
            rw [shl_one, hld]
            omega
          refine ⟨T0, _, rfl, SqT.of upd_same, rfl, _, _, rfl, _, _, rfl, rfl, ?_⟩
          refine ⟨_, rfl, _, rfl, le, _, _, _, rfl, rfl, s2.seq hle, (show atI (iv (i :: left')) ((0 : Nat) : Int) = some (V.int (i : Int)) from atI_nat rfl), _, _, rfl, rfl, cpow1 (t := i) (by omega), _, _, rfl, rfl, ?_⟩
          refine ⟨_, rfl, _, rfl, s, _, _, _, rfl, rfl, SqL.of hs, atI_nat (v := V.ref sy) (by rw [List.getElem?_map, hsy]; rfl), _, rfl, sy, _, _, _, rfl, rfl, SqL.of hy, (by rw [emore]; exact atI_nat (spV_get hmlt)), _, _, rfl, rfl, _, rfl, ite2 (fun h => ?_) (fun h => ?_)⟩
          · have hok : okL a t (ld loads t + 2 ^ i) = true := (okL_iff hx).mpr (of_decide_eq_true h)
            -- way = way_from(..)
            refine ⟨_, rfl, _, rfl, _, rfl, _, rfl, lo, _, rfl, s2.seq hlo, fun q1 hq1 => ?_⟩
            have s3' := Same.upd (o := .lst (cutV (iv loads) none (some ((t : Nat) : Int)))) hq1
            have s3 := s2.trans s3'
            refine ⟨_, rfl, (by show 1 ≤ sizeLine; decide), fun q2 hq2 => ?_⟩
            have s4' := Same.upd (o := .lst [V.int ((ldt : Int) + (1 : Int) * 2 ^ ((i : Int)).toNat)]) hq2
            have s4 := s3.trans s4'
            have l1 := cutV_length (iv loads) none (some ((t : Nat) : Int))
            have l2 := cutV_length (iv loads) (some (((t : Nat) : Int) + 1)) none
            rw [iv_len] at l1 l2
            refine ⟨q1, q2, _, _, rfl, rfl, s4' _ _ upd_same, upd_same, Nat.le_trans (show _ + 1 ≤ 4 by omega) (by decide), fun q3 hq3 => ?_⟩
            have s5' := Same.upd (o := .lst (cutV (iv loads) none (some ((t : Nat) : Int)) ++ [V.int ((ldt : Int) + (1 : Int) * 2 ^ ((i : Int)).toNat)])) hq3
            have s5 := s4.trans s5'
            refine ⟨_, rfl, _, rfl, _, _, rfl, rfl, _, rfl, lo, _, rfl, s5.seq hlo, fun q4 hq4 => ?_⟩
            have s6' := Same.upd (o := .lst (cutV (iv loads) (some (((t : Nat) : Int) + 1)) none)) hq4
            have s6 := s5.trans s6'
            refine ⟨q3, q4, _, _, rfl, rfl, s6' _ _ upd_same, upd_same, (by rw [List.length_append]; exact Nat.le_trans (show _ + 1 + _ ≤ 7 by omega) (by decide)), fun q5 hq5 => ?_⟩
            have s7' := Same.upd (o := .lst (cutV (iv loads) none (some ((t : Nat) : Int)) ++ [V.int ((ldt : Int) + (1 : Int) * 2 ^ ((i : Int)).toNat)] ++ cutV (iv loads) (some (((t : Nat) : Int) + 1)) none)) hq5
            have s7 := s6.trans s7'
            have ecut : cutV (iv loads) none (some ((t : Nat) : Int)) ++ [V.int ((ldt : Int) + (1 : Int) * 2 ^ ((i : Int)).toNat)] ++ cutV (iv loads) (some (((t : Nat) : Int) + 1)) none = iv (giv loads t i) := by
              rw [emore]
              exact cut_giv htl
            refine ⟨_, rfl, _, rfl, le, _, rfl, s7.seq hle, fun q6 hq6 => ?_⟩
            have s8' := Same.upd (o := .lst (cutV (iv (i :: left')) (some 1) none)) hq6
            have s8 := s7.trans s8'
            have ecl : cutV (iv (i :: left')) (some 1) none = iv left' := cut_from_nat _ 1
            have hn' : left'.length + 1 < n + 1 := hn
            have h100' : left'.length + 1 ≤ 100 := h100
            refine ⟨s, q5, q6, a, giv loads t i, left', rfl, hS.mono s8, SqL.of (by rw [s8' _ _ upd_same, ecut]), SqL.of (by rw [upd_same, ecl]), (by rw [giv_len]; exact hll), h3, h6, hA.giv htl, (fun j hj => ?_), (fun j hj => hli j (List.mem_cons_of_mem _ hj)), (by omega), (by omega), fun H9 v s9 hv => ?_⟩
            · rw [giv_len] at hj
              unfold giv
              by_cases e : t = j
              · subst e
                rw [ld_set_self htl]
                exact hmlt
              · rw [ld_set_ne e]
                exact hlt j hj
            · rcases hv with ⟨hr0, rfl⟩ | ⟨w', qw, hr0, rfl, hqw⟩
              · refine ⟨_, rfl, rfl, _, rfl, iteF ⟨s8.trans s9, _, _, _, _, rfl, fun j hj => ?_⟩⟩
                by_cases e : j = t
                · subst e
                  rw [if_pos hok, hr0]
                  rfl
                · exact hno j (by omega)
              · refine ⟨_, rfl, rfl, _, rfl, iteT ⟨_, rfl, (by show 1 ≤ sizeLine; decide), fun q7 hq7 => ?_⟩⟩
                have hwl := (way_mem _ _ hr0).1
                have s10' := Same.upd (o := .lst [V.int ((t : Nat) : Int)]) hq7
                refine ⟨_, rfl, q7, qw, _, _, rfl, rfl, upd_same, s10' _ _ hqw, (by rw [iv_len, hwl]; exact Nat.le_trans (show 1 + left'.length ≤ 101 by omega) (by decide)), fun q8 hq8 => ?_⟩
                refine k _ _ (((s8.trans s9).trans s10').trans (Same.upd hq8)) (.inr ⟨t :: w', q8, ?_, rfl, upd_same⟩)
                rw [hfi]
                refine fs_found htl (fun j hj => hno j hj) ?_
                rw [if_pos hok, hr0]
                rfl
          · have hok : ¬ okL a t (ld loads t + 2 ^ i) = true := fun q => h (decide_eq_true ((okL_iff hx).mp q))
            refine ⟨s2, _, _, _, _, rfl, fun j hj => ?_⟩
            by_cases e : j = t
            · subst e
              rw [if_neg hok]
            · exact hno j (by omega)
        · rintro σ H1 ⟨s1, v3, v4, v5, v6, rfl, hno⟩
          rw [iv_len] at hno
          refine k _ _ s1 (.inl ⟨?_, rfl⟩)
          rw [hfi]
          exact fs_none hno
theorem ok_way_from (T : Tx A K mg) : FnOk P w K mg base CX0 8 A.a_way_from A.d_way_from ["spares", "loads", "left"] (spWay K 7) := ok_wf T 7
theorem rep_zeros (k : Nat) : (List.replicate ((k : Int)).toNat [V.int 0]).flatten = iv (zeros k) := by
  rw [Int.toNat_natCast]
  unfold iv zeros
  rw [List.map_replicate]
  induction k with
  | zero => rfl
  | succ k ih =>
    rw [List.replicate_succ, List.flatten_cons, ih, List.replicate_succ]
    rfl
def spFirstWay (K : PySem.W.Frag) : Sp := fun vs H Q _ => ∃ (s le : Addr) (a : Abs) (left : List Nat), vs = [.ref s, .ref le] ∧ SparesAt H s a ∧ SqL K H le (iv left) ∧ a.rolls.length ≤ 3 ∧ a.strips.length ≤ 6 ∧ left.Nodup ∧ (∀ i ∈ left, i < a.strips.length) ∧ left.length ≤ 6 ∧
  ∀ (H' : Hp) (v : V), Same H H' → WayV (wayR (okL a) left (zeros a.rolls.length)) v H' → Q v H'
theorem ok_first_way (T : Tx A K mg) : FnOk P w K mg base CX0 9 A.a_first_way A.d_first_way ["spares", "chosen"] (spFirstWay K) := by
  refine T.F_first_way.ok sc_first_way (fun vs H Q E h => ?_) (fun cdv Ar outer s H vs Q E hr h => ?_)
  · obtain ⟨s, le, a, left, rfl, _⟩ := h
    rfl
  · obtain ⟨s, le, a, left, rfl, hS, hle, h3, h6, hnd, hli, hl6, k⟩ := h
    obtain ⟨ss, hs, hPp⟩ := id hS
    have hsl : ss.length = a.rolls.length := hPp.length
    refine ⟨_, (pss_one (ps_ret (pe_call (ok_way_from T) (hr.mono (by decide)) rfl T.m_way_from T.F_way_from.kp T.b_way_from .nil pass0 (pa_cons (pv 0) (pa_cons (pe_op op_rep (pe_lst (pa_cons pe_int pa_nil)) (pe_callB call_len_seq (by rfl) T.n_len bt_len (pa_cons (pv 0) pa_nil))) (pa_cons (pv 1) pa_nil)))))), ?_⟩
    refine ⟨_, rfl, (by show 1 ≤ sizeLine; decide), fun q1 hq1 => ?_⟩
    have s1 := Same.upd (o := .lst [.int 0]) hq1
    refine ⟨_, rfl, s, _, rfl, .inl (SqL.of (s1 _ _ hs)), ?_⟩
    rw [List.length_map, hsl]
    refine ⟨q1, _, _, rfl, rfl, upd_same, by omega, by omega, (by rw [Int.toNat_natCast]; exact Nat.le_trans (show 1 * a.rolls.length ≤ 3 by omega) (by decide)), fun q2 hq2 => ?_⟩
    rw [rep_zeros]
    have s2' := Same.upd (o := .lst (iv (zeros a.rolls.length))) hq2
    have s2 := s1.trans s2'
    have hz : (zeros a.rolls.length).length = a.rolls.length := List.length_replicate ..
    exact ⟨_, rfl, s, q2, le, a, zeros a.rolls.length, left, rfl, hS.mono s2, SqL.of upd_same, s2.seq hle, hz, h3, h6, apart_zeros hnd _, (fun j _ => by rw [ld_zeros]; exact Nat.lt_of_lt_of_le Nat.zero_lt_one Nat.one_le_two_pow), hli, by omega, by omega, fun H' v s' hv => k H' v (s2.trans s') hv⟩
def spLoads : Sp := fun vs H Q _ => ∃ (q : Addr) (w : List Nat) (k : Nat), vs = [.ref q, .int (k : Int)] ∧ H q = some (.lst (iv w)) ∧ (∀ x ∈ w, x < k) ∧ w.length ≤ 6 ∧ k ≤ 3 ∧ ∀ (H' : Hp) (l : Addr), Same H H' → H l = none → H' l = some (.lst (iv (run (List.range w.length) w (zeros k)))) → Q (.ref l) H'
theorem ok_loads_of_way (T : Tx A K mg) : FnOk P w K mg base CX0 1 A.a_loads_of_way A.d_loads_of_way ["way", "count"] spLoads := by
  refine T.F_loads_of_way.ok sc_loads_of_way (fun vs H Q E h => ?_) (fun cdv Ar outer s H vs Q E hr h => ?_)
  · obtain ⟨q, w', k', rfl, _⟩ := h
    rfl
  · obtain ⟨q, wy, kk, rfl, hq, hw, h6, h3, k⟩ := h
    have hz : (zeros kk).length = kk := List.length_replicate ..
    refine ⟨_, (pss_cons (ps_set (i := 2) sc_loads_of_way.nd rfl (Or.inl rfl) (pe_op op_rep (pe_lst (pa_cons pe_int pa_nil)) (pv 1)))
      (pss_cons (ps_for PassesOwn.never rfl (pi_enum rfl T.n_enumerate (pa_cons (pv 0) pa_nil)) (pg_tup (n := 2) rfl (pgs_cons (pg_name (i := 3) sc_loads_of_way.nd rfl (Or.inl rfl)) (pgs_cons (pg_name (i := 4) sc_loads_of_way.nd rfl (Or.inl rfl)) pgs_nil))) (pss_one (ps_asg (pe_op op_add (pe_ix ix_list (pv 2) (pv 4) (fun _ _ => rfl)) (pe_op op_shl pe_int (pv 3))) (pg_sub (pv 2) (pv 4) set_list))))
      (pss_one (ps_ret (pv 2))))), ?_⟩
    refine ⟨(by show 1 ≤ sizeLine; decide), fun q1 hq1 => ?_⟩
    have s1 := Same.upd (o := .lst [.int 0]) hq1
    refine ⟨_, rfl, q1, _, _, rfl, rfl, upd_same, by omega, by omega, (by rw [Int.toNat_natCast]; exact Nat.le_trans (show 1 * kk ≤ 3 by omega) (by decide)), fun q2 hq2 => ?_⟩
    have s2 := s1.trans (Same.upd (o := .lst (iv (zeros kk))) hq2)
    have hq20 : H q2 = none := s1.free hq2
    rw [rep_zeros]
    have hq2q : q ≠ q2 := ne_of_none (s1 _ _ hq) hq2
    refine ⟨_, rfl, q, _, rfl, SqL.of (s2 _ _ hq), for_enum (K := K) (a := q) (xs := iv wy) (fun t σ H' => Same H H' ∧ ∃ v3 v4 : Option V, σ = [some (.ref q), some (.int (kk : Int)), some (.ref q2), v3, v4] ∧ H' q2 = some (.lst (iv (run (List.range t) (wy.take t) (zeros kk)))))
      ⟨s2, none, none, rfl, upd_same⟩ (fun t σ H' _ ⟨s3, _⟩ => SqL.of (s3 _ _ hq)) ?_ ?_⟩
    · rintro t y σ H1 T0 ht ⟨s3, v3, v4, rfl, hq3⟩ hT
      obtain ⟨j, hj, rfl⟩ := iv_get ht
      have hjk := hw j (List.mem_of_getElem? hj)
      have htl : t < wy.length := (List.getElem?_eq_some_iff.mp hj).1
      have hrl : (run (List.range t) (wy.take t) (zeros kk)).length = kk := by rw [run_len, hz]
      have hget : (run (List.range t) (wy.take t) (zeros kk))[j]? = some (ld (run (List.range t) (wy.take t) (zeros kk)) j) := by
        unfold ld
        rw [List.getD_eq_getElem?_getD, List.getElem?_eq_getElem (by rw [hrl]; exact hjk)]
        rfl
      have s4' := Same.upd (o := .tup [.int (t : Nat), .int (j : Int)]) hT
      have hq4 := s4' _ _ hq3
      refine ⟨T0, _, rfl, SqT.of upd_same, rfl, _, _, rfl, _, _, rfl, rfl, ?_⟩
      refine ⟨_, rfl, _, rfl, q2, _, _, _, rfl, rfl, SqL.of hq4, atI_nat (iv_at hget), _, rfl, _, _, rfl, rfl, cpow1 (by omega), _, _, rfl, rfl, ?_⟩
      refine ⟨_, rfl, _, rfl, q2, _, _, j, rfl, rfl, hq4, ?_, ?_⟩
      · unfold ixN
        rw [if_pos (by omega), iv_len, hrl, if_pos (by omega), Int.toNat_natCast]
      · refine ⟨Same.wr (s3.trans s4') hq20, _, _, rfl, ?_⟩
        have e : run (List.range (t + 1)) (wy.take (t + 1)) (zeros kk) = giv (run (List.range t) (wy.take t) (zeros kk)) j t := by
          rw [List.range_succ, take_snoc hj, run_app _ _ _ _ _ (by rw [List.length_range, List.length_take]; omega)]
          rfl
        rw [upd_same, e]
        have em : ((ld (run (List.range t) (wy.take t) (zeros kk)) j : Nat) : Int) + (1 : Int) * 2 ^ ((t : Int)).toNat = ((ld (run (List.range t) (wy.take t) (zeros kk)) j + 2 ^ t : Nat) : Int) := by
          rw [shl_one]
          omega
        show some (HO.lst ((iv (run (List.range t) (wy.take t) (zeros kk))).set j (V.int (((ld (run (List.range t) (wy.take t) (zeros kk)) j : Nat) : Int) + (1 : Int) * 2 ^ ((t : Int)).toNat)))) = _
        rw [em, iv_set]
        rfl
    · rintro σ H1 ⟨s3, v3, v4, rfl, hq3⟩
      rw [iv_len, List.take_length] at hq3
      exact ⟨_, rfl, k H1 q2 s3 hq20 hq3⟩
def spSet : Sp := fun vs H Q _ => ∃ n m : Nat, vs = [.int (m : Int), .int (n : Int)] ∧ n ≤ 6 ∧ ∀ (H' : Hp) (q : Addr), Same H H' → H' q = some (.lst (iv (bl n m))) → Q (.ref q) H'
theorem ok_strips_of_set (T : Tx A K mg) : FnOk P w K mg base CX0 1 A.a_strips_of_set A.d_strips_of_set ["number", "count"] spSet := by
  refine T.F_strips_of_set.ok sc_strips_of_set (fun vs H Q E h => ?_) (fun cdv Ar outer s H vs Q E hr h => ?_)
  · obtain ⟨n, m, rfl, _⟩ := h
    rfl
  · obtain ⟨n, m, rfl, h6, k⟩ := h
    refine ⟨_, (pss_one (ps_ret (pe_lc (own := [("i", 2)]) (te := (tVar 2)) (tt := (tTest (tOp rEq (tOp (rI0 fun i j => .int (Builtin.bitAnd i j)) (tOp (rI (fun _ j => 0 ≤ j) fun i j => .int (i / 2 ^ j.toNat)) (tVar 0) (tVar 2)) (tC (.int 1))) (tC (.int 1))))) rfl sc_strips_of_set.nd (pi_range1 rfl T.n_range (pa_cons (pv 1) pa_nil)) (show BlkOk ["number", "count", "i"] (defScope s_strips_of_set) _ [("i", 2)] from ⟨rfl, by decide +kernel, by decide +kernel, by decide +kernel, by decide +kernel⟩) (fun _ _ _ _ _ => (pg_name (i := 2) sc_strips_of_set.nd rfl (Or.inl rfl))) (fun _ _ _ _ _ => pts_one (pt_cmpR op_eq (pe_op op_and (pe_op op_shr (pv 0) (pv 2)) pe_int) pe_int (nomark _))) (fun _ _ _ _ _ => (pv 2))))), ?_⟩
    refine ⟨_, rfl, (n : Int), rfl, by omega, by omega, fun D hD => ?_⟩
    rw [Int.toNat_natCast]
    refine lc_range (lo := 0) (n := n) (fun t H' => Same H H' ∧ H' D = some (.lst (iv (bl t m)))) ⟨Same.upd hD, upd_same⟩ ?_ ?_
    · rintro t H1 ht ⟨s1, hD1⟩
      rw [Int.zero_add]
      refine ⟨rfl, ?_⟩
      refine ⟨_, rfl, _, rfl, _, _, rfl, rfl, (by show (0 : Int) ≤ (t : Int); omega), _, _, rfl, rfl, rfl, _, rfl, ite2 (fun h => ?_) (fun h => ?_)⟩
      · have hbit := (bit_test m t).mp h
        refine ⟨_, rfl, _, hD1, ?_, Same.wr s1 hD, ?_⟩
        · rw [iv_len]
          exact Nat.lt_of_le_of_lt (Nat.le_trans (bl_len t m) (show t ≤ 6 by omega)) (by decide)
        · rw [upd_same, bl_succ, if_pos hbit, iv_app]
          rfl
      · have hbit : ¬ m.testBit t = true := fun q => h ((bit_test m t).mpr q)
        refine ⟨s1, ?_⟩
        rw [hD1, bl_succ, if_neg hbit, List.append_nil]
    · rintro H1 ⟨s1, hD1⟩
      exact k H1 D s1 hD1
def spLargest : Sp := fun vs H Q _ => ∃ (s : Addr) (a : Abs), vs = [.ref s, .int (a.strips.length : Int)] ∧ SparesAt H s a ∧ a.rolls.length ≤ 3 ∧ a.strips.length ≤ 6 ∧ 0 < a.repeat_ ∧
  ∀ (H' : Hp) (t : Addr), Same H H' → H' t = some (.tup [.int ((Kh351.bits (Kh351.most a) a.strips.length : Nat) : Int), .int ((Kh351.most a : Nat) : Int)]) → Q (.ref t) H'
theorem ok_largest_set (T : Tx A K mg) : FnOk P w K mg base CX0 10 A.a_largest_set A.d_largest_set ["spares", "count"] spLargest := by
  refine T.F_largest_set.ok sc_largest_set (fun vs H Q E h => ?_) (fun cdv Ar outer s H vs Q E hr h => ?_)
  · obtain ⟨s, a, rfl, _⟩ := h
    rfl
  · obtain ⟨s, a, rfl, hS, h3, h6, h0, k⟩ := h
    have hp64 := pow_le h6
    have hb0 : Kh351.bits 0 a.strips.length = 0 := by
      rw [bits_bl, bl_zero]
      rfl
    refine ⟨_, (pss_cons (ps_set (i := 2) sc_largest_set.nd rfl (Or.inl rfl) pe_int)
      (pss_cons (ps_set (i := 3) sc_largest_set.nd rfl (Or.inl rfl) pe_int)
      (pss_cons (ps_for PassesOwn.never rfl (pi_range1 rfl T.n_range (pa_cons (pe_op op_shl pe_int (pv 1)) pa_nil)) (pg_name (i := 4) sc_largest_set.nd rfl (Or.inl rfl)) (pss_cons (ps_set (i := 5) sc_largest_set.nd rfl (Or.inl rfl) (pe_call (ok_strips_of_set T) (hr.mono (by decide)) rfl T.m_strips_of_set T.F_strips_of_set.kp T.b_strips_of_set .nil pass0 (pa_cons (pv 4) (pa_cons (pv 1) pa_nil))))
      (pss_one (ps_if (PW.pt (pw_and (pt_cmpR op_gt (pe_callB call_len_seq (by rfl) T.n_len bt_len (pa_cons (pv 5) pa_nil)) (pv 3) (nomark _)) (pw_and1 (pt_cmpR op_notN (pe_call (ok_first_way T) (hr.mono (by decide)) rfl T.m_first_way T.F_first_way.kp T.b_first_way .nil pass0 (pa_cons (pv 0) (pa_cons (pv 5) pa_nil))) pe_non (nomark _))))) (pss_cons (ps_set (i := 2) sc_largest_set.nd rfl (Or.inl rfl) (pv 4))
      (pss_one (ps_set (i := 3) sc_largest_set.nd rfl (Or.inl rfl) (pe_callB call_len_seq (by rfl) T.n_len bt_len (pa_cons (pv 5) pa_nil))))) pss_nil))))
      (pss_one (ps_ret (pe_tup (pa_cons (pv 3) (pa_cons (pv 2) pa_nil)))))))), ?_⟩
    refine ⟨_, rfl, _, _, rfl, rfl, cpow1 h6, _, rfl, ?_⟩
    rw [shl_one]
    have hI1 : ((2 ^ a.strips.length : Nat) : Int) ≤ (64 : Nat) := Int.ofNat_le.mpr hp64
    have hI0 : (0 : Int) ≤ ((2 ^ a.strips.length : Nat) : Int) := Int.natCast_nonneg _
    refine ⟨by omega, by omega, ?_⟩
    rw [Int.toNat_natCast]
    refine for_range (lo := 0) (n := 2 ^ a.strips.length) (fun t σ H' => Same H H' ∧ ∃ v4 v5 : Option V, σ = [some (.ref s), some (.int (a.strips.length : Int)), some (.int ((mostK a t : Nat) : Int)), some (.int ((Kh351.bits (mostK a t) a.strips.length : Nat) : Int)), v4, v5])
      ⟨Same.refl H, none, none, ?_⟩ ?_ ?_
    · show _ = [_, _, some (V.int ((0 : Nat) : Int)), some (V.int ((Kh351.bits 0 a.strips.length : Nat) : Int)), none, none]
      rw [hb0]
      rfl
    · rintro t σ H1 ht ⟨s1, v4, v5, rfl⟩
      rw [Int.zero_add]
      refine ⟨_, rfl, _, rfl, a.strips.length, t, rfl, h6, fun H2 q s2' hq => ?_⟩
      have s2 := s1.trans s2'
      have hstep := mostK_succ a t
      have hfit := part_fits h0 (part_set a t)
      have hbl6 := bl_len a.strips.length t
      have no : ¬ (Kh351.bits (mostK a t) a.strips.length < Kh351.bits t a.strips.length ∧ (Kh351.fits (Kh351.subset a t)).isSome = true) → ∀ H3, Same H H3 → Same H H3 ∧ ∃ v4 v5 : Option V, [some (V.ref s), some (V.int (a.strips.length : Int)), some (.int ((mostK a t : Nat) : Int)), some (.int ((Kh351.bits (mostK a t) a.strips.length : Nat) : Int)), some (.int (t : Int)), some (.ref q)] = [some (.ref s), some (.int (a.strips.length : Int)), some (.int ((mostK a (t + 1) : Nat) : Int)), some (.int ((Kh351.bits (mostK a (t + 1)) a.strips.length : Nat) : Int)), v4, v5] := fun hx H3 s3 => by
        rw [hstep, if_neg hx]
        exact ⟨s3, _, _, rfl⟩
      refine ⟨_, rfl, q, _, rfl, .inl (SqL.of hq), _, rfl, _, _, rfl, rfl, _, rfl, ite2 (fun h => ?_) (fun h => ?_)⟩
      · have hgt : Kh351.bits (mostK a t) a.strips.length < Kh351.bits t a.strips.length := by
          have := of_decide_eq_true h
          rw [iv_len] at this
          rw [bits_bl t]
          omega
        refine ⟨_, rfl, _, rfl, s, q, a, bl a.strips.length t, rfl, hS.mono s2, SqL.of hq, h3, h6, bl_nodup _ _, (fun i hi => (mem_bl.mp hi).1), by omega, fun H3 v s3' hv => ?_⟩
        have s3 := s2.trans s3'
        rcases hv with ⟨hr0, rfl⟩ | ⟨w', qw, hr0, rfl, hqw⟩
        · refine ⟨rfl, _, rfl, iteF (no (fun hx => ?_) H3 s3)⟩
          rw [hfit, hr0] at hx
          exact absurd hx.2 (by decide)
        · refine ⟨rfl, _, rfl, iteT ?_⟩
          have hy : Kh351.bits (mostK a t) a.strips.length < Kh351.bits t a.strips.length ∧ (Kh351.fits (Kh351.subset a t)).isSome = true := ⟨hgt, by rw [hfit, hr0]; rfl⟩
          refine ⟨_, rfl, _, rfl, q, _, rfl, .inl (SqL.of (s3' _ _ hq)), s3, some (.int (t : Int)), some (.ref q), ?_⟩
          rw [hstep, if_pos hy, iv_len, bits_bl t]
          rfl
      · refine iteF (no (fun hx => h (decide_eq_true ?_)) H2 s2)
        rw [iv_len]
        rw [bits_bl t] at hx
        omega
    · rintro σ H1 ⟨s1, v4, v5, rfl⟩
      rw [most_all]
      refine ⟨_, rfl, _, rfl, (by show 2 ≤ sizeLine; decide), fun t ht => k _ t (s1.trans (Same.upd ht)) upd_same⟩
end
end PM

end

section
set_option Elab.async false
set_option linter.all false
set_option maxRecDepth 100000
set_option maxHeartbeats 2000000
namespace PM
open PySem PySem.Spec PyProof.Rows L2
open Kh351 (Abs Strip)
theorem iv_range (n : Nat) : ((List.range n).map fun (i : Nat) => V.int (i : Int)) = iv (List.range n) := rfl
section
variable {P : Program} {w : World} {K : PySem.W.Frag} {mg : Str → Option Value} {base : Heap} {A : Ad}
theorem rolls_nil {a : Abs} {bs : List Addr} (h : bs.length = a.rolls.length) : decide (V.int (((bs.map V.ref).length : Nat) : Int) = V.int 0) = true ↔ a.rolls = [] := by
  rw [len_nil]
  constructor
  · intro e
    rw [List.map_eq_nil_iff.mp e] at h
    exact List.length_eq_zero_iff.mp h.symm
  · intro e
    rw [e] at h
    rw [List.length_eq_zero_iff.mp h]
    rfl
def mkFits (ws : List V) (c : Kh351.Call) : Prop := ws = [] ∧ c = .fits
theorem ok_fits (T : Tx A K mg) : FnOk P w K mg base CX0 10 A.a_fits A.d_fits ["carpet"] (spC A mkFits) := by
  refine T.F_fits.ok sc_fits (fun vs H Q E h => ?_) (fun cdv Ar outer s H vs Q E hr h => ?_)
  · obtain ⟨p, g, a, c, ws, rfl, ⟨rfl, _⟩, _⟩ := h
    rfl
  · obtain ⟨p, g, a, c, ws, rfl, ⟨rfl, rfl⟩, hC, W, hg, k⟩ := h
    obtain ⟨dx, a0, b0, c0, ts, C⟩ := id hC
    obtain ⟨hs0, as, hl, hP⟩ := C.strips
    obtain ⟨hs1, bs, hlr, hR⟩ := C.rolls
    have hlen : as.length = a.strips.length := by rw [hP.length, List.length_map]
    have hlen2 : bs.length = a.rolls.length := hR.length
    have W6 := W.now.s
    have hfits := part_fits W.now.r1 (part_all a)
    refine ⟨_, (pss_cons (ps_if (pt_cmpR op_eq (pe_callB call_len_seq (by rfl) T.n_len bt_len (pa_cons (pe_fld (pv 0) rfl) pa_nil)) pe_int (nomark _)) (pss_one (ps_ret (pe_lst (pa_cons (pe_gint rfl T.c_NO_ROLLS) pa_nil)))) pss_nil)
      (pss_cons (ps_set (i := 1) sc_fits.nd rfl (Or.inl rfl) (pe_callB call_len_seq (by rfl) T.n_len bt_len (pa_cons (pe_fld (pv 0) rfl) pa_nil)))
      (pss_cons (ps_set (i := 2) sc_fits.nd rfl (Or.inl rfl) (pe_call (ok_first_way T) (hr.mono (by decide)) rfl T.m_first_way T.F_first_way.kp T.b_first_way .nil pass0 (pa_cons (pe_call (ok_spares_of_rolls T) (hr.mono (by decide)) rfl T.m_spares_of_rolls T.F_spares_of_rolls.kp T.b_spares_of_rolls .nil pass0 (pa_cons (pe_fld (pv 0) rfl) (pa_cons (pe_fld (pv 0) rfl) (pa_cons (pe_fld (pv 0) rfl) pa_nil)))) (pa_cons (pe_callTy (call_list_rng rfl) (by rfl) T.n_list bt_list (pa_cons (pe_callTy call_rng1 (by rfl) T.n_range bt_range (pa_cons (pv 1) pa_nil)) pa_nil)) pa_nil))))
      (pss_cons (ps_if (pt_cmpR op_isN (pv 2) pe_non (nomark _)) (pss_one (ps_ret (pe_lst (pa_cons (pe_gint rfl T.c_NO_FIT) pa_nil)))) pss_nil)
      (pss_one (ps_ret (pe_op op_cat (pe_lst (pa_cons (pv 1) pa_nil)) (pv 2)))))))), ?_⟩
    refine ⟨_, rfl, _, _, _, _, _, rfl, C.at_, T.cl_Carpet, T.f_Carpet_rolls, cf_rolls, b0, _, rfl, .inl (SqL.of hlr), rfl, _, rfl, ite2 (fun h => ?_) (fun h => ?_)⟩
    · exact ⟨by show 1 ≤ sizeLine; decide, fun q hq => k.no (if_pos ((rolls_nil hlen2).mp h)) hC hq⟩
    · have hne : ¬ a.rolls = [] := fun e => h ((rolls_nil hlen2).mpr e)
      refine ⟨_, rfl, _, _, _, _, _, rfl, C.at_, T.cl_Carpet, T.f_Carpet_strips, cf_strips, a0, _, rfl, .inl (SqL.of hl), ?_⟩
      rw [List.length_map, hlen]
      refine ⟨_, rfl, _, _, _, _, _, rfl, C.at_, T.cl_Carpet, T.f_Carpet_strips, cf_strips, _, rfl, _, _, _, _, _, rfl, C.at_, T.cl_Carpet, T.f_Carpet_rolls, cf_rolls, _, rfl, _, _, _, _, _, rfl, C.at_, T.cl_Carpet, T.f_Carpet_repeat, cf_repeat, a0, b0, g, a, rfl, C.strips, C.rolls, W.now.r1, W6, W.now.l, fun H1 s1a s1 hS => ?_⟩
      refine ⟨_, rfl, _, rfl, fun p1 hp1 => ⟨p1, a.strips.length, rfl, upd_same, (by omega), fun l1 hl1 => ?_⟩⟩
      have s2' := Same.upd (o := .rng 0 (a.strips.length : Int)) hp1
      have s3' := Same.upd (o := .lst (iv (List.range a.strips.length))) hl1
      have s3 := (s1.trans s2').trans s3'
      refine ⟨s1a, l1, a, List.range a.strips.length, rfl, (hS.mono s2').mono s3', SqL.of upd_same, W.now.l, W6, List.nodup_range, (fun i hi => List.mem_range.mp hi), (by rw [List.length_range]; exact W6), fun H4 v s4' hv => ?_⟩
      have s4 := s3.trans s4'
      rcases hv with ⟨hr0, rfl⟩ | ⟨wy, qw, hr0, rfl, hqw⟩
      · refine ⟨_, rfl, rfl, _, rfl, iteT ⟨by show 1 ≤ sizeLine; decide, fun q hq => ?_⟩⟩
        refine k.fin (some a, Kh351.say (-33)) ?_ rfl (xs := [-33]) rfl (hC.mono s4) (But.of s4) hq
        show (if a.rolls = [] then _ else match Kh351.fits a with | none => _ | some w => _) = _
        rw [if_neg hne, hfits, hr0]
      · obtain ⟨hwl, hwk⟩ := way_mem _ _ hr0
        rw [List.length_range] at hwl
        refine ⟨_, rfl, rfl, _, rfl, iteF ⟨_, rfl, (by show 1 ≤ sizeLine; decide), fun q5 hq5 => ?_⟩⟩
        have s5' := Same.upd (o := .lst [.int (a.strips.length : Int)]) hq5
        have s5 := s4.trans s5'
        refine ⟨_, rfl, q5, qw, _, _, rfl, rfl, upd_same, s5' _ _ hqw, (by rw [iv_len, hwl]; exact Nat.le_trans (show 1 + a.strips.length ≤ 7 by omega) (by decide)), fun q6 hq6 => ?_⟩
        have := k.fin (some a, Kh351.list wy) (by
          show (if a.rolls = [] then _ else match Kh351.fits a with | none => _ | some w => _) = _
          rw [if_neg hne, hfits, hr0]) rfl (xs := (a.strips.length : Int) :: wy.map Int.ofNat) (by
            show ((wy.length : Nat) : Int) :: _ = _
            rw [hwl]
            rfl) (hC.mono s5) (But.of s5) hq6
        rw [List.map_cons, List.map_map] at this
        exact this
def mkSpare (ws : List V) (c : Kh351.Call) : Prop := ws = [] ∧ c = .spare
theorem ok_spare (T : Tx A K mg) : FnOk P w K mg base CX0 10 A.a_spare A.d_spare ["carpet"] (spC A mkSpare) := by
  refine T.F_spare.ok sc_spare (fun vs H Q E h => ?_) (fun cdv Ar outer s H vs Q E hr h => ?_)
  · obtain ⟨p, g, a, c, ws, rfl, ⟨rfl, _⟩, _⟩ := h
    rfl
  · obtain ⟨p, g, a, c, ws, rfl, ⟨rfl, rfl⟩, hC, W, hg, k⟩ := h
    obtain ⟨dx, a0, b0, c0, ts, C⟩ := id hC
    obtain ⟨hs0, as, hl, hP⟩ := C.strips
    obtain ⟨hs1, bs, hlr, hR⟩ := C.rolls
    have hlen : as.length = a.strips.length := by rw [hP.length, List.length_map]
    have hlen2 : bs.length = a.rolls.length := hR.length
    have W6 := W.now.s
    have W3 := W.now.l
    have hfits := part_fits W.now.r1 (part_all a)
    refine ⟨_, (pss_cons (ps_if (pt_cmpR op_eq (pe_callB call_len_seq (by rfl) T.n_len bt_len (pa_cons (pe_fld (pv 0) rfl) pa_nil)) pe_int (nomark _)) (pss_one (ps_ret (pe_lst (pa_cons (pe_gint rfl T.c_NO_ROLLS) pa_nil)))) pss_nil)
      (pss_cons (ps_set (i := 1) sc_spare.nd rfl (Or.inr rfl) (pe_call (ok_spares_of_rolls T) (hr.mono (by decide)) rfl T.m_spares_of_rolls T.F_spares_of_rolls.kp T.b_spares_of_rolls .nil pass0 (pa_cons (pe_fld (pv 0) rfl) (pa_cons (pe_fld (pv 0) rfl) (pa_cons (pe_fld (pv 0) rfl) pa_nil)))))
      (pss_cons (ps_set (i := 2) sc_spare.nd rfl (Or.inl rfl) (pe_call (ok_first_way T) (hr.mono (by decide)) rfl T.m_first_way T.F_first_way.kp T.b_first_way .nil pass0 (pa_cons (pv 1) (pa_cons (pe_callTy (call_list_rng rfl) (by rfl) T.n_list bt_list (pa_cons (pe_callTy call_rng1 (by rfl) T.n_range bt_range (pa_cons (pe_callB call_len_seq (by rfl) T.n_len bt_len (pa_cons (pe_fld (pv 0) rfl) pa_nil)) pa_nil)) pa_nil)) pa_nil))))
      (pss_cons (ps_if (pt_cmpR op_isN (pv 2) pe_non (nomark _)) (pss_one (ps_ret (pe_lst (pa_cons (pe_gint rfl T.c_NO_FIT) pa_nil)))) pss_nil)
      (pss_cons (ps_set (i := 3) sc_spare.nd rfl (Or.inl rfl) (pe_call (ok_loads_of_way T) (hr.mono (by decide)) rfl T.m_loads_of_way T.F_loads_of_way.kp T.b_loads_of_way .nil pass0 (pa_cons (pv 2) (pa_cons (pe_callB call_len_seq (by rfl) T.n_len bt_len (pa_cons (pe_fld (pv 0) rfl) pa_nil)) pa_nil))))
      (pss_one (ps_ret (pe_op op_cat (pe_lst (pa_cons (pe_callB call_len_seq (by rfl) T.n_len bt_len (pa_cons (pv 3) pa_nil)) pa_nil)) (pe_lc (own := [("j", 4), ("load", 5)]) (te := (tOp (rIxL K) (tOp (rIxL K) (tVar 1) (tVar 4)) (tVar 5))) (tt := tYes) (g := gTup K 2 (gCons (gName 4) (gCons (gName 5) gNil))) rfl sc_spare.nd (pi_enum rfl T.n_enumerate (pa_cons (pv 3) pa_nil)) (show BlkOk ["carpet", "spares", "way", "loads", "j", "load"] (defScope s_spare) _ [("j", 4), ("load", 5)] from ⟨rfl, by decide +kernel, by decide +kernel, by decide +kernel, by decide +kernel⟩) (fun _ _ _ _ _ => (pg_tup (n := 2) rfl (pgs_cons (pg_name (i := 4) sc_spare.nd rfl (Or.inl rfl)) (pgs_cons (pg_name (i := 5) sc_spare.nd rfl (Or.inl rfl)) pgs_nil)))) (fun _ _ _ _ _ => pts_nil) (fun _ _ _ _ _ => (pe_ix ix_list (pe_ix ix_list (pv 1) (pv 4) (fun _ _ => rfl)) (pv 5) (fun _ _ => rfl)))))))))))), ?_⟩
    refine ⟨_, rfl, _, _, _, _, _, rfl, C.at_, T.cl_Carpet, T.f_Carpet_rolls, cf_rolls, b0, _, rfl, .inl (SqL.of hlr), rfl, _, rfl, ite2 (fun h => ?_) (fun h => ?_)⟩
    · exact ⟨by show 1 ≤ sizeLine; decide, fun q hq => k.no (if_pos ((rolls_nil hlen2).mp h)) hC hq⟩
    · have hne : ¬ a.rolls = [] := fun e => h ((rolls_nil hlen2).mpr e)
      refine ⟨_, rfl, _, _, _, _, _, rfl, C.at_, T.cl_Carpet, T.f_Carpet_strips, cf_strips, _, rfl, _, _, _, _, _, rfl, C.at_, T.cl_Carpet, T.f_Carpet_rolls, cf_rolls, _, rfl, _, _, _, _, _, rfl, C.at_, T.cl_Carpet, T.f_Carpet_repeat, cf_repeat, a0, b0, g, a, rfl, C.strips, C.rolls, W.now.r1, W6, W.now.l, fun H1 s1a s1 hS => ?_⟩
      have C1 := C.mono s1
      refine ⟨_, rfl, _, rfl, _, _, _, _, _, rfl, C1.at_, T.cl_Carpet, T.f_Carpet_strips, cf_strips, a0, _, rfl, .inl (SqL.of (s1 _ _ hl)), ?_⟩
      rw [List.length_map, hlen]
      refine ⟨_, rfl, fun p1 hp1 => ⟨p1, a.strips.length, rfl, upd_same, (by omega), fun l1 hl1 => ?_⟩⟩
      have s2' := Same.upd (o := .rng 0 (a.strips.length : Int)) hp1
      have s3' := Same.upd (o := .lst (iv (List.range a.strips.length))) hl1
      have s3 := (s1.trans s2').trans s3'
      have hS3 := (hS.mono s2').mono s3'
      refine ⟨s1a, l1, a, List.range a.strips.length, rfl, hS3, SqL.of upd_same, W.now.l, W6, List.nodup_range, (fun i hi => List.mem_range.mp hi), (by rw [List.length_range]; exact W6), fun H4 v s4' hv => ?_⟩
      have s4 := s3.trans s4'
      rcases hv with ⟨hr0, rfl⟩ | ⟨wy, qw, hr0, rfl, hqw⟩
      · refine ⟨_, rfl, rfl, _, rfl, iteT ⟨by show 1 ≤ sizeLine; decide, fun q hq => ?_⟩⟩
        refine k.fin (some a, Kh351.say (-33)) ?_ rfl (xs := [-33]) rfl (hC.mono s4) (But.of s4) hq
        show (if a.rolls = [] then _ else match Kh351.fits a with | none => _ | some w => _) = _
        rw [if_neg hne, hfits, hr0]
      · obtain ⟨hwl, hwk⟩ := way_mem _ _ hr0
        have hz : (zeros a.rolls.length).length = a.rolls.length := List.length_replicate ..
        rw [hz] at hwk
        have hwl' := hwl
        rw [List.length_range] at hwl
        have hallok := allOk_iff.mp (way_ok W.now.r1 hr0)
        rw [run_len, hz] at hallok
        have C4 := C.mono s4
        refine ⟨_, rfl, rfl, _, rfl, iteF ⟨_, rfl, _, rfl, _, _, _, _, _, rfl, C4.at_, T.cl_Carpet, T.f_Carpet_rolls, cf_rolls, b0, _, rfl, .inl (SqL.of (s4 _ _ hlr)), ?_⟩⟩
        rw [List.length_map, hlen2]
        refine ⟨qw, wy, a.rolls.length, rfl, hqw, hwk, (by omega), W3, fun H5 lq s5' hlq0 hlq => ?_⟩
        rw [hwl] at hlq
        have s5 := s4.trans s5'
        have hrl : (run (List.range a.strips.length) wy (zeros a.rolls.length)).length = a.rolls.length := by rw [run_len, hz]
        refine ⟨_, rfl, lq, _, rfl, .inl (SqL.of hlq), (by show 1 ≤ sizeLine; decide), fun q6 hq6 => ?_⟩
        rw [iv_len, hrl]
        have s6' := Same.upd (o := .lst [.int (a.rolls.length : Int)]) hq6
        have s6 := s5.trans s6'
        have hS6 := ((hS3.mono s4').mono s5').mono s6'
        obtain ⟨ss, hss, hPp⟩ := id hS6
        refine ⟨_, rfl, lq, _, rfl, SqL.of (s6' _ _ hlq), fun D hD => ?_⟩
        have hbl : ∀ j x, a.rolls[j]? = some x → spZ a x (ld (run (List.range a.strips.length) wy (zeros a.rolls.length)) j) = ((x.1 - (Kh351.best a x.2 (Kh351.ofRoll wy j)).2 : Nat) : Int) := fun j x hx => by
          have hj : j < a.rolls.length := (List.getElem?_eq_some_iff.mp hx).1
          have h1 := part_best (part_all a) hwl' hwk hj x.2
          have h2 := (okL_iff hx).mp (hallok j hj)
          unfold spZ at h2 ⊢
          rw [h1]
          omega
        have hmlt : ∀ j, j < a.rolls.length → ld (run (List.range a.strips.length) wy (zeros a.rolls.length)) j < 2 ^ a.strips.length := fun j hj => by
          have : ∀ (left w' loads : List Nat), Apart left loads → (∀ x ∈ w', x < loads.length) → (∀ x ∈ left, x < a.strips.length) → (∀ j, j < loads.length → ld loads j < 2 ^ a.strips.length) → ∀ j, j < loads.length → ld (run left w' loads) j < 2 ^ a.strips.length := by
            intro left
            induction left with
            | nil =>
              intro w' loads _ _ _ h j hj
              unfold run
              exact h j hj
            | cons i left ih =>
              intro w' loads A hw hl h j hj
              cases w' with
              | nil => exact h j hj
              | cons y w' =>
                have hy : y < loads.length := hw y (List.mem_cons_self ..)
                refine ih w' (giv loads y i) (A.giv hy) (fun x hx => by rw [giv_len]; exact hw x (List.mem_cons_of_mem _ hx)) (fun x hx => hl x (List.mem_cons_of_mem _ hx)) (fun j' hj' => ?_) j (by rw [giv_len]; exact hj)
                rw [giv_len] at hj'
                unfold giv
                by_cases e : y = j'
                · subst e
                  rw [ld_set_self hy]
                  exact add_lt (h y hy) (hl i (List.mem_cons_self ..)) (A.2 y hy i (List.mem_cons_self ..))
                · rw [ld_set_ne e]
                  exact h j' hj'
          exact this _ wy _ (apart_zeros List.nodup_range _) (fun x hx => by rw [hz]; exact hwk x hx) (fun x hx => List.mem_range.mp hx) (fun j _ => by rw [ld_zeros]; exact Nat.lt_of_lt_of_le Nat.zero_lt_one Nat.one_le_two_pow) j (by rw [hz]; exact hj)
        have hq6D : q6 ≠ D := ne_of_none upd_same hD
        refine lc_enum (K := K) (a := lq) (xs := iv (run (List.range a.strips.length) wy (zeros a.rolls.length))) (fun t H' => Same (upd H5 q6 (.lst [.int (a.rolls.length : Int)])) H' ∧ H' D = some (.lst (iv ((a.rolls.zipIdx.take t).map fun x => x.1.1 - (Kh351.best a x.1.2 (Kh351.ofRoll wy x.2)).2)))) ⟨Same.upd hD, upd_same⟩ (fun t H' _ ⟨s7, _⟩ => SqL.of (s7 _ _ (s6' _ _ hlq))) ?_ ?_
        · rintro t y H7 T0 ht ⟨s7, hD7⟩ hT
          obtain ⟨lv, hlv, rfl⟩ := iv_get ht
          have htl : t < a.rolls.length := by rw [← hrl]; exact (List.getElem?_eq_some_iff.mp hlv).1
          have hlv' : ld (run (List.range a.strips.length) wy (zeros a.rolls.length)) t = lv := by
            unfold ld
            rw [List.getD_eq_getElem?_getD, hlv]
            rfl
          obtain ⟨x, hx⟩ : ∃ x, a.rolls[t]? = some x := ⟨_, List.getElem?_eq_getElem htl⟩
          obtain ⟨sy, hsy, hy⟩ := Paired.get hPp hx
          have s8' := Same.upd (o := .tup [.int (t : Nat), .int (lv : Int)]) hT
          have s8 := s7.trans s8'
          refine ⟨T0, _, rfl, SqT.of upd_same, rfl, _, _, rfl, _, _, rfl, rfl, rfl, ?_⟩
          dsimp only [tYes]
          rw [if_pos rfl]
          refine ⟨_, rfl, _, rfl, s1a, _, _, _, rfl, rfl, SqL.of (s8 _ _ hss), atI_nat (v := V.ref sy) (by rw [List.getElem?_map, hsy]; rfl), _, rfl, sy, _, _, _, rfl, rfl, SqL.of (s8 _ _ hy), atI_nat (spV_get (by rw [← hlv']; exact hmlt t htl)), ?_⟩
          refine ⟨_, s8' _ _ hD7, ?_, Same.wr s8 hD, ?_⟩
          · rw [iv_len, List.length_map, List.length_take, List.length_zipIdx]
            exact Nat.lt_of_le_of_lt (show min t _ ≤ 3 by omega) (by decide)
          · have ez : (a.rolls.zipIdx)[t]? = some (x, t) := by
              rw [List.getElem?_zipIdx, hx]
              simp
            rw [upd_same, List.take_add_one, ez, List.map_append, iv_app, ← hlv', hbl t x hx]
            rfl
        · rintro H7 ⟨s7, hD7⟩
          rw [iv_len, hrl, List.take_of_length_le (by rw [List.length_zipIdx]; exact Nat.le_refl _)] at hD7
          have s8 := s6.trans s7
          refine ⟨q6, D, _, _, rfl, rfl, s7 _ _ upd_same, hD7, (by rw [iv_len, List.length_map, List.length_zipIdx]; exact Nat.le_trans (show 1 + a.rolls.length ≤ 4 by omega) (by decide)), fun q8 hq8 => ?_⟩
          have := k.fin (some a, Kh351.list (a.rolls.zipIdx.map fun x => x.1.1 - (Kh351.best a x.1.2 (Kh351.ofRoll wy x.2)).2)) (by
            show (if a.rolls = [] then _ else match Kh351.fits a with | none => _ | some w => _) = _
            rw [if_neg hne, hfits, hr0]) rfl (xs := (a.rolls.length : Int) :: (a.rolls.zipIdx.map fun x => x.1.1 - (Kh351.best a x.1.2 (Kh351.ofRoll wy x.2)).2).map Int.ofNat) (by
              show (((a.rolls.zipIdx.map _).length : Nat) : Int) :: _ = _
              rw [List.length_map, List.length_zipIdx]
              rfl) (hC.mono s8) (But.of s8) hq8
          rw [List.map_cons, List.map_map] at this
          exact this
def mkMost (ws : List V) (c : Kh351.Call) : Prop := ws = [] ∧ c = .most
theorem ok_most (T : Tx A K mg) : FnOk P w K mg base CX0 11 A.a_most A.d_most ["carpet"] (spC A mkMost) := by
  refine T.F_most.ok sc_most (fun vs H Q E h => ?_) (fun cdv Ar outer s H vs Q E hr h => ?_)
  · obtain ⟨p, g, a, c, ws, rfl, ⟨rfl, _⟩, _⟩ := h
    rfl
  · obtain ⟨p, g, a, c, ws, rfl, ⟨rfl, rfl⟩, hC, W, hg, k⟩ := h
    obtain ⟨dx, a0, b0, c0, ts, C⟩ := id hC
    obtain ⟨hs0, as, hl, hP⟩ := C.strips
    obtain ⟨hs1, bs, hlr, hR⟩ := C.rolls
    have hlen : as.length = a.strips.length := by rw [hP.length, List.length_map]
    have hlen2 : bs.length = a.rolls.length := hR.length
    have W6 := W.now.s
    refine ⟨_, (pss_cons (ps_if (pt_cmpR op_eq (pe_callB call_len_seq (by rfl) T.n_len bt_len (pa_cons (pe_fld (pv 0) rfl) pa_nil)) pe_int (nomark _)) (pss_one (ps_ret (pe_lst (pa_cons (pe_gint rfl T.c_NO_ROLLS) pa_nil)))) pss_nil)
      (pss_cons (ps_set (i := 1) sc_most.nd rfl (Or.inl rfl) (pe_call (ok_spares_of_rolls T) (hr.mono (by decide)) rfl T.m_spares_of_rolls T.F_spares_of_rolls.kp T.b_spares_of_rolls .nil pass0 (pa_cons (pe_fld (pv 0) rfl) (pa_cons (pe_fld (pv 0) rfl) (pa_cons (pe_fld (pv 0) rfl) pa_nil)))))
      (pss_one (ps_ret (pe_callTy call_list_of (by rfl) T.n_list bt_list (pa_cons (pe_call (ok_largest_set T) (hr.mono (by decide)) rfl T.m_largest_set T.F_largest_set.kp T.b_largest_set .nil pass0 (pa_cons (pv 1) (pa_cons (pe_callB call_len_seq (by rfl) T.n_len bt_len (pa_cons (pe_fld (pv 0) rfl) pa_nil)) pa_nil))) pa_nil)))))), ?_⟩
    refine ⟨_, rfl, _, _, _, _, _, rfl, C.at_, T.cl_Carpet, T.f_Carpet_rolls, cf_rolls, b0, _, rfl, .inl (SqL.of hlr), rfl, _, rfl, ite2 (fun h => ?_) (fun h => ?_)⟩
    · exact ⟨by show 1 ≤ sizeLine; decide, fun q hq => k.no (if_pos ((rolls_nil hlen2).mp h)) hC hq⟩
    · have hne : ¬ a.rolls = [] := fun e => h ((rolls_nil hlen2).mpr e)
      refine ⟨_, rfl, _, _, _, _, _, rfl, C.at_, T.cl_Carpet, T.f_Carpet_strips, cf_strips, _, rfl, _, _, _, _, _, rfl, C.at_, T.cl_Carpet, T.f_Carpet_rolls, cf_rolls, _, rfl, _, _, _, _, _, rfl, C.at_, T.cl_Carpet, T.f_Carpet_repeat, cf_repeat, a0, b0, g, a, rfl, C.strips, C.rolls, W.now.r1, W6, W.now.l, fun H1 s1a s1 hS => ?_⟩
      have C1 := C.mono s1
      refine ⟨_, rfl, _, rfl, _, _, _, _, _, rfl, C1.at_, T.cl_Carpet, T.f_Carpet_strips, cf_strips, a0, _, rfl, .inl (SqL.of (s1 _ _ hl)), ?_⟩
      rw [List.length_map, hlen]
      refine ⟨s1a, a, rfl, hS, W.now.l, W6, W.now.r1, fun H2 t s2' ht => ?_⟩
      have s2 := s1.trans s2'
      refine ⟨t, _, rfl, .inr (SqT.of ht), fun q hq => ?_⟩
      exact k.fin _ (if_neg hne) rfl (xs := [((Kh351.bits (Kh351.most a) a.strips.length : Nat) : Int), ((Kh351.most a : Nat) : Int)]) rfl (hC.mono s2) (But.of s2) hq
def mkCould (ws : List V) (c : Kh351.Call) : Prop := ∃ l b : Nat, ws = [.int (l : Int), .int (b : Int)] ∧ c = .could l b
theorem ok_could (T : Tx A K mg) : FnOk P w K mg base CX0 10 A.a_could A.d_could ["carpet", "long", "begins"] (spC A mkCould) := by
  refine T.F_could.ok sc_could (fun vs H Q E h => ?_) (fun cdv Ar outer s H vs Q E hr h => ?_)
  · obtain ⟨p, g, a, c, ws, rfl, ⟨l, b, rfl, _⟩, _⟩ := h
    rfl
  · obtain ⟨p, g, a, c, ws, rfl, ⟨l, b, rfl, rfl⟩, hC, W, hg, k⟩ := h
    obtain ⟨dx, a0, b0, c0, ts, C⟩ := id hC
    obtain ⟨hs0, as, hl, hP⟩ := C.strips
    have hlen : as.length = a.strips.length := by rw [hP.length, List.length_map]
    refine ⟨_, (pss_cons (ps_set (i := 3) sc_could.nd rfl (Or.inl rfl) (pe_call (ok_strip_refusal T) (hr.mono (by decide)) rfl T.m_strip_refusal T.F_strip_refusal.kp T.b_strip_refusal .nil pass0 (pa_cons (pv 0) (pa_cons (pv 1) (pa_cons (pv 2) pa_nil)))))
      (pss_cons (ps_if (pt_cmpR op_notN (pv 3) pe_non (nomark _)) (pss_one (ps_ret (pe_lst (pa_cons (pv 3) pa_nil)))) pss_nil)
      (pss_cons (ps_set (i := 4) sc_could.nd rfl (Or.inl rfl) (pe_op op_cat (pe_fld (pv 0) rfl) (pe_lst (pa_cons (pe_make T.mk_Piece (ok_Piece_init T) (hr.mono (by decide)) rfl T.g_Piece T.b_Piece_init .nil pass0 (pa_cons (pv 1) (pa_cons (pv 2) pa_nil))) pa_nil))))
      (pss_cons (ps_set (i := 5) sc_could.nd rfl (Or.inl rfl) (pe_call (ok_first_way T) (hr.mono (by decide)) rfl T.m_first_way T.F_first_way.kp T.b_first_way .nil pass0 (pa_cons (pe_call (ok_spares_of_rolls T) (hr.mono (by decide)) rfl T.m_spares_of_rolls T.F_spares_of_rolls.kp T.b_spares_of_rolls .nil pass0 (pa_cons (pv 4) (pa_cons (pe_fld (pv 0) rfl) (pa_cons (pe_fld (pv 0) rfl) pa_nil)))) (pa_cons (pe_callTy (call_list_rng rfl) (by rfl) T.n_list bt_list (pa_cons (pe_callTy call_rng1 (by rfl) T.n_range bt_range (pa_cons (pe_callB call_len_seq (by rfl) T.n_len bt_len (pa_cons (pv 4) pa_nil)) pa_nil)) pa_nil)) pa_nil))))
      (pss_one (ps_ret (pe_lst (pa_cons (pe_ifExp (pt_cmpR op_isN (pv 5) pe_non (nomark _)) pe_int pe_int) pa_nil)))))))), ?_⟩
    refine ⟨_, rfl, _, rfl, _, rfl, p, g, a, l, b, rfl, hC, W, ?_⟩
    by_cases hx : l < 1 ∨ 1000 < l ∨ a.repeat_ ≤ b
    · rw [if_pos hx]
      exact ⟨_, rfl, rfl, _, rfl, iteT ⟨_, rfl, (by show 1 ≤ sizeLine; decide), fun q hq => k.no (if_pos hx) hC hq⟩⟩
    · rw [if_neg hx]
      have e0 : Kh351.doing (some a) (.could l b) = _ := if_neg hx
      by_cases h6' : Kh351.STRIPS ≤ a.strips.length
      · rw [if_pos h6']
        exact ⟨_, rfl, rfl, _, rfl, iteT ⟨_, rfl, (by show 1 ≤ sizeLine; decide), fun q hq => k.no (e0.trans (if_pos h6')) hC hq⟩⟩
      · rw [if_neg h6']
        have h7 : a.strips.length < 6 := Nat.lt_of_not_le h6'
        have e1 := e0.trans (if_neg h6')
        refine ⟨_, rfl, rfl, _, rfl, iteF ?_⟩
        refine ⟨_, rfl, _, _, _, _, _, rfl, C.at_, T.cl_Carpet, T.f_Carpet_strips, cf_strips, _, rfl, _, rfl, fun x dxx nx ndx ne => ⟨x, dxx, l, b, rfl, upd_same, fun H1 hx1 k1 => ⟨rfl, (by show 1 ≤ sizeLine; decide), fun q hq => ?_⟩⟩⟩
        have s1 : Same H H1 := made_piece nx ndx k1
        have s2' := Same.upd (o := .lst [.ref x]) hq
        have s2 := s1.trans s2'
        refine ⟨a0, q, _, _, rfl, rfl, s2 _ _ hl, upd_same, (by rw [List.length_map, hlen]; exact Nat.le_trans (Nat.add_le_add_right (Nat.le_of_lt h7) 1) (by decide)), fun n hn => ?_⟩
        have s3' := Same.upd (o := .lst (as.map V.ref ++ [.ref x])) hn
        have s3 := s2.trans s3'
        have C3 := C.mono s3
        have hPn : PiecesAt A (upd (upd H1 q (.lst [.ref x])) n (.lst (as.map V.ref ++ [.ref x]))) g n ((a.strips ++ [(⟨l, b⟩ : Strip)]).map pr) := by
          rw [List.map_append]
          exact add_pieces (l := a0) hP s3 ((hx1.mono s2').mono s3') upd_same (fresh_ne hg s2 hn)
        have hal : (a.strips ++ [(⟨l, b⟩ : Strip)]).length = a.strips.length + 1 := by
          rw [List.length_append]
          rfl
        have hfits := part_fits (a := { a with strips := a.strips ++ [⟨l, b⟩] }) W.now.r1 (part_all _)
        dsimp only at hfits
        refine ⟨_, rfl, _, rfl, _, _, _, _, _, rfl, C3.at_, T.cl_Carpet, T.f_Carpet_rolls, cf_rolls, _, rfl, _, _, _, _, _, rfl, C3.at_, T.cl_Carpet, T.f_Carpet_repeat, cf_repeat, n, b0, g, { a with strips := a.strips ++ [⟨l, b⟩] }, rfl, hPn, C3.rolls, W.now.r1, (by show (a.strips ++ [(⟨l, b⟩ : Strip)]).length ≤ 6; rw [hal]; omega), W.now.l, fun H4 s4a s4' hS => ?_⟩
        have s4 := s3.trans s4'
        refine ⟨_, rfl, n, _, rfl, .inl (SqL.of (s4' _ _ upd_same)), ?_⟩
        have hnl : (as.map V.ref ++ [V.ref x]).length = (a.strips ++ [(⟨l, b⟩ : Strip)]).length := by
          rw [hal, List.length_append, List.length_map, hlen]
          rfl
        rw [hnl]
        refine ⟨_, rfl, fun p1 hp1 => ⟨p1, (a.strips ++ [(⟨l, b⟩ : Strip)]).length, rfl, upd_same, (by rw [hal]; omega), fun l1 hl1 => ?_⟩⟩
        have s5' := Same.upd (o := .rng 0 ((a.strips ++ [(⟨l, b⟩ : Strip)]).length : Int)) hp1
        have s6' := Same.upd (o := .lst (iv (List.range (a.strips ++ [(⟨l, b⟩ : Strip)]).length))) hl1
        have s6 := (s4.trans s5').trans s6'
        refine ⟨s4a, l1, { a with strips := a.strips ++ [⟨l, b⟩] }, List.range (a.strips ++ [(⟨l, b⟩ : Strip)]).length, rfl, (hS.mono s5').mono s6', SqL.of upd_same, W.now.l, (by show (a.strips ++ [(⟨l, b⟩ : Strip)]).length ≤ 6; rw [hal]; omega), List.nodup_range, (fun i hi => List.mem_range.mp hi), (by rw [List.length_range, hal]; omega), fun H7 v s7' hv => ?_⟩
        have s7 := s6.trans s7'
        rcases hv with ⟨hr0, rfl⟩ | ⟨wy, qw, hr0, rfl, hqw⟩
        · rw [hr0] at hfits
          refine ⟨_, rfl, rfl, _, rfl, iteT ⟨by show 1 ≤ sizeLine; decide, fun q8 hq8 => ?_⟩⟩
          refine k.fin _ e1 rfl (xs := [0]) ?_ (hC.mono s7) (But.of s7) hq8
          rw [if_neg (by rw [hfits]; intro z; exact absurd z.1 (by decide))]
          rfl
        · rw [hr0] at hfits
          refine ⟨_, rfl, rfl, _, rfl, iteF ⟨by show 1 ≤ sizeLine; decide, fun q8 hq8 => ?_⟩⟩
          refine k.fin _ e1 rfl (xs := [1]) ?_ (hC.mono s7) (But.of s7) hq8
          have hne : a.rolls ≠ [] := fun e => by
            have h0 := hr0
            dsimp only at h0
            rw [e, hal, List.range_succ_eq_map] at h0
            cases h0
          rw [if_pos ⟨by rw [hfits]; rfl, hne⟩]
          rfl
end
end PM

end

section
set_option Elab.async false
set_option linter.all false
set_option maxRecDepth 100000
set_option maxHeartbeats 2000000
namespace PM
open PySem PySem.Spec PyProof.Rows L2
open Kh351 (Abs Strip)
/-! ### what holds of a state that was reached -/
def Good (s : Option Abs) : Prop := ∀ a, s = some a → Wf a
def toA (s : Option Abs) : Abs := s.getD ⟨0, [], [], []⟩
theorem wf_keep {a b : Abs} (W : Wf a) (O : Ok3 b.repeat_ b.strips b.rolls) : Wf (Kh351.keep a b) := by
  refine ⟨O, ?_, ?_⟩
  · show (List.take 10 _).length ≤ 10
    rw [List.length_take]
    omega
  · intro x hx
    rcases List.mem_cons.mp (List.mem_of_mem_take (show x ∈ List.take 10 ((a.repeat_, a.strips, a.rolls) :: a.undo) from hx)) with rfl | h
    · exact W.now
    · exact W.old x h
theorem good_step {s : Option Abs} (G : Good s) (c : Kh351.Call) : Good (Kh351.doing s c).1 := by
  cases s with
  | none =>
    cases c with
    | begin_ r =>
      show Good (if r < 1 ∨ 120 < r then (none, Kh351.say (-22)) else (some (Kh351.begun r), Kh351.say 0)).1
      by_cases h : r < 1 ∨ 120 < r
      · rw [if_pos h]
        exact G
      · rw [if_neg h]
        intro a e
        cases e
        exact ⟨⟨by show 1 ≤ r; omega, by show r ≤ 120; omega, by show 0 ≤ 6; decide, by show 0 ≤ 3; decide, fun x hx => (by cases hx), fun x hx => (by cases hx)⟩, by show 0 ≤ 10; decide, fun x hx => (by cases hx)⟩
    | _ => exact G
  | some a =>
    have W := G a rfl
    have N := W.now
    cases c with
    | begin_ r =>
      show Good (if r < 1 ∨ 120 < r then (some a, Kh351.say (-22)) else (some (Kh351.begun r), Kh351.say 0)).1
      by_cases h : r < 1 ∨ 120 < r
      · rw [if_pos h]
        exact G
      · rw [if_neg h]
        intro a e
        cases e
        exact ⟨⟨by show 1 ≤ r; omega, by show r ≤ 120; omega, by show 0 ≤ 6; decide, by show 0 ≤ 3; decide, fun x hx => (by cases hx), fun x hx => (by cases hx)⟩, by show 0 ≤ 10; decide, fun x hx => (by cases hx)⟩
    | strip l x =>
      unfold Kh351.doing
      dsimp only
      split
      · exact G
      · split
        · exact G
        · rename_i h1 h2
          intro b e
          cases e
          refine wf_keep W ⟨N.r1, N.r2, ?_, N.l, fun y hy => ?_, N.pl⟩
          · show (a.strips ++ [_]).length ≤ 6
            rw [List.length_append]
            have : ¬ 6 ≤ a.strips.length := h2
            show a.strips.length + 1 ≤ 6
            omega
          · rcases List.mem_append.mp hy with q | q
            · exact N.ps y q
            · rw [List.mem_singleton.mp q]
              show 1 ≤ l ∧ l ≤ 1000 ∧ x < a.repeat_
              omega
    | drop i =>
      unfold Kh351.doing
      dsimp only
      split
      · exact G
      · intro b e
        cases e
        refine wf_keep W ⟨N.r1, N.r2, ?_, N.l, fun y hy => N.ps y (List.mem_of_mem_eraseIdx hy), N.pl⟩
        exact Nat.le_trans (List.length_eraseIdx_le ..) N.s
    | begins i x =>
      unfold Kh351.doing
      dsimp only
      split
      · exact G
      · rename_i y hy
        split
        · exact G
        · rename_i h1
          intro b e
          cases e
          refine wf_keep W ⟨N.r1, N.r2, by show (a.strips.set i _).length ≤ 6; rw [List.length_set]; exact N.s, N.l, fun z hz => ?_, N.pl⟩
          rcases List.mem_or_eq_of_mem_set hz with q | q
          · exact N.ps z q
          · rw [q]
            have := N.ps y (List.mem_of_getElem? hy)
            show 1 ≤ y.long ∧ y.long ≤ 1000 ∧ x < a.repeat_
            omega
    | roll l x =>
      unfold Kh351.doing
      dsimp only
      split
      · exact G
      · split
        · exact G
        · rename_i h1 h2
          intro b e
          cases e
          refine wf_keep W ⟨N.r1, N.r2, N.s, ?_, N.ps, fun y hy => ?_⟩
          · show (a.rolls ++ [_]).length ≤ 3
            rw [List.length_append]
            have : ¬ 3 ≤ a.rolls.length := h2
            show a.rolls.length + 1 ≤ 3
            omega
          · rcases List.mem_append.mp hy with q | q
            · exact N.pl y q
            · rw [List.mem_singleton.mp q]
              show 1 ≤ l ∧ l ≤ 10000 ∧ x < a.repeat_
              omega
    | unroll i =>
      unfold Kh351.doing
      dsimp only
      split
      · exact G
      · intro b e
        cases e
        refine wf_keep W ⟨N.r1, N.r2, N.s, ?_, N.ps, fun y hy => N.pl y (List.mem_of_mem_eraseIdx hy)⟩
        exact Nat.le_trans (List.length_eraseIdx_le ..) N.l
    | pattern r =>
      unfold Kh351.doing
      dsimp only
      split
      · exact G
      · rename_i h
        intro b e
        cases e
        have hr : 0 < r := by omega
        have hle : r ≤ a.repeat_ := Nat.le_of_dvd N.r1 (Nat.dvd_of_mod_eq_zero (by omega))
        have h120 := N.r2
        refine wf_keep W ⟨hr, by show r ≤ 120; omega, by show (a.strips.map _).length ≤ 6; rw [List.length_map]; exact N.s, by show (a.rolls.map _).length ≤ 3; rw [List.length_map]; exact N.l, fun y hy => ?_, fun y hy => ?_⟩
        · obtain ⟨z, hz, rfl⟩ := List.mem_map.mp hy
          have := N.ps z hz
          exact ⟨this.1, this.2.1, Nat.mod_lt _ hr⟩
        · obtain ⟨z, hz, rfl⟩ := List.mem_map.mp hy
          have := N.pl z hz
          exact ⟨this.1, this.2.1, Nat.mod_lt _ hr⟩
    | back =>
      unfold Kh351.doing
      dsimp only
      split
      · rename_i x u hu
        intro b e
        cases e
        refine ⟨W.old x (by rw [hu]; exact List.mem_cons_self ..), ?_, fun y hy => W.old y (by rw [hu]; exact List.mem_cons_of_mem _ hy)⟩
        have := W.u
        rw [hu] at this
        exact Nat.le_of_succ_le this
      · exact G
    | gap i j =>
      unfold Kh351.doing
      dsimp only
      split
      · split <;> exact G
      · exact G
    | need o =>
      unfold Kh351.doing
      dsimp only
      split <;> exact G
    | best => exact G
    | bestLast i =>
      unfold Kh351.doing
      dsimp only
      split <;> exact G
    | finer r =>
      unfold Kh351.doing
      dsimp only
      split <;> exact G
    | bestMove => exact G
    | setMove =>
      unfold Kh351.doing
      dsimp only
      split
      · exact G
      · intro b e
        cases e
        refine wf_keep W ⟨N.r1, N.r2, by show (a.strips.map _).length ≤ 6; rw [List.length_map]; exact N.s, N.l, fun y hy => ?_, N.pl⟩
        obtain ⟨z, hz, rfl⟩ := List.mem_map.mp hy
        have := N.ps z hz
        exact ⟨this.1, this.2.1, Nat.mod_lt _ N.r1⟩
    | fits =>
      unfold Kh351.doing
      dsimp only
      split
      · exact G
      · split <;> exact G
    | spare =>
      unfold Kh351.doing
      dsimp only
      split
      · exact G
      · split <;> exact G
    | most =>
      unfold Kh351.doing
      dsimp only
      split <;> exact G
    | could l x =>
      unfold Kh351.doing
      dsimp only
      split
      · exact G
      · split <;> exact G
    | alone i j =>
      unfold Kh351.doing
      dsimp only
      split <;> exact G
    | look i =>
      unfold Kh351.doing
      dsimp only
      split <;> exact G
    | state => exact G
end PM

end

section
set_option Elab.async false
set_option linter.all false
set_option maxRecDepth 100000
set_option maxHeartbeats 2000000
namespace PM
open PySem PySem.Spec PyProof.Rows L2
open Kh351 (Abs Strip)
def doneI (s : Option Abs) (c : Kh351.Call) : List Int := (Kh351.doing s c).2.ret :: (Kh351.doing s c).2.out.map Int.ofNat
theorem iteNo {c A B : Prop} [Decidable c] (h : ¬ c) (b : B) : if decide c = true then A else B := by
  rw [decide_eq_false h]
  exact iteF b
theorem iteYes {c A B : Prop} [Decidable c] (h : c) (b : A) : if decide c = true then A else B := by
  rw [decide_eq_true h]
  exact iteT b
section
variable {P : Program} {w : World} {K : PySem.W.Frag} {mg : Str → Option Value} {base : Heap} {A : Ad}
def spEnd (K : PySem.W.Frag) : Sp := fun vs H Q _ => ∃ (b : Addr) (L : List Nat) (i p : Nat) (hs T : List Nat) (c : Kh351.Call), vs = [.ref b, .int (i : Int)] ∧ SqL K H b (iv L) ∧ L.drop i = p :: (hs ++ T) ∧ IsCall p hs c ∧ Q (.int ((i + 1 + hs.length : Nat) : Int)) H
theorem get_drop {L : List Nat} {i p : Nat} {r : List Nat} (h : L.drop i = p :: r) : L[i]? = some p := by
  have := congrArg (fun l => l[0]?) h
  simpa using this
theorem get_drop2 {L : List Nat} {i p q : Nat} {r : List Nat} (h : L.drop i = p :: q :: r) : L[i + 1]? = some q := by
  have := congrArg (fun l => l[1]?) h
  simpa using this
theorem iv_atI {L : List Nat} {i p : Nat} (h : L[i]? = some p) : atI (iv L) (i : Int) = some (V.int (p : Int)) := atI_nat (by unfold iv; rw [List.getElem?_map, h]; rfl)
theorem ok_end_of_call (T : Tx A K mg) : FnOk P w K mg base CX0 1 A.a_end_of_call A.d_end_of_call ["calls", "at"] (spEnd K) := by
  refine T.F_end_of_call.ok sc_end_of_call (fun vs H Q E h => ?_) (fun cdv Ar outer s H vs Q E hr h => ?_)
  · obtain ⟨b, L, i, p, hs, T, c, rfl, _⟩ := h
    rfl
  · obtain ⟨b, L, i, p, hs, T2, c, rfl, hb, hd, hk, k⟩ := h
    refine ⟨_, (pss_cons (ps_set (i := 2) sc_end_of_call.nd rfl (Or.inl rfl) (pe_ix ix_list (pv 0) (pv 1) (fun _ _ => rfl)))
      (pss_cons (ps_set (i := 3) sc_end_of_call.nd rfl (Or.inl rfl) (pe_op op_add (pe_op op_add (pv 1) pe_int) (pe_ix ix_tup (pe_gref rfl T.c_HANDED) (pv 2) (fun _ _ => rfl))))
      (pss_cons (ps_if (pt_cmpR op_eq (pv 2) (pe_gint rfl T.c_NEED) (nomark _)) (pss_one (ps_ret (pe_op op_add (pe_op op_add (pv 3) pe_int) (pe_ix ix_list (pv 0) (pv 3) (fun _ _ => rfl))))) pss_nil)
      (pss_one (ps_ret (pv 3)))))), ?_⟩
    refine ⟨_, rfl, _, rfl, b, _, _, _, rfl, rfl, hb, iv_atI (get_drop hd), ?_⟩
    cases hk with
    | need os h8 =>
      refine ⟨_, rfl, _, _, rfl, rfl, _, rfl, A.u_HANDED, _, _, _, rfl, rfl, T.t_HANDED H, rfl, _, _, rfl, rfl, ?_⟩
      refine ⟨_, rfl, rfl, _, rfl, iteYes (by decide) ⟨_, rfl, _, _, rfl, rfl, _, rfl, _, rfl, b, _, _, _, rfl, rfl, hb, iv_atI (i := i + 1) (get_drop2 (q := os.length) hd), _, _, rfl, rfl, ?_⟩⟩
      have e : ((i + 1 + (os.length :: os).length : Nat) : Int) = (i : Int) + 1 + 0 + 1 + (os.length : Int) := by
        rw [List.length_cons]
        omega
      rw [e] at k
      exact k
    | begin_ => exact ⟨_, rfl, _, _, rfl, rfl, _, rfl, A.u_HANDED, _, _, _, rfl, rfl, T.t_HANDED H, rfl, _, _, rfl, rfl, _, rfl, rfl, _, rfl, iteNo (by decide) ⟨_, rfl, k⟩⟩
    | strip => exact ⟨_, rfl, _, _, rfl, rfl, _, rfl, A.u_HANDED, _, _, _, rfl, rfl, T.t_HANDED H, rfl, _, _, rfl, rfl, _, rfl, rfl, _, rfl, iteNo (by decide) ⟨_, rfl, k⟩⟩
    | best => exact ⟨_, rfl, _, _, rfl, rfl, _, rfl, A.u_HANDED, _, _, _, rfl, rfl, T.t_HANDED H, rfl, _, _, rfl, rfl, _, rfl, rfl, _, rfl, iteNo (by decide) ⟨_, rfl, k⟩⟩
    | _ => exact ⟨_, rfl, _, _, rfl, rfl, _, rfl, A.u_HANDED, _, _, _, rfl, rfl, T.t_HANDED H, rfl, _, _, rfl, rfl, _, rfl, rfl, _, rfl, iteNo (by decide) ⟨_, rfl, k⟩⟩
def spDisp (A : Ad) (S : Nat → Prop) : Sp := fun vs H Q _ => ∃ (p g q : Addr) (a : Abs) (c : Kh351.Call) (n : Nat) (hs : List Nat), vs = [.ref p, .int (n : Int), .ref q] ∧ H q = some (.lst (iv hs)) ∧ IsCall n hs c ∧ S n ∧ CarpetAt A H g p a ∧ Wf a ∧ Post A p g a c H Q
theorem ok_answer_change (T : Tx A K mg) : FnOk P w K mg base CX0 6 A.a_answer_change A.d_answer_change ["carpet", "call", "handed"] (spDisp A fun n => 1 ≤ n ∧ (n ≤ 7 ∨ n = 14)) := by
  refine T.F_answer_change.ok sc_answer_change (fun vs H Q E h => ?_) (fun cdv Ar outer s H vs Q E hr h => ?_)
  · obtain ⟨p, g, q, a, c, n, hs, rfl, _⟩ := h
    rfl
  · obtain ⟨p, g, q, a, c, n, hs, rfl, hq, hk, h1, C, W, k⟩ := h
    refine ⟨_, (pss_cons (ps_if (pt_cmpR op_eq (pv 1) (pe_gint rfl T.c_STRIP) (nomark _)) (pss_one (ps_ret (pe_call (ok_add_strip T) (hr.mono (by decide)) rfl T.m_add_strip T.F_add_strip.kp T.b_add_strip .nil pass0 (pa_cons (pv 0) (pa_cons (pe_ix ix_list (pv 2) pe_int (fun _ _ => rfl)) (pa_cons (pe_ix ix_list (pv 2) pe_int (fun _ _ => rfl)) pa_nil)))))) pss_nil)
      (pss_cons (ps_if (pt_cmpR op_eq (pv 1) (pe_gint rfl T.c_DROP) (nomark _)) (pss_one (ps_ret (pe_call (ok_drop_strip T) (hr.mono (by decide)) rfl T.m_drop_strip T.F_drop_strip.kp T.b_drop_strip .nil pass0 (pa_cons (pv 0) (pa_cons (pe_ix ix_list (pv 2) pe_int (fun _ _ => rfl)) pa_nil))))) pss_nil)
      (pss_cons (ps_if (pt_cmpR op_eq (pv 1) (pe_gint rfl T.c_BEGINS) (nomark _)) (pss_one (ps_ret (pe_call (ok_set_begins T) (hr.mono (by decide)) rfl T.m_set_begins T.F_set_begins.kp T.b_set_begins .nil pass0 (pa_cons (pv 0) (pa_cons (pe_ix ix_list (pv 2) pe_int (fun _ _ => rfl)) (pa_cons (pe_ix ix_list (pv 2) pe_int (fun _ _ => rfl)) pa_nil)))))) pss_nil)
      (pss_cons (ps_if (pt_cmpR op_eq (pv 1) (pe_gint rfl T.c_ROLL) (nomark _)) (pss_one (ps_ret (pe_call (ok_add_roll T) (hr.mono (by decide)) rfl T.m_add_roll T.F_add_roll.kp T.b_add_roll .nil pass0 (pa_cons (pv 0) (pa_cons (pe_ix ix_list (pv 2) pe_int (fun _ _ => rfl)) (pa_cons (pe_ix ix_list (pv 2) pe_int (fun _ _ => rfl)) pa_nil)))))) pss_nil)
      (pss_cons (ps_if (pt_cmpR op_eq (pv 1) (pe_gint rfl T.c_UNROLL) (nomark _)) (pss_one (ps_ret (pe_call (ok_drop_roll T) (hr.mono (by decide)) rfl T.m_drop_roll T.F_drop_roll.kp T.b_drop_roll .nil pass0 (pa_cons (pv 0) (pa_cons (pe_ix ix_list (pv 2) pe_int (fun _ _ => rfl)) pa_nil))))) pss_nil)
      (pss_cons (ps_if (pt_cmpR op_eq (pv 1) (pe_gint rfl T.c_PATTERN) (nomark _)) (pss_one (ps_ret (pe_call (ok_set_pattern T) (hr.mono (by decide)) rfl T.m_set_pattern T.F_set_pattern.kp T.b_set_pattern .nil pass0 (pa_cons (pv 0) (pa_cons (pe_ix ix_list (pv 2) pe_int (fun _ _ => rfl)) pa_nil))))) pss_nil)
      (pss_cons (ps_if (pt_cmpR op_eq (pv 1) (pe_gint rfl T.c_SET_MOVE) (nomark _)) (pss_one (ps_ret (pe_call (ok_set_move T) (hr.mono (by decide)) rfl T.m_set_move T.F_set_move.kp T.b_set_move .nil pass0 (pa_cons (pv 0) pa_nil)))) pss_nil)
      (pss_one (ps_ret (pe_call (ok_back T) (hr.mono (by decide)) rfl T.m_back T.F_back.kp T.b_back .nil pass0 (pa_cons (pv 0) pa_nil))))))))))), ?_⟩
    cases hk with
    | strip l b => exact ⟨_, rfl, rfl, _, rfl, iteYes (by decide) ⟨_, rfl, _, rfl, q, _, _, _, rfl, rfl, SqL.of hq, rfl, _, rfl, q, _, _, _, rfl, rfl, SqL.of hq, rfl, p, g, a, _, _, rfl, ⟨l, b, rfl, rfl⟩, C, W, k.1, k⟩⟩
    | drop i => exact ⟨_, rfl, rfl, _, rfl, iteNo (by decide) ⟨_, rfl, rfl, _, rfl, iteYes (by decide) ⟨_, rfl, _, rfl, q, _, _, _, rfl, rfl, SqL.of hq, rfl, p, g, a, _, _, rfl, ⟨i, rfl, rfl⟩, C, W, k.1, k⟩⟩⟩
    | begins i x => exact ⟨_, rfl, rfl, _, rfl, iteNo (by decide) ⟨_, rfl, rfl, _, rfl, iteNo (by decide) ⟨_, rfl, rfl, _, rfl, iteYes (by decide) ⟨_, rfl, _, rfl, q, _, _, _, rfl, rfl, SqL.of hq, rfl, _, rfl, q, _, _, _, rfl, rfl, SqL.of hq, rfl, p, g, a, _, _, rfl, ⟨i, x, rfl, rfl⟩, C, W, k.1, k⟩⟩⟩⟩
    | roll l b => exact ⟨_, rfl, rfl, _, rfl, iteNo (by decide) ⟨_, rfl, rfl, _, rfl, iteNo (by decide) ⟨_, rfl, rfl, _, rfl, iteNo (by decide) ⟨_, rfl, rfl, _, rfl, iteYes (by decide) ⟨_, rfl, _, rfl, q, _, _, _, rfl, rfl, SqL.of hq, rfl, _, rfl, q, _, _, _, rfl, rfl, SqL.of hq, rfl, p, g, a, _, _, rfl, ⟨l, b, rfl, rfl⟩, C, W, k.1, k⟩⟩⟩⟩⟩
    | unroll j => exact ⟨_, rfl, rfl, _, rfl, iteNo (by decide) ⟨_, rfl, rfl, _, rfl, iteNo (by decide) ⟨_, rfl, rfl, _, rfl, iteNo (by decide) ⟨_, rfl, rfl, _, rfl, iteNo (by decide) ⟨_, rfl, rfl, _, rfl, iteYes (by decide) ⟨_, rfl, _, rfl, q, _, _, _, rfl, rfl, SqL.of hq, rfl, p, g, a, _, _, rfl, ⟨j, rfl, rfl⟩, C, W, k.1, k⟩⟩⟩⟩⟩⟩
    | pattern r => exact ⟨_, rfl, rfl, _, rfl, iteNo (by decide) ⟨_, rfl, rfl, _, rfl, iteNo (by decide) ⟨_, rfl, rfl, _, rfl, iteNo (by decide) ⟨_, rfl, rfl, _, rfl, iteNo (by decide) ⟨_, rfl, rfl, _, rfl, iteNo (by decide) ⟨_, rfl, rfl, _, rfl, iteYes (by decide) ⟨_, rfl, _, rfl, q, _, _, _, rfl, rfl, SqL.of hq, rfl, p, g, a, _, _, rfl, ⟨r, rfl, rfl⟩, C, W, k.1, k⟩⟩⟩⟩⟩⟩⟩
    | back => exact ⟨_, rfl, rfl, _, rfl, iteNo (by decide) ⟨_, rfl, rfl, _, rfl, iteNo (by decide) ⟨_, rfl, rfl, _, rfl, iteNo (by decide) ⟨_, rfl, rfl, _, rfl, iteNo (by decide) ⟨_, rfl, rfl, _, rfl, iteNo (by decide) ⟨_, rfl, rfl, _, rfl, iteNo (by decide) ⟨_, rfl, rfl, _, rfl, iteNo (by decide) ⟨_, rfl, p, g, a, _, _, rfl, ⟨rfl, rfl⟩, C, W, k.1, k⟩⟩⟩⟩⟩⟩⟩⟩
    | setMove => exact ⟨_, rfl, rfl, _, rfl, iteNo (by decide) ⟨_, rfl, rfl, _, rfl, iteNo (by decide) ⟨_, rfl, rfl, _, rfl, iteNo (by decide) ⟨_, rfl, rfl, _, rfl, iteNo (by decide) ⟨_, rfl, rfl, _, rfl, iteNo (by decide) ⟨_, rfl, rfl, _, rfl, iteNo (by decide) ⟨_, rfl, rfl, _, rfl, iteYes (by decide) ⟨_, rfl, p, g, a, _, _, rfl, ⟨rfl, rfl⟩, C, W, k.1, k⟩⟩⟩⟩⟩⟩⟩⟩
    | _ => exact absurd h1 (by decide)
theorem ok_answer_of_orders (T : Tx A K mg) (B : Bx A mg base) : FnOk P w K mg base CX0 10 A.a_answer_of_orders A.d_answer_of_orders ["carpet", "call", "handed"] (spDisp A fun n => 8 ≤ n ∧ n ≤ 13) := by
  refine T.F_answer_of_orders.ok sc_answer_of_orders (fun vs H Q E h => ?_) (fun cdv Ar outer s H vs Q E hr h => ?_)
  · obtain ⟨p, g, q, a, c, n, hs, rfl, _⟩ := h
    rfl
  · obtain ⟨p, g, q, a, c, n, hs, rfl, hq, hk, h1, C, W, k⟩ := h
    refine ⟨_, (pss_cons (ps_if (pt_cmpR op_eq (pv 1) (pe_gint rfl T.c_GAP) (nomark _)) (pss_one (ps_ret (pe_call (ok_gap T) (hr.mono (by decide)) rfl T.m_gap T.F_gap.kp T.b_gap .nil pass0 (pa_cons (pv 0) (pa_cons (pe_ix ix_list (pv 2) pe_int (fun _ _ => rfl)) (pa_cons (pe_ix ix_list (pv 2) pe_int (fun _ _ => rfl)) pa_nil)))))) pss_nil)
      (pss_cons (ps_if (pt_cmpR op_eq (pv 1) (pe_gint rfl T.c_NEED) (nomark _)) (pss_one (ps_ret (pe_call (ok_need T) (hr.mono (by decide)) rfl T.m_need T.F_need.kp T.b_need .nil pass0 (pa_cons (pv 0) (pa_cons (pe_slice sl_list (pv 2) (po_some pe_int) po_none) pa_nil))))) pss_nil)
      (pss_cons (ps_if (pt_cmpR op_eq (pv 1) (pe_gint rfl T.c_BEST) (nomark _)) (pss_one (ps_ret (pe_call (ok_best T B) (hr.mono (by decide)) rfl T.m_best T.F_best.kp T.b_best .nil pass0 (pa_cons (pv 0) pa_nil)))) pss_nil)
      (pss_cons (ps_if (pt_cmpR op_eq (pv 1) (pe_gint rfl T.c_BEST_LAST) (nomark _)) (pss_one (ps_ret (pe_call (ok_best_last T) (hr.mono (by decide)) rfl T.m_best_last T.F_best_last.kp T.b_best_last .nil pass0 (pa_cons (pv 0) (pa_cons (pe_ix ix_list (pv 2) pe_int (fun _ _ => rfl)) pa_nil))))) pss_nil)
      (pss_cons (ps_if (pt_cmpR op_eq (pv 1) (pe_gint rfl T.c_FINER) (nomark _)) (pss_one (ps_ret (pe_call (ok_finer T) (hr.mono (by decide)) rfl T.m_finer T.F_finer.kp T.b_finer .nil pass0 (pa_cons (pv 0) (pa_cons (pe_ix ix_list (pv 2) pe_int (fun _ _ => rfl)) pa_nil))))) pss_nil)
      (pss_one (ps_ret (pe_call (ok_best_move T) (hr.mono (by decide)) rfl T.m_best_move T.F_best_move.kp T.b_best_move .nil pass0 (pa_cons (pv 0) pa_nil))))))))), ?_⟩
    cases hk with
    | gap i j => exact ⟨_, rfl, rfl, _, rfl, iteYes (by decide) ⟨_, rfl, _, rfl, q, _, _, _, rfl, rfl, SqL.of hq, rfl, _, rfl, q, _, _, _, rfl, rfl, SqL.of hq, rfl, p, g, a, _, _, rfl, ⟨i, j, rfl, rfl⟩, C, W, k.1, k⟩⟩
    | best => exact ⟨_, rfl, rfl, _, rfl, iteNo (by decide) ⟨_, rfl, rfl, _, rfl, iteNo (by decide) ⟨_, rfl, rfl, _, rfl, iteYes (by decide) ⟨_, rfl, p, g, a, _, _, rfl, ⟨rfl, rfl⟩, C, W, k.1, k⟩⟩⟩⟩
    | bestLast i => exact ⟨_, rfl, rfl, _, rfl, iteNo (by decide) ⟨_, rfl, rfl, _, rfl, iteNo (by decide) ⟨_, rfl, rfl, _, rfl, iteNo (by decide) ⟨_, rfl, rfl, _, rfl, iteYes (by decide) ⟨_, rfl, _, rfl, q, _, _, _, rfl, rfl, SqL.of hq, rfl, p, g, a, _, _, rfl, ⟨i, rfl, rfl⟩, C, W, k.1, k⟩⟩⟩⟩⟩
    | finer r => exact ⟨_, rfl, rfl, _, rfl, iteNo (by decide) ⟨_, rfl, rfl, _, rfl, iteNo (by decide) ⟨_, rfl, rfl, _, rfl, iteNo (by decide) ⟨_, rfl, rfl, _, rfl, iteNo (by decide) ⟨_, rfl, rfl, _, rfl, iteYes (by decide) ⟨_, rfl, _, rfl, q, _, _, _, rfl, rfl, SqL.of hq, rfl, p, g, a, _, _, rfl, ⟨r, rfl, rfl⟩, C, W, k.1, k⟩⟩⟩⟩⟩⟩
    | bestMove => exact ⟨_, rfl, rfl, _, rfl, iteNo (by decide) ⟨_, rfl, rfl, _, rfl, iteNo (by decide) ⟨_, rfl, rfl, _, rfl, iteNo (by decide) ⟨_, rfl, rfl, _, rfl, iteNo (by decide) ⟨_, rfl, rfl, _, rfl, iteNo (by decide) ⟨_, rfl, p, g, a, _, _, rfl, ⟨rfl, rfl⟩, C, W, k.1, k⟩⟩⟩⟩⟩⟩
    | need os h8 =>
      refine ⟨_, rfl, rfl, _, rfl, iteNo (by decide) ⟨_, rfl, rfl, _, rfl, iteYes (by decide) ⟨_, rfl, _, rfl, _, rfl, q, _, rfl, SqL.of hq, fun q2 hq2 => ?_⟩⟩⟩
      have s2 := Same.upd (o := .lst (cutV (iv (os.length :: os)) (some 1) none)) hq2
      have e : cutV (iv (os.length :: os)) (some 1) none = iv os := cut_from_nat _ 1
      refine ⟨p, g, q2, a, os, rfl, SqL.of (by rw [upd_same, e]), h8, C.mono s2, W, (fun e => k.1 (s2.free e)), (fun e => k.1 (s2.free e)), fun H' q' C' b' h' n' => k.2 H' q' C' ((But.of s2).trans b') h' n'⟩
    | _ => exact absurd h1 (by decide)
theorem ok_answer_of_rolls (T : Tx A K mg) : FnOk P w K mg base CX0 12 A.a_answer_of_rolls A.d_answer_of_rolls ["carpet", "call", "handed"] (spDisp A fun n => 15 ≤ n ∧ n ≤ 19) := by
  refine T.F_answer_of_rolls.ok sc_answer_of_rolls (fun vs H Q E h => ?_) (fun cdv Ar outer s H vs Q E hr h => ?_)
  · obtain ⟨p, g, q, a, c, n, hs, rfl, _⟩ := h
    rfl
  · obtain ⟨p, g, q, a, c, n, hs, rfl, hq, hk, h1, C, W, k⟩ := h
    refine ⟨_, (pss_cons (ps_if (pt_cmpR op_eq (pv 1) (pe_gint rfl T.c_FITS) (nomark _)) (pss_one (ps_ret (pe_call (ok_fits T) (hr.mono (by decide)) rfl T.m_fits T.F_fits.kp T.b_fits .nil pass0 (pa_cons (pv 0) pa_nil)))) pss_nil)
      (pss_cons (ps_if (pt_cmpR op_eq (pv 1) (pe_gint rfl T.c_SPARE) (nomark _)) (pss_one (ps_ret (pe_call (ok_spare T) (hr.mono (by decide)) rfl T.m_spare T.F_spare.kp T.b_spare .nil pass0 (pa_cons (pv 0) pa_nil)))) pss_nil)
      (pss_cons (ps_if (pt_cmpR op_eq (pv 1) (pe_gint rfl T.c_MOST) (nomark _)) (pss_one (ps_ret (pe_call (ok_most T) (hr.mono (by decide)) rfl T.m_most T.F_most.kp T.b_most .nil pass0 (pa_cons (pv 0) pa_nil)))) pss_nil)
      (pss_cons (ps_if (pt_cmpR op_eq (pv 1) (pe_gint rfl T.c_COULD) (nomark _)) (pss_one (ps_ret (pe_call (ok_could T) (hr.mono (by decide)) rfl T.m_could T.F_could.kp T.b_could .nil pass0 (pa_cons (pv 0) (pa_cons (pe_ix ix_list (pv 2) pe_int (fun _ _ => rfl)) (pa_cons (pe_ix ix_list (pv 2) pe_int (fun _ _ => rfl)) pa_nil)))))) pss_nil)
      (pss_one (ps_ret (pe_call (ok_alone T) (hr.mono (by decide)) rfl T.m_alone T.F_alone.kp T.b_alone .nil pass0 (pa_cons (pv 0) (pa_cons (pe_ix ix_list (pv 2) pe_int (fun _ _ => rfl)) (pa_cons (pe_ix ix_list (pv 2) pe_int (fun _ _ => rfl)) pa_nil)))))))))), ?_⟩
    cases hk with
    | fits => exact ⟨_, rfl, rfl, _, rfl, iteYes (by decide) ⟨_, rfl, p, g, a, _, _, rfl, ⟨rfl, rfl⟩, C, W, k.1, k⟩⟩
    | spare => exact ⟨_, rfl, rfl, _, rfl, iteNo (by decide) ⟨_, rfl, rfl, _, rfl, iteYes (by decide) ⟨_, rfl, p, g, a, _, _, rfl, ⟨rfl, rfl⟩, C, W, k.1, k⟩⟩⟩
    | most => exact ⟨_, rfl, rfl, _, rfl, iteNo (by decide) ⟨_, rfl, rfl, _, rfl, iteNo (by decide) ⟨_, rfl, rfl, _, rfl, iteYes (by decide) ⟨_, rfl, p, g, a, _, _, rfl, ⟨rfl, rfl⟩, C, W, k.1, k⟩⟩⟩⟩
    | could l b => exact ⟨_, rfl, rfl, _, rfl, iteNo (by decide) ⟨_, rfl, rfl, _, rfl, iteNo (by decide) ⟨_, rfl, rfl, _, rfl, iteNo (by decide) ⟨_, rfl, rfl, _, rfl, iteYes (by decide) ⟨_, rfl, _, rfl, q, _, _, _, rfl, rfl, SqL.of hq, rfl, _, rfl, q, _, _, _, rfl, rfl, SqL.of hq, rfl, p, g, a, _, _, rfl, ⟨l, b, rfl, rfl⟩, C, W, k.1, k⟩⟩⟩⟩⟩
    | alone i j => exact ⟨_, rfl, rfl, _, rfl, iteNo (by decide) ⟨_, rfl, rfl, _, rfl, iteNo (by decide) ⟨_, rfl, rfl, _, rfl, iteNo (by decide) ⟨_, rfl, rfl, _, rfl, iteNo (by decide) ⟨_, rfl, _, rfl, q, _, _, _, rfl, rfl, SqL.of hq, rfl, _, rfl, q, _, _, _, rfl, rfl, SqL.of hq, rfl, p, g, a, _, _, rfl, ⟨i, j, rfl, rfl⟩, C, W, k.1, k⟩⟩⟩⟩⟩
    | _ => exact absurd h1 (by decide)
def spAnswerCall (A : Ad) (K : PySem.W.Frag) : Sp := fun vs H Q _ => ∃ (p g q : Addr) (s : Option Abs) (c : Kh351.Call) (n : Nat) (hs : List Nat), vs = [.ref p, .int (n : Int), .ref q] ∧ H q = some (.lst (iv hs)) ∧ IsCall n hs c ∧ CarpetAt A H g p (toA s) ∧ Good s ∧ H g ≠ none ∧
  ∀ (H' : Hp) (q' : Addr), CarpetAt A H' g p (toA (Kh351.doing s c).1) → But p H H' → H' q' = some (.lst ((doneI s c).map V.int)) → q' ≠ g → Q (.ref q') H'
theorem doing_begin (s : Option Abs) (r : Nat) : Kh351.doing s (.begin_ r) = if r < 1 ∨ 120 < r then (s, Kh351.say (-22)) else (some (Kh351.begun r), Kh351.say 0) := by
  cases s <;> rfl
theorem doing_none {n : Nat} {hs : List Nat} {c : Kh351.Call} (hk : IsCall n hs c) (hn : n ≠ 0) : Kh351.doing none c = (none, Kh351.say (-61)) := by
  cases hk <;> first | rfl | exact absurd rfl hn
theorem ok_answer_call (T : Tx A K mg) (B : Bx A mg base) : FnOk P w K mg base CX0 13 A.a_answer_call A.d_answer_call ["carpet", "call", "handed"] (spAnswerCall A K) := by
  refine T.F_answer_call.ok sc_answer_call (fun vs H Q E h => ?_) (fun cdv Ar outer s H vs Q E hr h => ?_)
  · obtain ⟨p, g, q, a, c, n, hs, rfl, _⟩ := h
    rfl
  · obtain ⟨p, g, q, st, c, n, hs, rfl, hq, hk, C, G, hg, k⟩ := h
    refine ⟨_, (pss_cons (ps_if (pt_cmpR op_eq (pv 1) (pe_gint rfl T.c_BEGIN) (nomark _)) (pss_one (ps_ret (pe_call (ok_begin T) (hr.mono (by decide)) rfl T.m_begin T.F_begin.kp T.b_begin .nil pass0 (pa_cons (pv 0) (pa_cons (pe_ix ix_list (pv 2) pe_int (fun _ _ => rfl)) pa_nil))))) pss_nil)
      (pss_cons (ps_if (pt_cmpR op_eq (pe_fld (pv 0) rfl) pe_int (nomark _)) (pss_one (ps_ret (pe_lst (pa_cons (pe_gint rfl T.c_NOT_BEGUN) pa_nil)))) pss_nil)
      (pss_cons (ps_if (PW.pt (pw_or (pt_cmpR op_le (pv 1) (pe_gint rfl T.c_BACK) (nomark _)) (pw_or1 (pt_cmpR op_eq (pv 1) (pe_gint rfl T.c_SET_MOVE) (nomark _))))) (pss_one (ps_ret (pe_call (ok_answer_change T) (hr.mono (by decide)) rfl T.m_answer_change T.F_answer_change.kp T.b_answer_change .nil pass0 (pa_cons (pv 0) (pa_cons (pv 1) (pa_cons (pv 2) pa_nil)))))) pss_nil)
      (pss_cons (ps_if (pt_cmpR op_le (pv 1) (pe_gint rfl T.c_BEST_MOVE) (nomark _)) (pss_one (ps_ret (pe_call (ok_answer_of_orders T B) (hr.mono (by decide)) rfl T.m_answer_of_orders T.F_answer_of_orders.kp T.b_answer_of_orders .nil pass0 (pa_cons (pv 0) (pa_cons (pv 1) (pa_cons (pv 2) pa_nil)))))) pss_nil)
      (pss_cons (ps_if (pt_cmpR op_le (pv 1) (pe_gint rfl T.c_ALONE) (nomark _)) (pss_one (ps_ret (pe_call (ok_answer_of_rolls T) (hr.mono (by decide)) rfl T.m_answer_of_rolls T.F_answer_of_rolls.kp T.b_answer_of_rolls .nil pass0 (pa_cons (pv 0) (pa_cons (pv 1) (pa_cons (pv 2) pa_nil)))))) pss_nil)
      (pss_cons (ps_if (pt_cmpR op_eq (pv 1) (pe_gint rfl T.c_LOOK) (nomark _)) (pss_one (ps_ret (pe_call (ok_look T) (hr.mono (by decide)) rfl T.m_look T.F_look.kp T.b_look .nil pass0 (pa_cons (pv 0) (pa_cons (pe_ix ix_list (pv 2) pe_int (fun _ _ => rfl)) pa_nil))))) pss_nil)
      (pss_one (ps_ret (pe_call (ok_state T) (hr.mono (by decide)) rfl T.m_state T.F_state.kp T.b_state .nil pass0 (pa_cons (pv 0) pa_nil)))))))))), ?_⟩
    by_cases hn : n = 0
    · subst hn
      cases hk with
      | begin_ r =>
        refine ⟨_, rfl, rfl, _, rfl, iteYes (by decide) ⟨_, rfl, _, rfl, q, _, _, _, rfl, rfl, SqL.of hq, rfl, p, g, toA st, r, rfl, C, hg, fun H' q' C' b' h' n' => k H' q' ?_ b' ?_ n'⟩⟩
        · rw [doing_begin]
          by_cases hx : r < 1 ∨ 120 < r
          · rw [if_pos hx] at C' ⊢
            exact C'
          · rw [if_neg hx] at C' ⊢
            exact C'
        · unfold doneI
          rw [doing_begin]
          by_cases hx : r < 1 ∨ 120 < r
          · rw [if_pos hx] at h' ⊢
            exact h'
          · rw [if_neg hx] at h' ⊢
            exact h'
    · refine ⟨_, rfl, rfl, _, rfl, iteNo (fun e => hn (by injection e with e; omega)) ?_⟩
      obtain ⟨dx, a0, b0, c0, ts, CC⟩ := id C
      cases st with
      | none =>
        have e0 := doing_none hk hn
        refine ⟨_, rfl, _, _, _, _, _, rfl, CC.at_, T.cl_Carpet, T.f_Carpet_repeat, cf_repeat, rfl, _, rfl, iteYes rfl ⟨by show 1 ≤ sizeLine; decide, fun q' hq' => ?_⟩⟩
        refine k _ q' ?_ (But.of (Same.upd hq')) ?_ (fun e => hg (e ▸ hq'))
        · rw [e0]
          exact C.mono (Same.upd hq')
        · unfold doneI
          rw [upd_same, e0]
          rfl
      | some a =>
        have W := G a rfl
        have hr1 : a.repeat_ ≠ 0 := by
          have := W.now.r1
          omega
        refine ⟨_, rfl, _, _, _, _, _, rfl, CC.at_, T.cl_Carpet, T.f_Carpet_repeat, cf_repeat, rfl, _, rfl, iteNo (fun e => hr1 (by injection e with e; exact Int.ofNat.inj e)) ?_⟩
        have hP : Post A p g a c H Q := ⟨hg, fun H' q' C' b' h' n' => k H' q' C' b' h' n'⟩
        refine ⟨_, rfl, _, _, rfl, rfl, _, rfl, ite2 (fun h => iteT ?_) (fun h => ?_)⟩
        · have := of_decide_eq_true h
          exact ⟨_, rfl, _, rfl, _, rfl, p, g, q, a, c, n, hs, rfl, hq, hk, ⟨by omega, .inl (by omega)⟩, C, W, hP⟩
        have h7 : ¬ (n : Int) ≤ 7 := fun q => h (decide_eq_true q)
        refine ⟨_, rfl, rfl, _, rfl, ite2 (fun h => ?_) (fun h => ?_)⟩
        · have := deq_int.mp h
          exact ⟨_, rfl, _, rfl, _, rfl, p, g, q, a, c, n, hs, rfl, hq, hk, ⟨by omega, .inr (by omega)⟩, C, W, hP⟩
        have h14 : ¬ (n : Int) = 14 := fun q => h (deq_int.mpr q)
        refine ⟨_, rfl, _, _, rfl, rfl, _, rfl, ite2 (fun h => ?_) (fun h => ?_)⟩
        · have := of_decide_eq_true h
          exact ⟨_, rfl, _, rfl, _, rfl, p, g, q, a, c, n, hs, rfl, hq, hk, ⟨by omega, by omega⟩, C, W, hP⟩
        have h13 : ¬ (n : Int) ≤ 13 := fun q => h (decide_eq_true q)
        refine ⟨_, rfl, _, _, rfl, rfl, _, rfl, ite2 (fun h => ?_) (fun h => ?_)⟩
        · have := of_decide_eq_true h
          exact ⟨_, rfl, _, rfl, _, rfl, p, g, q, a, c, n, hs, rfl, hq, hk, ⟨by omega, by omega⟩, C, W, hP⟩
        have h19 : ¬ (n : Int) ≤ 19 := fun q => h (decide_eq_true q)
        cases hk with
        | look i => exact ⟨_, rfl, rfl, _, rfl, iteYes (by decide) ⟨_, rfl, _, rfl, q, _, _, _, rfl, rfl, SqL.of hq, rfl, p, g, a, _, _, rfl, ⟨i, rfl, rfl⟩, C, W, hg, hP⟩⟩
        | state => exact ⟨_, rfl, rfl, _, rfl, iteNo (by decide) ⟨_, rfl, p, g, a, _, _, rfl, ⟨rfl, rfl⟩, C, W, hg, hP⟩⟩
        | _ => exact absurd (by decide) h19
end
end PM

end

section
set_option Elab.async false
set_option linter.all false
set_option maxRecDepth 100000
set_option maxHeartbeats 2000000
namespace PM
open PySem PySem.Spec PyProof.Rows L2
open Kh351 (Abs Strip)
/-! ### the list of calls -/
theorem iv_ci (l : List Nat) : iv l = (ci l).map V.int := iv_ints l
section
variable {P : Program} {w : World} {K : PySem.W.Frag} {mg : Str → Option Value} {base : Heap} {A : Ad}
def spAns (K : PySem.W.Frag) : Sp := fun vs H Q _ => ∃ (a : Addr) (ns : List Int) (tc tT : Addr), vs = [.ref a] ∧ SqL K H a (ns.map V.int) ∧ PySem.W.tabIn K "best_first" = some (tc, tT) ∧ H tT = some (.tbl #[]) ∧ ns.length ≤ 2000 ∧ (∀ x ∈ ns, 0 ≤ x ∧ x ≤ 4294967295) ∧ PyKh351.answers_asked ns = true ∧
  ∀ (H' : Hp) (p : Addr), H' p = some (.lst ((PyKh351.answers ns).map V.int)) → Q (.ref p) H'
theorem told_cons (s : Option Abs) (c : List (List Int)) (cs : List (List (List Int))) :
    PyFlat.told (PyFlat.played Kh351Neutral.step s (c :: cs)) = ((doneI s (Kh351Neutral.callOf1 c)).length : Int) :: (doneI s (Kh351Neutral.callOf1 c) ++ PyFlat.told (PyFlat.played Kh351Neutral.step (Kh351.doing s (Kh351Neutral.callOf1 c)).1 cs)) := rfl
theorem ok_answers (T : Tx A K mg) (B : Bx A mg base) : FnOk P w K mg base CX0 14 A.a_answers A.d_answers ["calls"] (spAns K) := by
  refine T.F_answers.ok sc_answers (fun vs H Q E h => ?_) (fun cdv Ar outer s H vs Q E hr h => ?_)
  · obtain ⟨a, ns, tc, tT, rfl, _⟩ := h
    rfl
  · obtain ⟨b, ns, tc, tT, rfl, hb, htab, hTb, h2000, hns, hask, k⟩ := h
    have hT0 : TabAt A H := by
      have e := T.tab
      rw [htab] at e
      cases e
      exact .inl hTb
    obtain ⟨L, rfl⟩ : ∃ L : List Nat, ns = ci L := ⟨ns.map Int.toNat, by
      show ns = (ns.map Int.toNat).map fun (i : Nat) => (i : Int)
      rw [List.map_map]
      conv => lhs; rw [← List.map_id ns]
      exact List.map_congr_left fun x hx => by
        have := (hns x hx).1
        show x = ((x.toNat : Nat) : Int)
        omega⟩
    rw [← iv_ci] at hb
    rw [List.length_map] at h2000
    -- what is asked
    unfold PyKh351.answers_asked at hask
    cases hraw : PyFlat.calls PyKh351.shape (ci L).length (ci L) with
    | none => rw [hraw] at hask; cases hask
    | some raw =>
      rw [hraw] at hask
      dsimp only at hask
      rw [Bool.and_eq_true, Bool.and_eq_true, Bool.and_eq_true, Bool.and_eq_true] at hask
      obtain ⟨⟨⟨⟨_, _⟩, hin⟩, _⟩, hshort⟩ := hask
      have hans : PyKh351.answers (ci L) = PyFlat.told (PyFlat.played Kh351Neutral.step Kh351Neutral.start raw) := by
        unfold PyKh351.answers PyKh351.calls
        rw [hraw]
        dsimp only
        rw [calls_whole hraw hin]
      have h7 : (PyKh351.answers (ci L)).length ≤ 10000000 := of_decide_eq_true hshort
      refine ⟨_, (pss_cons (ps_set (i := 1) sc_answers.nd rfl (Or.inl rfl) (pe_make0 T.mk_Carpet (ok_Carpet_init T) (hr.mono (by decide)) rfl T.g_Carpet T.b_Carpet_init .nil pass0))
      (pss_cons (ps_set (i := 2) sc_answers.nd rfl (Or.inl rfl) (pe_lst pa_nil))
      (pss_cons (ps_set (i := 3) sc_answers.nd rfl (Or.inl rfl) pe_int)
      (pss_cons (ps_while PassesOwn.never (pt_cmpR op_lt (pv 3) (pe_callB call_len_seq (by rfl) T.n_len bt_len (pa_cons (pv 0) pa_nil)) (nomark _)) (pss_cons (ps_set (i := 4) sc_answers.nd rfl (Or.inl rfl) (pe_call (ok_end_of_call T) (hr.mono (by decide)) rfl T.m_end_of_call T.F_end_of_call.kp T.b_end_of_call .nil pass0 (pa_cons (pv 0) (pa_cons (pv 3) pa_nil))))
      (pss_cons (ps_set (i := 5) sc_answers.nd rfl (Or.inl rfl) (pe_call (ok_answer_call T B) (hr.mono (by decide)) rfl T.m_answer_call T.F_answer_call.kp T.b_answer_call .nil pass0 (pa_cons (pv 1) (pa_cons (pe_ix ix_list (pv 0) (pv 3) (fun _ _ => rfl)) (pa_cons (pe_slice sl_list (pv 0) (po_some (pe_op op_add (pv 3) pe_int)) (po_some (pv 4))) pa_nil)))))
      (pss_cons (ps_expr (pe_bm PySem.F.plainAttrs_list PySem.F.slot_list_append PySem.F.type_list_append mt_append (pv 2) (pa_cons (pe_callB call_len_seq (by rfl) T.n_len bt_len (pa_cons (pv 5) pa_nil)) pa_nil)))
      (pss_cons (ps_expr (pe_bm PySem.F.plainAttrs_list PySem.F.slot_list_extend PySem.F.type_list_extend mt_extend (pv 2) (pa_cons (pv 5) pa_nil)))
      (pss_one (ps_set (i := 3) sc_answers.nd rfl (Or.inl rfl) (pv 4))))))))
      (pss_one (ps_ret (pv 2))))))), ?_⟩
      intro p dx np ndp nep
      refine ⟨p, dx, rfl, upd_same, hT0.mono ((Same.upd ndp).trans (Same.upd (by rw [upd_ne (Ne.symm nep)]; exact np))), fun H1 hC1 b1 => ⟨rfl, Nat.zero_le _, fun g hg => ?_⟩⟩
      have s1 : Same H H1 := made_piece np ndp b1
      have hg0 : H g = none := s1.free hg
      refine ⟨fun m σ H' => ∃ (i : Nat) (st : Option Abs) (out : List Int) (cs : List (List (List Int))) (f : Nat) (v4 v5 : Option V), m = L.length - i ∧ i ≤ L.length ∧ σ = [some (.ref b), some (.ref p), some (.ref g), some (.int (i : Int)), v4, v5] ∧ SameT H H' ∧
        CarpetAt A H' g p (toA st) ∧ Good st ∧ H' g = some (.lst (out.map V.int)) ∧ PyFlat.calls PyKh351.shape f (ci (L.drop i)) = some cs ∧ PyInside.calls PyKh351.bound cs = true ∧ out ++ PyFlat.told (PyFlat.played Kh351Neutral.step st cs) = PyKh351.answers (ci L),
        ⟨L.length, 0, none, [], raw, (ci L).length, none, none, by omega, Nat.zero_le _, rfl, .of (s1.trans (Same.upd hg)), (hC1 g hg).mono (Same.upd hg), fun a e => (by cases e), upd_same, by rw [List.drop_zero]; exact hraw, hin, by rw [hans]; rfl⟩, ?_⟩
      rintro m σ H' ⟨i, st, out, cs, f, v4, v5, rfl, hi, rfl, sH, C, G, hgo, hcs, hin', hout⟩
      have hlo : out.length ≤ 10000000 := by
        rw [← hout, List.length_append] at h7
        omega
      refine ⟨_, rfl, _, rfl, b, _, rfl, .inl (sH.seq hb), _, _, rfl, rfl, _, rfl, ite2 (fun h => ?_) (fun h => ?_)⟩
      · have hlt : i < L.length := by
          have := of_decide_eq_true h
          rw [iv_len] at this
          omega
        refine ⟨_, fun σ' H' h => h, ?_⟩
        -- the call that stands at i
        have hd : L.drop i = L[i] :: L.drop (i + 1) := List.drop_eq_getElem_cons hlt
        rw [hd, show ci (L[i] :: L.drop (i + 1)) = (L[i] : Int) :: ci (L.drop (i + 1)) from rfl] at hcs
        obtain ⟨f', c, t, cs', hc, hcs', rfl⟩ := calls_cons hcs
        have hin2 : PyInside.call PyKh351.bound c = true ∧ PyInside.calls PyKh351.bound cs' = true := by
          unfold PyInside.calls at hin' ⊢
          rw [List.all_cons, Bool.and_eq_true] at hin'
          exact hin'
        obtain ⟨hs, kc, T2, hk, hkc, hL, rfl, _⟩ := call_is hc hin2.1
        have hd2 : L.drop i = L[i] :: (hs ++ T2) := by rw [hd, hL]
        have hlen : i + 1 + hs.length + T2.length = L.length := by
          have := congrArg List.length hd2
          rw [List.length_drop, List.length_cons, List.length_append] at this
          omega
        have hT2 : L.drop (i + 1 + hs.length) = T2 := by
          rw [← List.drop_drop, hL, List.drop_left]
        refine ⟨_, rfl, _, rfl, b, L, i, L[i], hs, T2, kc, rfl, sH.seq hb, hd2, hk, ?_⟩
        -- answer_call
        refine ⟨_, rfl, _, rfl, _, rfl, b, _, _, _, rfl, rfl, sH.seq hb, atI_nat (v := V.int (L[i] : Int)) (by unfold iv; rw [List.getElem?_map, List.getElem?_eq_getElem hlt]; rfl), _, rfl, _, rfl, _, _, rfl, rfl, _, rfl, _, rfl, _, rfl, b, _, rfl, sH.seq hb, fun q hq => ?_⟩
        have ecut : cutV (iv L) (some ((i : Int) + 1)) (some ((i + 1 + hs.length : Nat) : Int)) = iv hs := by
          rw [show ((i : Int) + 1) = ((i + 1 : Nat) : Int) from rfl, cut_nats _ _ _ (by rw [iv_len]; omega) (by rw [iv_len]; omega)]
          unfold iv
          rw [← List.map_drop, ← List.map_take, hL, show i + 1 + hs.length - (i + 1) = hs.length by omega, List.take_left]
        rw [ecut]
        have s2' := Same.upd (o := .lst (iv hs)) hq
        refine ⟨p, g, q, st, kc, L[i], hs, rfl, upd_same, hk, C.mono s2', G, (by rw [s2' _ _ hgo]; intro z; cases z), fun H3 q3 C3 b3 h3 n3 => ?_⟩
        obtain ⟨dxx, a0, b0, c0, ts, CC⟩ := id C
        have hgp : g ≠ p := ne_of hgo CC.at_ (by intro z; cases z)
        have hg3 := b3.at_ (s2' _ _ hgo) hgp (fun _ z => nomatch z)
        have sH3 : SameT H H3 := fun x o e => by
          have hxp : x ≠ p := fun z => by rw [z, np] at e; cases e
          refine ⟨fun n => b3.at_ (s2' _ _ (sH.at_ e n)) hxp n, ?_⟩
          cases q : H' x with
          | none => exact absurd q (sH x o e).2
          | some o' => exact (b3 x o' (s2' _ _ q) hxp).2
        have hdl : ((doneI st kc).map V.int).length = (doneI st kc).length := List.length_map ..
        rw [told_cons, hkc] at hout
        have h8 : out.length + 1 + (doneI st kc).length ≤ 10000000 := by
          rw [← hout, List.length_append, List.length_cons, List.length_append] at h7
          omega
        -- given.append(len(answer)); given.extend(answer); at = end
        refine ⟨_, rfl, .inl ⟨rfl, _, SqL.of hg3⟩, _, rfl, q3, _, rfl, .inl (SqL.of h3), g, _, _, rfl, rfl, hg3, (by rw [List.length_map]; exact Nat.lt_of_le_of_lt hlo (by decide)), ?_⟩
        rw [hdl]
        refine ⟨_, rfl, .inl ⟨rfl, _, SqL.of upd_same⟩, _, rfl, g, q3, _, _, rfl, rfl, upd_same, (by rw [upd_ne n3]; exact h3), (by rw [List.length_append, List.length_map, hdl]; exact Nat.le_trans (show out.length + 1 + (doneI st kc).length ≤ 10000000 from h8) (by decide)), ?_⟩
        rw [upd_upd]
        refine ⟨_, rfl, L.length - (i + 1 + hs.length), by omega, i + 1 + hs.length, (Kh351.doing st kc).1, out ++ ((doneI st kc).length : Int) :: doneI st kc, cs', f', _, _, rfl, by omega, rfl, ?_, C3.wr hg3, good_step G kc, ?_, by rw [hT2]; exact hcs', hin2.2, ?_⟩
        · exact SameT.wr sH3 hg0
        · rw [upd_same, List.map_append, List.map_cons, List.append_assoc]
          rfl
        · rw [← hout, List.append_assoc]
          rfl
      · have hge : i = L.length := by
          have : ¬ (i : Int) < ((iv L).length : Int) := fun q => h (decide_eq_true q)
          rw [iv_len] at this
          omega
        rw [hge, List.drop_length] at hcs
        have hnil : cs = [] := by
          cases f <;> exact (Option.some.inj hcs).symm
        rw [hnil] at hout
        have ho : out = PyKh351.answers (ci L) := by
          rw [← hout]
          exact (List.append_nil out).symm
        refine ⟨_, rfl, k H' g ?_⟩
        rw [← ho]
        exact hgo
end
end PM

end
set_option Elab.async false
set_option linter.all false
set_option maxRecDepth 100000
set_option maxHeartbeats 2000000
-- names taken, so that the head lays no second form of its longest tables: their equations alone are 40 MB of the .olean (heap_1, heap_410, the trees, the view, the program)
def PySem.W.Fast.tw13822828675125996679 : Nat := 0
def PySem.W.Fast.tw199926469062354968 : Nat := 0
def PySem.W.Fast.tw16568292754848973236 : Nat := 0
def PySem.W.Fast.tw16962695298852474054 : Nat := 0
def PySem.W.Fast.tw6315187324785137964 : Nat := 0
def PySem.W.Fast.tw12342655838619169888 : Nat := 0
def PySem.W.Fast.tw18426492169849417087 : Nat := 0
def PySem.W.Fast.tw10573916871777030897 : Nat := 0
def PySem.W.Fast.tw7737270684636086010 : Nat := 0
def PySem.W.Fast.tw1283085793992289329 : Nat := 0
namespace PM
open PySem PySem.Spec PyProof.Rows L2
def FnFact (K : PySem.W.Frag) (x qual : Str) (st : Stmt) : Prop := ∃ (f : Addr) (oc : Value) (od : Option Addr) (kV doc pm : Value) (an : Option Addr) (cdv ct : Value) (osl : Array (Option Value)), PySem.W.nsIn K mainGlobals x = some (some (.ref f)) ∧
  K.lookup f = some ⟨oc, od, .func (PySem.W.fnOf x qual (defArgs st) (defBody st) (defScope st) .none kV doc pm an cdv ct), osl⟩ ∧ PySem.W.codeIn K cdv qual = true ∧ PySem.W.keepIn K (.ref f) = true
def MeFact (K : PySem.W.Frag) (C : Addr) (x qual : Str) (st : Stmt) : Prop := ∃ (f : Addr) (oc : Value) (od : Option Addr) (kV doc pm : Value) (an : Option Addr) (cdv ct : Value) (osl : Array (Option Value)), PySem.W.findIn K (.ref C) x = some (some (.ref f)) ∧ PySem.W.isFn K (.ref f) = true ∧
  K.lookup f = some ⟨oc, od, .func (PySem.W.fnOf x qual (defArgs st) (defBody st) (defScope st) .none kV doc pm an cdv ct), osl⟩ ∧ PySem.W.codeIn K cdv qual = true ∧ PySem.W.keepIn K (.ref f) = true
def ClFact (K : PySem.W.Frag) (x : Str) (C : Addr) : Prop := PySem.W.nsIn K mainGlobals x = some (some (.ref C)) ∧ PySem.W.plainGet K C Str.empty = true ∧ PySem.W.hasDictIn K C = true ∧ PySem.W.plainOver K C = true ∧
  PySem.W.findIn K (.ref C) "__setattr__" = some (some (.builtin "object.__setattr__")) ∧ PySem.W.makesIn K C = true ∧ PySem.W.keepIn K (.ref C) = true
def CoFact (K : PySem.W.Frag) (x : Str) (i : Int) : Prop := ∃ t, PySem.W.nsIn K mainGlobals x = some (some (.int i t))
theorem FnFact.mk {K : PySem.W.Frag} {x qual : Str} {st : Stmt} {f : Addr} {oc : Value} {od : Option Addr} {kV doc pm : Value} {an : Option Addr} {cdv ct : Value} {osl : Array (Option Value)} (a : PySem.W.nsIn K mainGlobals x = some (some (.ref f)))
    (l : K.lookup f = some ⟨oc, od, .func (PySem.W.fnOf x qual (defArgs st) (defBody st) (defScope st) .none kV doc pm an cdv ct), osl⟩) (c : PySem.W.codeIn K cdv qual = true) (k : PySem.W.keepIn K (.ref f) = true) : FnFact K x qual st := ⟨f, oc, od, kV, doc, pm, an, cdv, ct, osl, a, l, c, k⟩
theorem MeFact.mk {K : PySem.W.Frag} {C : Addr} {x qual : Str} {st : Stmt} {f : Addr} {oc : Value} {od : Option Addr} {kV doc pm : Value} {an : Option Addr} {cdv ct : Value} {osl : Array (Option Value)} (a : PySem.W.findIn K (.ref C) x = some (some (.ref f))) (i : PySem.W.isFn K (.ref f) = true)
    (l : K.lookup f = some ⟨oc, od, .func (PySem.W.fnOf x qual (defArgs st) (defBody st) (defScope st) .none kV doc pm an cdv ct), osl⟩) (c : PySem.W.codeIn K cdv qual = true) (k : PySem.W.keepIn K (.ref f) = true) : MeFact K C x qual st := ⟨f, oc, od, kV, doc, pm, an, cdv, ct, osl, a, i, l, c, k⟩
theorem CoFact.mk {K : PySem.W.Frag} {x : Str} {i : Int} {t : Tok} (e : PySem.W.nsIn K mainGlobals x = some (some (.int i t))) : CoFact K x i := ⟨t, e⟩
theorem FnFact.out {K : PySem.W.Frag} {h : Heap} {mg : Str → Option Value} {x qual : Str} {st : Stmt} {ps : List Str} (X : K.In h) (G : h.Ns mainGlobals mg) (F : FnFact K x qual st)
    (hb : ∀ (kV doc pm : Value) (an : Option Addr) (cdv ct : Value) (us : List Value), us.length = ps.length → bindArgs (PySem.W.fnOf x qual (defArgs st) (defBody st) (defScope st) .none kV doc pm an cdv ct) ⟨us, []⟩ = pure (ps.zip us)) :
    ∃ f fd, mg x = some (.ref f) ∧ Fun K x qual st f fd ∧ Binds K fd ps [] := by
  obtain ⟨f, oc, od, kV, doc, pm, an, cdv, ct, osl, a, l, c, k⟩ := F
  have F1 := fun_mk (st := st) l c k
  exact ⟨f, _, PySem.W.mg_of X G a, F1, F1.binds hb⟩
theorem MeFact.out {K : PySem.W.Frag} {C : Addr} {x qual : Str} {st : Stmt} {ps : List Str} (F : MeFact K C x qual st)
    (hb : ∀ (kV doc pm : Value) (an : Option Addr) (cdv ct : Value) (us : List Value), us.length = ps.length → bindArgs (PySem.W.fnOf x qual (defArgs st) (defBody st) (defScope st) .none kV doc pm an cdv ct) ⟨us, []⟩ = pure (ps.zip us)) :
    ∃ f fd, Meth K C x f ∧ Fun K x qual st f fd ∧ Binds K fd ps [] := by
  obtain ⟨f, oc, od, kV, doc, pm, an, cdv, ct, osl, a, i, l, c, k⟩ := F
  have F1 := fun_mk (st := st) l c k
  exact ⟨f, _, ⟨a, i, k⟩, F1, F1.binds hb⟩
theorem CoFact.out {K : PySem.W.Frag} {h : Heap} {mg : Str → Option Value} {x : Str} {i : Int} (X : K.In h) (G : h.Ns mainGlobals mg) (F : CoFact K x i) : ∃ t, mg x = some (.int i t) := by
  obtain ⟨t, e⟩ := F
  exact ⟨t, PySem.W.mg_of X G e⟩
theorem tab_parts {K : PySem.W.Frag} {x : Str} {f c T : Addr} {oc oc' : Value} {od od' : Option Addr} {fd : FuncData} {sl sl' : Array (Option Value)} {vs : Array Value} (h1 : PySem.W.nsIn K mainGlobals x = some (some (.ref f))) (h2 : K.lookup f = some ⟨oc, od, .func fd, sl⟩) (h3 : K.lookup c = some ⟨oc', od', .fields vs, sl'⟩) (h4 : vs[11]? = some (.ref T)) (h5 : fd.code = .ref c := by rfl) : PySem.W.tabIn K x = some (c, T) := by
  unfold PySem.W.tabIn
  rw [h1]
  dsimp only
  rw [h2]
  dsimp only
  rw [h5]
  dsimp only
  rw [h3]
  dsimp only
  rw [h4]
theorem tab_code {K : PySem.W.Frag} {h : Heap} {mg : Str → Option Value} {x qual : Str} {st : Stmt} {f c T : Addr} {fd : FuncData} (G : h.Ns mainGlobals mg) (X : K.In h) (ht : PySem.W.tabIn K x = some (c, T)) (hm : mg x = some (.ref f)) (F : Fun K x qual st f fd) : fd.code = .ref c := by
  unfold PySem.W.tabIn at ht
  split at ht
  · rename_i f' e
    have e2 := PySem.W.mg_of X G e
    rw [hm] at e2
    cases e2
    obtain ⟨oc, od, kV, doc, pm, an, cdv, ct, osl, rfl, lk, _⟩ := F.ex
    rw [lk] at ht
    dsimp only at ht
    split at ht
    · rename_i c' ec
      split at ht
      · split at ht
        · have e3 := Option.some.inj ht
          have e4 : c' = c := congrArg Prod.fst e3
          show Value.ref c' = Value.ref c
          rw [e4]
        · cases ht
      · cases ht
    · cases ht
  · cases ht
theorem tx_mk {f_tab c_tab p_tab : Addr} {oc_t kV_t dc_t pm_t ct_t ocl_t : Value} {od_t an_t ocd_t : Option Addr} {sl_t osl_t : Array (Option Value)} {vs_t : Array Value} {K : PySem.W.Frag} {h : Heap} {mg : Str → Option Value} {C_Piece : Addr} {C_Carpet : Addr} {u_HANDED : Addr} {od_HANDED : Option Addr} {on_HANDED : Nat} {os_HANDED : Array (Option Value)} {t0_HANDED t1_HANDED t2_HANDED t3_HANDED t4_HANDED t5_HANDED t6_HANDED t7_HANDED t8_HANDED t9_HANDED t10_HANDED t11_HANDED t12_HANDED t13_HANDED t14_HANDED t15_HANDED t16_HANDED t17_HANDED t18_HANDED t19_HANDED t20_HANDED t21_HANDED : Tok} (X : K.In h) (G : h.Ns mainGlobals mg)
    (q_Piece : ClFact K "Piece" C_Piece)
    (n_Piece_long : PySem.W.findIn K (.ref C_Piece) "long" = some none)
    (n_Piece_begins : PySem.W.findIn K (.ref C_Piece) "begins" = some none)
    (q_Piece_init : MeFact K C_Piece "__init__" "Piece.__init__" s_Piece_init)
    (q_Carpet : ClFact K "Carpet" C_Carpet)
    (n_Carpet_repeat : PySem.W.findIn K (.ref C_Carpet) "repeat" = some none)
    (n_Carpet_strips : PySem.W.findIn K (.ref C_Carpet) "strips" = some none)
    (n_Carpet_rolls : PySem.W.findIn K (.ref C_Carpet) "rolls" = some none)
    (n_Carpet_past : PySem.W.findIn K (.ref C_Carpet) "past" = some none)
    (q_Carpet_init : MeFact K C_Carpet "__init__" "Carpet.__init__" s_Carpet_init)
    (q_Carpet_begin_anew : MeFact K C_Carpet "begin_anew" "Carpet.begin_anew" s_Carpet_begin_anew)
    (q_Carpet_change : MeFact K C_Carpet "change" "Carpet.change" s_Carpet_change)
    (q_Carpet_take_back : MeFact K C_Carpet "take_back" "Carpet.take_back" s_Carpet_take_back)
    (x_Piece_Carpet : PySem.W.findIn K (.ref C_Piece) "begin_anew" = some none)
    (c_MOST_TAKEN_BACK : CoFact K "MOST_TAKEN_BACK" (10))
    (c_NO_SUCH : CoFact K "NO_SUCH" (-2))
    (c_NO_ROLLS : CoFact K "NO_ROLLS" (-6))
    (c_NO_MOVE : CoFact K "NO_MOVE" (-17))
    (c_NOT_AS_TOLD : CoFact K "NOT_AS_TOLD" (-22))
    (c_NO_ROOM : CoFact K "NO_ROOM" (-28))
    (c_NO_FIT : CoFact K "NO_FIT" (-33))
    (c_NOT_BEGUN : CoFact K "NOT_BEGUN" (-61))
    (c_LONGEST_REPEAT : CoFact K "LONGEST_REPEAT" (120))
    (c_LONGEST_STRIP : CoFact K "LONGEST_STRIP" (1000))
    (c_LONGEST_ROLL : CoFact K "LONGEST_ROLL" (10000))
    (c_MOST_STRIPS : CoFact K "MOST_STRIPS" (6))
    (c_MOST_ROLLS : CoFact K "MOST_ROLLS" (3))
    (c_BEGIN : CoFact K "BEGIN" (0))
    (c_STRIP : CoFact K "STRIP" (1))
    (c_DROP : CoFact K "DROP" (2))
    (c_BEGINS : CoFact K "BEGINS" (3))
    (c_ROLL : CoFact K "ROLL" (4))
    (c_UNROLL : CoFact K "UNROLL" (5))
    (c_PATTERN : CoFact K "PATTERN" (6))
    (c_BACK : CoFact K "BACK" (7))
    (c_GAP : CoFact K "GAP" (8))
    (c_NEED : CoFact K "NEED" (9))
    (c_BEST : CoFact K "BEST" (10))
    (c_BEST_LAST : CoFact K "BEST_LAST" (11))
    (c_FINER : CoFact K "FINER" (12))
    (c_BEST_MOVE : CoFact K "BEST_MOVE" (13))
    (c_SET_MOVE : CoFact K "SET_MOVE" (14))
    (c_FITS : CoFact K "FITS" (15))
    (c_SPARE : CoFact K "SPARE" (16))
    (c_MOST : CoFact K "MOST" (17))
    (c_COULD : CoFact K "COULD" (18))
    (c_ALONE : CoFact K "ALONE" (19))
    (c_LOOK : CoFact K "LOOK" (20))
    (c_HANDED : PySem.W.nsIn K mainGlobals "HANDED" = some (some (.ref u_HANDED)))
    (l_HANDED : K.lookup u_HANDED = some ⟨.type "tuple", od_HANDED, .seq #[.int 1 t0_HANDED, .int 2 t1_HANDED, .int 1 t2_HANDED, .int 2 t3_HANDED, .int 2 t4_HANDED, .int 1 t5_HANDED, .int 1 t6_HANDED, .int 0 t7_HANDED, .int 2 t8_HANDED, .int 0 t9_HANDED, .int 0 t10_HANDED, .int 1 t11_HANDED, .int 1 t12_HANDED, .int 0 t13_HANDED, .int 0 t14_HANDED, .int 0 t15_HANDED, .int 0 t16_HANDED, .int 0 t17_HANDED, .int 2 t18_HANDED, .int 2 t19_HANDED, .int 1 t20_HANDED, .int 0 t21_HANDED] on_HANDED, os_HANDED⟩)
    (n_enumerate : PySem.W.nsIn K mainGlobals "enumerate" = some none)
    (n_len : PySem.W.nsIn K mainGlobals "len" = some none)
    (n_list : PySem.W.nsIn K mainGlobals "list" = some none)
    (n_min : PySem.W.nsIn K mainGlobals "min" = some none)
    (n_range : PySem.W.nsIn K mainGlobals "range" = some none)
    (n_sorted : PySem.W.nsIn K mainGlobals "sorted" = some none)
    (n_sum : PySem.W.nsIn K mainGlobals "sum" = some none)
    (q_goes_into : FnFact K "goes_into" "goes_into" s_goes_into)
    (q_gap_ahead : FnFact K "gap_ahead" "gap_ahead" s_gap_ahead)
    (q_places_left : FnFact K "places_left" "places_left" s_places_left)
    (q_moved_on : FnFact K "moved_on" "moved_on" s_moved_on)
    (q_order_need : FnFact K "order_need" "order_need" s_order_need)
    (q_least_from : FnFact K "least_from" "least_from" s_least_from)
    (q_firsts_of_sets : FnFact K "firsts_of_sets" "firsts_of_sets" s_firsts_of_sets)
    (q_least_need : FnFact K "least_need" "least_need" s_least_need)
    (q_best_first : FnFact K "best_first" "best_first" s_best_first)
    (q_best_order : FnFact K "best_order" "best_order" s_best_order)
    (q_least_with_last : FnFact K "least_with_last" "least_with_last" s_least_with_last)
    (q_best_shift : FnFact K "best_shift" "best_shift" s_best_shift)
    (q_begin : FnFact K "begin" "begin" s_begin)
    (q_is_as_told : FnFact K "is_as_told" "is_as_told" s_is_as_told)
    (q_strip_refusal : FnFact K "strip_refusal" "strip_refusal" s_strip_refusal)
    (q_add_strip : FnFact K "add_strip" "add_strip" s_add_strip)
    (q_add_roll : FnFact K "add_roll" "add_roll" s_add_roll)
    (q_drop_strip : FnFact K "drop_strip" "drop_strip" s_drop_strip)
    (q_drop_roll : FnFact K "drop_roll" "drop_roll" s_drop_roll)
    (q_set_begins : FnFact K "set_begins" "set_begins" s_set_begins)
    (q_set_pattern : FnFact K "set_pattern" "set_pattern" s_set_pattern)
    (q_set_move : FnFact K "set_move" "set_move" s_set_move)
    (q_back : FnFact K "back" "back" s_back)
    (q_spares_of_roll : FnFact K "spares_of_roll" "spares_of_roll" s_spares_of_roll)
    (q_spares_of_rolls : FnFact K "spares_of_rolls" "spares_of_rolls" s_spares_of_rolls)
    (q_way_from : FnFact K "way_from" "way_from" s_way_from)
    (q_first_way : FnFact K "first_way" "first_way" s_first_way)
    (q_loads_of_way : FnFact K "loads_of_way" "loads_of_way" s_loads_of_way)
    (q_strips_of_set : FnFact K "strips_of_set" "strips_of_set" s_strips_of_set)
    (q_largest_set : FnFact K "largest_set" "largest_set" s_largest_set)
    (q_gap : FnFact K "gap" "gap" s_gap)
    (q_need : FnFact K "need" "need" s_need)
    (q_best : FnFact K "best" "best" s_best)
    (q_best_last : FnFact K "best_last" "best_last" s_best_last)
    (q_finer : FnFact K "finer" "finer" s_finer)
    (q_best_move : FnFact K "best_move" "best_move" s_best_move)
    (q_fits : FnFact K "fits" "fits" s_fits)
    (q_spare : FnFact K "spare" "spare" s_spare)
    (q_most : FnFact K "most" "most" s_most)
    (q_could : FnFact K "could" "could" s_could)
    (q_alone : FnFact K "alone" "alone" s_alone)
    (q_look : FnFact K "look" "look" s_look)
    (q_state : FnFact K "state" "state" s_state)
    (q_end_of_call : FnFact K "end_of_call" "end_of_call" s_end_of_call)
    (q_answer_change : FnFact K "answer_change" "answer_change" s_answer_change)
    (q_answer_of_orders : FnFact K "answer_of_orders" "answer_of_orders" s_answer_of_orders)
    (q_answer_of_rolls : FnFact K "answer_of_rolls" "answer_of_rolls" s_answer_of_rolls)
    (q_answer_call : FnFact K "answer_call" "answer_call" s_answer_call)
    (q_answers : FnFact K "answers" "answers" s_answers)
    (t_ns : PySem.W.nsIn K mainGlobals "best_first" = some (some (.ref f_tab)))
    (t_fn : K.lookup f_tab = some ⟨oc_t, od_t, .func (PySem.W.fnOf "best_first" "best_first" (defArgs s_best_first) (defBody s_best_first) (defScope s_best_first) .none kV_t dc_t pm_t an_t (.ref c_tab) ct_t), sl_t⟩)
    (t_cd : K.lookup c_tab = some ⟨ocl_t, ocd_t, .fields vs_t, osl_t⟩)
    (t_11 : vs_t[11]? = some (.ref p_tab)) :
    ∃ A : Ad, Tx A K mg := by
  have q_tab := tab_parts t_ns t_fn t_cd t_11
  obtain ⟨a_Piece_init, d_Piece_init, m_Piece_init, F_Piece_init, b_Piece_init⟩ := q_Piece_init.out (ps := ["self", "long", "begins"]) (fun _ _ _ _ _ _ us hl => match us, hl with | [_, _, _], _ => rfl)
  obtain ⟨a_Carpet_init, d_Carpet_init, m_Carpet_init, F_Carpet_init, b_Carpet_init⟩ := q_Carpet_init.out (ps := ["self"]) (fun _ _ _ _ _ _ us hl => match us, hl with | [_], _ => rfl)
  obtain ⟨a_Carpet_begin_anew, d_Carpet_begin_anew, m_Carpet_begin_anew, F_Carpet_begin_anew, b_Carpet_begin_anew⟩ := q_Carpet_begin_anew.out (ps := ["self", "repeat"]) (fun _ _ _ _ _ _ us hl => match us, hl with | [_, _], _ => rfl)
  obtain ⟨a_Carpet_change, d_Carpet_change, m_Carpet_change, F_Carpet_change, b_Carpet_change⟩ := q_Carpet_change.out (ps := ["self", "repeat", "strips", "rolls"]) (fun _ _ _ _ _ _ us hl => match us, hl with | [_, _, _, _], _ => rfl)
  obtain ⟨a_Carpet_take_back, d_Carpet_take_back, m_Carpet_take_back, F_Carpet_take_back, b_Carpet_take_back⟩ := q_Carpet_take_back.out (ps := ["self"]) (fun _ _ _ _ _ _ us hl => match us, hl with | [_], _ => rfl)
  obtain ⟨a_goes_into, d_goes_into, m_goes_into, F_goes_into, b_goes_into⟩ := q_goes_into.out X G (ps := ["r", "repeat"]) (fun _ _ _ _ _ _ us hl => match us, hl with | [_, _], _ => rfl)
  obtain ⟨a_gap_ahead, d_gap_ahead, m_gap_ahead, F_gap_ahead, b_gap_ahead⟩ := q_gap_ahead.out X G (ps := ["place", "strip", "repeat"]) (fun _ _ _ _ _ _ us hl => match us, hl with | [_, _, _], _ => rfl)
  obtain ⟨a_places_left, d_places_left, m_places_left, F_places_left, b_places_left⟩ := q_places_left.out X G (ps := ["pieces", "repeat"]) (fun _ _ _ _ _ _ us hl => match us, hl with | [_, _], _ => rfl)
  obtain ⟨a_moved_on, d_moved_on, m_moved_on, F_moved_on, b_moved_on⟩ := q_moved_on.out X G (ps := ["pieces", "by", "repeat"]) (fun _ _ _ _ _ _ us hl => match us, hl with | [_, _, _], _ => rfl)
  obtain ⟨a_order_need, d_order_need, m_order_need, F_order_need, b_order_need⟩ := q_order_need.out X G (ps := ["strips", "order", "repeat"]) (fun _ _ _ _ _ _ us hl => match us, hl with | [_, _, _], _ => rfl)
  obtain ⟨a_least_from, d_least_from, m_least_from, F_least_from, b_least_from⟩ := q_least_from.out X G (ps := ["place", "strips", "firsts", "repeat"]) (fun _ _ _ _ _ _ us hl => match us, hl with | [_, _, _, _], _ => rfl)
  obtain ⟨a_firsts_of_sets, d_firsts_of_sets, m_firsts_of_sets, F_firsts_of_sets, b_firsts_of_sets⟩ := q_firsts_of_sets.out X G (ps := ["strips", "repeat"]) (fun _ _ _ _ _ _ us hl => match us, hl with | [_, _], _ => rfl)
  obtain ⟨a_least_need, d_least_need, m_least_need, F_least_need, b_least_need⟩ := q_least_need.out X G (ps := ["strips", "repeat"]) (fun _ _ _ _ _ _ us hl => match us, hl with | [_, _], _ => rfl)
  obtain ⟨a_best_first, d_best_first, m_best_first, F_best_first, b_best_first⟩ := q_best_first.out X G (ps := ["place", "strips", "firsts", "repeat"]) (fun _ _ _ _ _ _ us hl => match us, hl with | [_, _, _, _], _ => rfl)
  obtain ⟨a_best_order, d_best_order, m_best_order, F_best_order, b_best_order⟩ := q_best_order.out X G (ps := ["strips", "repeat"]) (fun _ _ _ _ _ _ us hl => match us, hl with | [_, _], _ => rfl)
  obtain ⟨a_least_with_last, d_least_with_last, m_least_with_last, F_least_with_last, b_least_with_last⟩ := q_least_with_last.out X G (ps := ["strips", "others", "last", "repeat"]) (fun _ _ _ _ _ _ us hl => match us, hl with | [_, _, _, _], _ => rfl)
  obtain ⟨a_best_shift, d_best_shift, m_best_shift, F_best_shift, b_best_shift⟩ := q_best_shift.out X G (ps := ["strips", "repeat"]) (fun _ _ _ _ _ _ us hl => match us, hl with | [_, _], _ => rfl)
  obtain ⟨a_begin, d_begin, m_begin, F_begin, b_begin⟩ := q_begin.out X G (ps := ["carpet", "repeat"]) (fun _ _ _ _ _ _ us hl => match us, hl with | [_, _], _ => rfl)
  obtain ⟨a_is_as_told, d_is_as_told, m_is_as_told, F_is_as_told, b_is_as_told⟩ := q_is_as_told.out X G (ps := ["carpet", "long", "begins", "longest"]) (fun _ _ _ _ _ _ us hl => match us, hl with | [_, _, _, _], _ => rfl)
  obtain ⟨a_strip_refusal, d_strip_refusal, m_strip_refusal, F_strip_refusal, b_strip_refusal⟩ := q_strip_refusal.out X G (ps := ["carpet", "long", "begins"]) (fun _ _ _ _ _ _ us hl => match us, hl with | [_, _, _], _ => rfl)
  obtain ⟨a_add_strip, d_add_strip, m_add_strip, F_add_strip, b_add_strip⟩ := q_add_strip.out X G (ps := ["carpet", "long", "begins"]) (fun _ _ _ _ _ _ us hl => match us, hl with | [_, _, _], _ => rfl)
  obtain ⟨a_add_roll, d_add_roll, m_add_roll, F_add_roll, b_add_roll⟩ := q_add_roll.out X G (ps := ["carpet", "long", "begins"]) (fun _ _ _ _ _ _ us hl => match us, hl with | [_, _, _], _ => rfl)
  obtain ⟨a_drop_strip, d_drop_strip, m_drop_strip, F_drop_strip, b_drop_strip⟩ := q_drop_strip.out X G (ps := ["carpet", "i"]) (fun _ _ _ _ _ _ us hl => match us, hl with | [_, _], _ => rfl)
  obtain ⟨a_drop_roll, d_drop_roll, m_drop_roll, F_drop_roll, b_drop_roll⟩ := q_drop_roll.out X G (ps := ["carpet", "j"]) (fun _ _ _ _ _ _ us hl => match us, hl with | [_, _], _ => rfl)
  obtain ⟨a_set_begins, d_set_begins, m_set_begins, F_set_begins, b_set_begins⟩ := q_set_begins.out X G (ps := ["carpet", "i", "place"]) (fun _ _ _ _ _ _ us hl => match us, hl with | [_, _, _], _ => rfl)
  obtain ⟨a_set_pattern, d_set_pattern, m_set_pattern, F_set_pattern, b_set_pattern⟩ := q_set_pattern.out X G (ps := ["carpet", "repeat"]) (fun _ _ _ _ _ _ us hl => match us, hl with | [_, _], _ => rfl)
  obtain ⟨a_set_move, d_set_move, m_set_move, F_set_move, b_set_move⟩ := q_set_move.out X G (ps := ["carpet"]) (fun _ _ _ _ _ _ us hl => match us, hl with | [_], _ => rfl)
  obtain ⟨a_back, d_back, m_back, F_back, b_back⟩ := q_back.out X G (ps := ["carpet"]) (fun _ _ _ _ _ _ us hl => match us, hl with | [_], _ => rfl)
  obtain ⟨a_spares_of_roll, d_spares_of_roll, m_spares_of_roll, F_spares_of_roll, b_spares_of_roll⟩ := q_spares_of_roll.out X G (ps := ["roll", "strips", "found", "repeat"]) (fun _ _ _ _ _ _ us hl => match us, hl with | [_, _, _, _], _ => rfl)
  obtain ⟨a_spares_of_rolls, d_spares_of_rolls, m_spares_of_rolls, F_spares_of_rolls, b_spares_of_rolls⟩ := q_spares_of_rolls.out X G (ps := ["strips", "rolls", "repeat"]) (fun _ _ _ _ _ _ us hl => match us, hl with | [_, _, _], _ => rfl)
  obtain ⟨a_way_from, d_way_from, m_way_from, F_way_from, b_way_from⟩ := q_way_from.out X G (ps := ["spares", "loads", "left"]) (fun _ _ _ _ _ _ us hl => match us, hl with | [_, _, _], _ => rfl)
  obtain ⟨a_first_way, d_first_way, m_first_way, F_first_way, b_first_way⟩ := q_first_way.out X G (ps := ["spares", "chosen"]) (fun _ _ _ _ _ _ us hl => match us, hl with | [_, _], _ => rfl)
  obtain ⟨a_loads_of_way, d_loads_of_way, m_loads_of_way, F_loads_of_way, b_loads_of_way⟩ := q_loads_of_way.out X G (ps := ["way", "count"]) (fun _ _ _ _ _ _ us hl => match us, hl with | [_, _], _ => rfl)
  obtain ⟨a_strips_of_set, d_strips_of_set, m_strips_of_set, F_strips_of_set, b_strips_of_set⟩ := q_strips_of_set.out X G (ps := ["number", "count"]) (fun _ _ _ _ _ _ us hl => match us, hl with | [_, _], _ => rfl)
  obtain ⟨a_largest_set, d_largest_set, m_largest_set, F_largest_set, b_largest_set⟩ := q_largest_set.out X G (ps := ["spares", "count"]) (fun _ _ _ _ _ _ us hl => match us, hl with | [_, _], _ => rfl)
  obtain ⟨a_gap, d_gap, m_gap, F_gap, b_gap⟩ := q_gap.out X G (ps := ["carpet", "i", "j"]) (fun _ _ _ _ _ _ us hl => match us, hl with | [_, _, _], _ => rfl)
  obtain ⟨a_need, d_need, m_need, F_need, b_need⟩ := q_need.out X G (ps := ["carpet", "order"]) (fun _ _ _ _ _ _ us hl => match us, hl with | [_, _], _ => rfl)
  obtain ⟨a_best, d_best, m_best, F_best, b_best⟩ := q_best.out X G (ps := ["carpet"]) (fun _ _ _ _ _ _ us hl => match us, hl with | [_], _ => rfl)
  obtain ⟨a_best_last, d_best_last, m_best_last, F_best_last, b_best_last⟩ := q_best_last.out X G (ps := ["carpet", "i"]) (fun _ _ _ _ _ _ us hl => match us, hl with | [_, _], _ => rfl)
  obtain ⟨a_finer, d_finer, m_finer, F_finer, b_finer⟩ := q_finer.out X G (ps := ["carpet", "r"]) (fun _ _ _ _ _ _ us hl => match us, hl with | [_, _], _ => rfl)
  obtain ⟨a_best_move, d_best_move, m_best_move, F_best_move, b_best_move⟩ := q_best_move.out X G (ps := ["carpet"]) (fun _ _ _ _ _ _ us hl => match us, hl with | [_], _ => rfl)
  obtain ⟨a_fits, d_fits, m_fits, F_fits, b_fits⟩ := q_fits.out X G (ps := ["carpet"]) (fun _ _ _ _ _ _ us hl => match us, hl with | [_], _ => rfl)
  obtain ⟨a_spare, d_spare, m_spare, F_spare, b_spare⟩ := q_spare.out X G (ps := ["carpet"]) (fun _ _ _ _ _ _ us hl => match us, hl with | [_], _ => rfl)
  obtain ⟨a_most, d_most, m_most, F_most, b_most⟩ := q_most.out X G (ps := ["carpet"]) (fun _ _ _ _ _ _ us hl => match us, hl with | [_], _ => rfl)
  obtain ⟨a_could, d_could, m_could, F_could, b_could⟩ := q_could.out X G (ps := ["carpet", "long", "begins"]) (fun _ _ _ _ _ _ us hl => match us, hl with | [_, _, _], _ => rfl)
  obtain ⟨a_alone, d_alone, m_alone, F_alone, b_alone⟩ := q_alone.out X G (ps := ["carpet", "i", "j"]) (fun _ _ _ _ _ _ us hl => match us, hl with | [_, _, _], _ => rfl)
  obtain ⟨a_look, d_look, m_look, F_look, b_look⟩ := q_look.out X G (ps := ["carpet", "i"]) (fun _ _ _ _ _ _ us hl => match us, hl with | [_, _], _ => rfl)
  obtain ⟨a_state, d_state, m_state, F_state, b_state⟩ := q_state.out X G (ps := ["carpet"]) (fun _ _ _ _ _ _ us hl => match us, hl with | [_], _ => rfl)
  obtain ⟨a_end_of_call, d_end_of_call, m_end_of_call, F_end_of_call, b_end_of_call⟩ := q_end_of_call.out X G (ps := ["calls", "at"]) (fun _ _ _ _ _ _ us hl => match us, hl with | [_, _], _ => rfl)
  obtain ⟨a_answer_change, d_answer_change, m_answer_change, F_answer_change, b_answer_change⟩ := q_answer_change.out X G (ps := ["carpet", "call", "handed"]) (fun _ _ _ _ _ _ us hl => match us, hl with | [_, _, _], _ => rfl)
  obtain ⟨a_answer_of_orders, d_answer_of_orders, m_answer_of_orders, F_answer_of_orders, b_answer_of_orders⟩ := q_answer_of_orders.out X G (ps := ["carpet", "call", "handed"]) (fun _ _ _ _ _ _ us hl => match us, hl with | [_, _, _], _ => rfl)
  obtain ⟨a_answer_of_rolls, d_answer_of_rolls, m_answer_of_rolls, F_answer_of_rolls, b_answer_of_rolls⟩ := q_answer_of_rolls.out X G (ps := ["carpet", "call", "handed"]) (fun _ _ _ _ _ _ us hl => match us, hl with | [_, _, _], _ => rfl)
  obtain ⟨a_answer_call, d_answer_call, m_answer_call, F_answer_call, b_answer_call⟩ := q_answer_call.out X G (ps := ["carpet", "call", "handed"]) (fun _ _ _ _ _ _ us hl => match us, hl with | [_, _, _], _ => rfl)
  obtain ⟨a_answers, d_answers, m_answers, F_answers, b_answers⟩ := q_answers.out X G (ps := ["calls"]) (fun _ _ _ _ _ _ us hl => match us, hl with | [_], _ => rfl)
  obtain ⟨g_Piece, pg_Piece, hd_Piece, po_Piece, sa_Piece, mk_Piece, kp_Piece⟩ := q_Piece
  obtain ⟨g_Carpet, pg_Carpet, hd_Carpet, po_Carpet, sa_Carpet, mk_Carpet, kp_Carpet⟩ := q_Carpet
  have ne_Piece_Carpet : C_Piece ≠ C_Carpet := fun e => by have q := m_Carpet_begin_anew.at_; first | (rw [← e, x_Piece_Carpet] at q; cases q) | (rw [e, x_Piece_Carpet] at q; cases q)
  exact ⟨⟨C_Piece, C_Carpet, u_HANDED, a_Piece_init, d_Piece_init, a_Carpet_init, d_Carpet_init, a_Carpet_begin_anew, d_Carpet_begin_anew, a_Carpet_change, d_Carpet_change, a_Carpet_take_back, d_Carpet_take_back, a_goes_into, d_goes_into, a_gap_ahead, d_gap_ahead, a_places_left, d_places_left, a_moved_on, d_moved_on, a_order_need, d_order_need, a_least_from, d_least_from, a_firsts_of_sets, d_firsts_of_sets, a_least_need, d_least_need, a_best_first, d_best_first, a_best_order, d_best_order, a_least_with_last, d_least_with_last, a_best_shift, d_best_shift, a_begin, d_begin, a_is_as_told, d_is_as_told, a_strip_refusal, d_strip_refusal, a_add_strip, d_add_strip, a_add_roll, d_add_roll, a_drop_strip, d_drop_strip, a_drop_roll, d_drop_roll, a_set_begins, d_set_begins, a_set_pattern, d_set_pattern, a_set_move, d_set_move, a_back, d_back, a_spares_of_roll, d_spares_of_roll, a_spares_of_rolls, d_spares_of_rolls, a_way_from, d_way_from, a_first_way, d_first_way, a_loads_of_way, d_loads_of_way, a_strips_of_set, d_strips_of_set, a_largest_set, d_largest_set, a_gap, d_gap, a_need, d_need, a_best, d_best, a_best_last, d_best_last, a_finer, d_finer, a_best_move, d_best_move, a_fits, d_fits, a_spare, d_spare, a_most, d_most, a_could, d_could, a_alone, d_alone, a_look, d_look, a_state, d_state, a_end_of_call, d_end_of_call, a_answer_change, d_answer_change, a_answer_of_orders, d_answer_of_orders, a_answer_of_rolls, d_answer_of_rolls, a_answer_call, d_answer_call, a_answers, d_answers, c_tab, p_tab⟩, {
    c_MOST_TAKEN_BACK := c_MOST_TAKEN_BACK.out X G
    c_NO_SUCH := c_NO_SUCH.out X G
    c_NO_ROLLS := c_NO_ROLLS.out X G
    c_NO_MOVE := c_NO_MOVE.out X G
    c_NOT_AS_TOLD := c_NOT_AS_TOLD.out X G
    c_NO_ROOM := c_NO_ROOM.out X G
    c_NO_FIT := c_NO_FIT.out X G
    c_NOT_BEGUN := c_NOT_BEGUN.out X G
    c_LONGEST_REPEAT := c_LONGEST_REPEAT.out X G
    c_LONGEST_STRIP := c_LONGEST_STRIP.out X G
    c_LONGEST_ROLL := c_LONGEST_ROLL.out X G
    c_MOST_STRIPS := c_MOST_STRIPS.out X G
    c_MOST_ROLLS := c_MOST_ROLLS.out X G
    c_BEGIN := c_BEGIN.out X G
    c_STRIP := c_STRIP.out X G
    c_DROP := c_DROP.out X G
    c_BEGINS := c_BEGINS.out X G
    c_ROLL := c_ROLL.out X G
    c_UNROLL := c_UNROLL.out X G
    c_PATTERN := c_PATTERN.out X G
    c_BACK := c_BACK.out X G
    c_GAP := c_GAP.out X G
    c_NEED := c_NEED.out X G
    c_BEST := c_BEST.out X G
    c_BEST_LAST := c_BEST_LAST.out X G
    c_FINER := c_FINER.out X G
    c_BEST_MOVE := c_BEST_MOVE.out X G
    c_SET_MOVE := c_SET_MOVE.out X G
    c_FITS := c_FITS.out X G
    c_SPARE := c_SPARE.out X G
    c_MOST := c_MOST.out X G
    c_COULD := c_COULD.out X G
    c_ALONE := c_ALONE.out X G
    c_LOOK := c_LOOK.out X G
    c_HANDED := PySem.W.mg_of X G c_HANDED
    t_HANDED := fun H => .inr ⟨_, _, _, l_HANDED, rfl, rfl, (by show 22 ≤ sizeLine; decide), (.cons ⟨_, rfl⟩ (.cons ⟨_, rfl⟩ (.cons ⟨_, rfl⟩ (.cons ⟨_, rfl⟩ (.cons ⟨_, rfl⟩ (.cons ⟨_, rfl⟩ (.cons ⟨_, rfl⟩ (.cons ⟨_, rfl⟩ (.cons ⟨_, rfl⟩ (.cons ⟨_, rfl⟩ (.cons ⟨_, rfl⟩ (.cons ⟨_, rfl⟩ (.cons ⟨_, rfl⟩ (.cons ⟨_, rfl⟩ (.cons ⟨_, rfl⟩ (.cons ⟨_, rfl⟩ (.cons ⟨_, rfl⟩ (.cons ⟨_, rfl⟩ (.cons ⟨_, rfl⟩ (.cons ⟨_, rfl⟩ (.cons ⟨_, rfl⟩ (.cons ⟨_, rfl⟩ .nil))))))))))))))))))))))⟩
    n_enumerate := PySem.W.mg_none_of X G n_enumerate
    n_len := PySem.W.mg_none_of X G n_len
    n_list := PySem.W.mg_none_of X G n_list
    n_min := PySem.W.mg_none_of X G n_min
    n_range := PySem.W.mg_none_of X G n_range
    n_sorted := PySem.W.mg_none_of X G n_sorted
    n_sum := PySem.W.mg_none_of X G n_sum
    cl_Piece := ⟨pg_Piece, hd_Piece, po_Piece, sa_Piece⟩
    g_Piece := PySem.W.mg_of X G g_Piece
    mk_Piece := ⟨mk_Piece, m_Piece_init.at_, m_Piece_init.fn, kp_Piece⟩
    f_Piece_long := n_Piece_long
    f_Piece_begins := n_Piece_begins
    cl_Carpet := ⟨pg_Carpet, hd_Carpet, po_Carpet, sa_Carpet⟩
    g_Carpet := PySem.W.mg_of X G g_Carpet
    mk_Carpet := ⟨mk_Carpet, m_Carpet_init.at_, m_Carpet_init.fn, kp_Carpet⟩
    f_Carpet_repeat := n_Carpet_repeat
    f_Carpet_strips := n_Carpet_strips
    f_Carpet_rolls := n_Carpet_rolls
    f_Carpet_past := n_Carpet_past
    me_Carpet_begin_anew := m_Carpet_begin_anew
    me_Carpet_change := m_Carpet_change
    me_Carpet_take_back := m_Carpet_take_back
    ne_Piece_Carpet := ne_Piece_Carpet
    F_Piece_init := F_Piece_init
    b_Piece_init := b_Piece_init
    F_Carpet_init := F_Carpet_init
    b_Carpet_init := b_Carpet_init
    F_Carpet_begin_anew := F_Carpet_begin_anew
    b_Carpet_begin_anew := b_Carpet_begin_anew
    F_Carpet_change := F_Carpet_change
    b_Carpet_change := b_Carpet_change
    F_Carpet_take_back := F_Carpet_take_back
    b_Carpet_take_back := b_Carpet_take_back
    F_goes_into := F_goes_into
    b_goes_into := b_goes_into
    m_goes_into := m_goes_into
    F_gap_ahead := F_gap_ahead
    b_gap_ahead := b_gap_ahead
    m_gap_ahead := m_gap_ahead
    F_places_left := F_places_left
    b_places_left := b_places_left
    m_places_left := m_places_left
    F_moved_on := F_moved_on
    b_moved_on := b_moved_on
    m_moved_on := m_moved_on
    F_order_need := F_order_need
    b_order_need := b_order_need
    m_order_need := m_order_need
    F_least_from := F_least_from
    b_least_from := b_least_from
    m_least_from := m_least_from
    F_firsts_of_sets := F_firsts_of_sets
    b_firsts_of_sets := b_firsts_of_sets
    m_firsts_of_sets := m_firsts_of_sets
    F_least_need := F_least_need
    b_least_need := b_least_need
    m_least_need := m_least_need
    F_best_first := F_best_first
    b_best_first := b_best_first
    m_best_first := m_best_first
    F_best_order := F_best_order
    b_best_order := b_best_order
    m_best_order := m_best_order
    F_least_with_last := F_least_with_last
    b_least_with_last := b_least_with_last
    m_least_with_last := m_least_with_last
    F_best_shift := F_best_shift
    b_best_shift := b_best_shift
    m_best_shift := m_best_shift
    F_begin := F_begin
    b_begin := b_begin
    m_begin := m_begin
    F_is_as_told := F_is_as_told
    b_is_as_told := b_is_as_told
    m_is_as_told := m_is_as_told
    F_strip_refusal := F_strip_refusal
    b_strip_refusal := b_strip_refusal
    m_strip_refusal := m_strip_refusal
    F_add_strip := F_add_strip
    b_add_strip := b_add_strip
    m_add_strip := m_add_strip
    F_add_roll := F_add_roll
    b_add_roll := b_add_roll
    m_add_roll := m_add_roll
    F_drop_strip := F_drop_strip
    b_drop_strip := b_drop_strip
    m_drop_strip := m_drop_strip
    F_drop_roll := F_drop_roll
    b_drop_roll := b_drop_roll
    m_drop_roll := m_drop_roll
    F_set_begins := F_set_begins
    b_set_begins := b_set_begins
    m_set_begins := m_set_begins
    F_set_pattern := F_set_pattern
    b_set_pattern := b_set_pattern
    m_set_pattern := m_set_pattern
    F_set_move := F_set_move
    b_set_move := b_set_move
    m_set_move := m_set_move
    F_back := F_back
    b_back := b_back
    m_back := m_back
    F_spares_of_roll := F_spares_of_roll
    b_spares_of_roll := b_spares_of_roll
    m_spares_of_roll := m_spares_of_roll
    F_spares_of_rolls := F_spares_of_rolls
    b_spares_of_rolls := b_spares_of_rolls
    m_spares_of_rolls := m_spares_of_rolls
    F_way_from := F_way_from
    b_way_from := b_way_from
    m_way_from := m_way_from
    F_first_way := F_first_way
    b_first_way := b_first_way
    m_first_way := m_first_way
    F_loads_of_way := F_loads_of_way
    b_loads_of_way := b_loads_of_way
    m_loads_of_way := m_loads_of_way
    F_strips_of_set := F_strips_of_set
    b_strips_of_set := b_strips_of_set
    m_strips_of_set := m_strips_of_set
    F_largest_set := F_largest_set
    b_largest_set := b_largest_set
    m_largest_set := m_largest_set
    F_gap := F_gap
    b_gap := b_gap
    m_gap := m_gap
    F_need := F_need
    b_need := b_need
    m_need := m_need
    F_best := F_best
    b_best := b_best
    m_best := m_best
    F_best_last := F_best_last
    b_best_last := b_best_last
    m_best_last := m_best_last
    F_finer := F_finer
    b_finer := b_finer
    m_finer := m_finer
    F_best_move := F_best_move
    b_best_move := b_best_move
    m_best_move := m_best_move
    F_fits := F_fits
    b_fits := b_fits
    m_fits := m_fits
    F_spare := F_spare
    b_spare := b_spare
    m_spare := m_spare
    F_most := F_most
    b_most := b_most
    m_most := m_most
    F_could := F_could
    b_could := b_could
    m_could := m_could
    F_alone := F_alone
    b_alone := b_alone
    m_alone := m_alone
    F_look := F_look
    b_look := b_look
    m_look := m_look
    F_state := F_state
    b_state := b_state
    m_state := m_state
    F_end_of_call := F_end_of_call
    b_end_of_call := b_end_of_call
    m_end_of_call := m_end_of_call
    F_answer_change := F_answer_change
    b_answer_change := b_answer_change
    m_answer_change := m_answer_change
    F_answer_of_orders := F_answer_of_orders
    b_answer_of_orders := b_answer_of_orders
    m_answer_of_orders := m_answer_of_orders
    F_answer_of_rolls := F_answer_of_rolls
    b_answer_of_rolls := b_answer_of_rolls
    m_answer_of_rolls := m_answer_of_rolls
    F_answer_call := F_answer_call
    b_answer_call := b_answer_call
    m_answer_call := m_answer_call
    F_answers := F_answers
    b_answers := b_answers
    m_answers := m_answers
    tab := q_tab
    tcd := tab_code G X q_tab m_best_first F_best_first }⟩

theorem top_mk {P : Program} {w : World} {K : PySem.W.Frag} {mg : Str → Option Value} {fa : Addr} (hfa : mg "answers" = some (.ref fa)) (E : ∃ A : Ad, Tx A K mg) :
    ∃ c T : Addr, PySem.W.tabIn K "best_first" = some (c, T) ∧ ∃ fd : FuncData, (∀ (s : Shared) (us : List Value), us.length = (["calls"] : List Str).length → BindsTo s fd ⟨us, []⟩ ((["calls"] : List Str).zip us)) ∧ ∀ base : Heap, K.In base → base.Ns mainGlobals mg → PySem.W.CodeHd base c T → BMain mg base → FnOk P w K mg base CX0 14 fa fd ["calls"] (spAns K) := by
  obtain ⟨A, T⟩ := E
  have e := hfa.symm.trans T.m_answers
  cases e
  refine ⟨A.t_c, A.t_P, T.tab, A.d_answers, fun s us hu => ?_, fun base _ _ hC hB => ok_answers T ⟨hC, hB⟩⟩
  obtain ⟨oc, od, kV, doc, pm, an, cdv, ct, osl, e, lk, hcd⟩ := T.F_answers.ex
  rw [e]
  match us, hu with
  | [_], _ => exact .of_eq rfl
end PM
open PySem PySem.W PyProof.Rows
set_option maxRecDepth 100000 in
set_option maxHeartbeats 0 in
theorem PySem.Challenge.cw_patternmeets_s01_answers_holds : PySem.Challenge.rw_patternmeets_s01_answers.Holds := by
  w_on; k_headS; (case hw => exact ⟨[.list [.int 7]], by decide +kernel, by decide +kernel⟩)
  k_fillS
  refine L2.walk_specT (r := PySem.Challenge.rw_patternmeets_s01_answers) (k := 14) (CX := L2.CX0) (ps := ["calls"]) (sp := PM.spAns) "best_first" (by decide +kernel) rfl rfl ⟨rfl, by decide, by decide⟩ ?hx ?hnt (fun w h Y => PySem.W.kIn_of Y) ?F ?S (fun _ _ _ _ z => z)
  case hx => decide +kernel
  case hnt => exact fun p => rfl
  case F =>
    intro w mg fa h Y KX G hmg
    refine PM.top_mk hmg ?_
    refine' PM.tx_mk KX G ?q_Piece ?n_Piece_long ?n_Piece_begins ?q_Piece_init ?q_Carpet ?n_Carpet_repeat ?n_Carpet_strips ?n_Carpet_rolls ?n_Carpet_past ?q_Carpet_init ?q_Carpet_begin_anew ?q_Carpet_change ?q_Carpet_take_back ?x_Piece_Carpet ?c_MOST_TAKEN_BACK ?c_NO_SUCH ?c_NO_ROLLS ?c_NO_MOVE ?c_NOT_AS_TOLD ?c_NO_ROOM ?c_NO_FIT ?c_NOT_BEGUN ?c_LONGEST_REPEAT ?c_LONGEST_STRIP ?c_LONGEST_ROLL ?c_MOST_STRIPS ?c_MOST_ROLLS ?c_BEGIN ?c_STRIP ?c_DROP ?c_BEGINS ?c_ROLL ?c_UNROLL ?c_PATTERN ?c_BACK ?c_GAP ?c_NEED ?c_BEST ?c_BEST_LAST ?c_FINER ?c_BEST_MOVE ?c_SET_MOVE ?c_FITS ?c_SPARE ?c_MOST ?c_COULD ?c_ALONE ?c_LOOK ?c_HANDED ?l_HANDED ?n_enumerate ?n_len ?n_list ?n_min ?n_range ?n_sorted ?n_sum ?q_goes_into ?q_gap_ahead ?q_places_left ?q_moved_on ?q_order_need ?q_least_from ?q_firsts_of_sets ?q_least_need ?q_best_first ?q_best_order ?q_least_with_last ?q_best_shift ?q_begin ?q_is_as_told ?q_strip_refusal ?q_add_strip ?q_add_roll ?q_drop_strip ?q_drop_roll ?q_set_begins ?q_set_pattern ?q_set_move ?q_back ?q_spares_of_roll ?q_spares_of_rolls ?q_way_from ?q_first_way ?q_loads_of_way ?q_strips_of_set ?q_largest_set ?q_gap ?q_need ?q_best ?q_best_last ?q_finer ?q_best_move ?q_fits ?q_spare ?q_most ?q_could ?q_alone ?q_look ?q_state ?q_end_of_call ?q_answer_change ?q_answer_of_orders ?q_answer_of_rolls ?q_answer_call ?q_answers ?t_ns ?t_fn ?t_cd ?t_11
    (case q_Piece => refine' ⟨?q_Piece_0, ?q_Piece_1, ?q_Piece_2, ?q_Piece_3, ?q_Piece_4, ?q_Piece_5, ?q_Piece_6⟩ <;> k_is)
    (case n_Piece_long => k_is)
    (case n_Piece_begins => k_is)
    (case q_Piece_init => refine' PM.MeFact.mk ?q_Piece_init_0 ?q_Piece_init_1 ?q_Piece_init_2 ?q_Piece_init_3 ?q_Piece_init_4; (case q_Piece_init_0 => k_is); (case q_Piece_init_1 => k_is); (case q_Piece_init_2 => k_is); (case q_Piece_init_3 => k_is); (case q_Piece_init_4 => k_is))
    (case q_Carpet => refine' ⟨?q_Carpet_0, ?q_Carpet_1, ?q_Carpet_2, ?q_Carpet_3, ?q_Carpet_4, ?q_Carpet_5, ?q_Carpet_6⟩ <;> k_is)
    (case n_Carpet_repeat => k_is)
    (case n_Carpet_strips => k_is)
    (case n_Carpet_rolls => k_is)
    (case n_Carpet_past => k_is)
    (case q_Carpet_init => refine' PM.MeFact.mk ?q_Carpet_init_0 ?q_Carpet_init_1 ?q_Carpet_init_2 ?q_Carpet_init_3 ?q_Carpet_init_4; (case q_Carpet_init_0 => k_is); (case q_Carpet_init_1 => k_is); (case q_Carpet_init_2 => k_is); (case q_Carpet_init_3 => k_is); (case q_Carpet_init_4 => k_is))
    (case q_Carpet_begin_anew => refine' PM.MeFact.mk ?q_Carpet_begin_anew_0 ?q_Carpet_begin_anew_1 ?q_Carpet_begin_anew_2 ?q_Carpet_begin_anew_3 ?q_Carpet_begin_anew_4; (case q_Carpet_begin_anew_0 => k_is); (case q_Carpet_begin_anew_1 => k_is); (case q_Carpet_begin_anew_2 => k_is); (case q_Carpet_begin_anew_3 => k_is); (case q_Carpet_begin_anew_4 => k_is))
    (case q_Carpet_change => refine' PM.MeFact.mk ?q_Carpet_change_0 ?q_Carpet_change_1 ?q_Carpet_change_2 ?q_Carpet_change_3 ?q_Carpet_change_4; (case q_Carpet_change_0 => k_is); (case q_Carpet_change_1 => k_is); (case q_Carpet_change_2 => k_is); (case q_Carpet_change_3 => k_is); (case q_Carpet_change_4 => k_is))
    (case q_Carpet_take_back => refine' PM.MeFact.mk ?q_Carpet_take_back_0 ?q_Carpet_take_back_1 ?q_Carpet_take_back_2 ?q_Carpet_take_back_3 ?q_Carpet_take_back_4; (case q_Carpet_take_back_0 => k_is); (case q_Carpet_take_back_1 => k_is); (case q_Carpet_take_back_2 => k_is); (case q_Carpet_take_back_3 => k_is); (case q_Carpet_take_back_4 => k_is))
    (case x_Piece_Carpet => k_is)
    (case c_MOST_TAKEN_BACK => refine' PM.CoFact.mk ?c_MOST_TAKEN_BACK_0; (case c_MOST_TAKEN_BACK_0 => k_is))
    (case c_NO_SUCH => refine' PM.CoFact.mk ?c_NO_SUCH_0; (case c_NO_SUCH_0 => k_is))
    (case c_NO_ROLLS => refine' PM.CoFact.mk ?c_NO_ROLLS_0; (case c_NO_ROLLS_0 => k_is))
    (case c_NO_MOVE => refine' PM.CoFact.mk ?c_NO_MOVE_0; (case c_NO_MOVE_0 => k_is))
    (case c_NOT_AS_TOLD => refine' PM.CoFact.mk ?c_NOT_AS_TOLD_0; (case c_NOT_AS_TOLD_0 => k_is))
    (case c_NO_ROOM => refine' PM.CoFact.mk ?c_NO_ROOM_0; (case c_NO_ROOM_0 => k_is))
    (case c_NO_FIT => refine' PM.CoFact.mk ?c_NO_FIT_0; (case c_NO_FIT_0 => k_is))
    (case c_NOT_BEGUN => refine' PM.CoFact.mk ?c_NOT_BEGUN_0; (case c_NOT_BEGUN_0 => k_is))
    (case c_LONGEST_REPEAT => refine' PM.CoFact.mk ?c_LONGEST_REPEAT_0; (case c_LONGEST_REPEAT_0 => k_is))
    (case c_LONGEST_STRIP => refine' PM.CoFact.mk ?c_LONGEST_STRIP_0; (case c_LONGEST_STRIP_0 => k_is))
    (case c_LONGEST_ROLL => refine' PM.CoFact.mk ?c_LONGEST_ROLL_0; (case c_LONGEST_ROLL_0 => k_is))
    (case c_MOST_STRIPS => refine' PM.CoFact.mk ?c_MOST_STRIPS_0; (case c_MOST_STRIPS_0 => k_is))
    (case c_MOST_ROLLS => refine' PM.CoFact.mk ?c_MOST_ROLLS_0; (case c_MOST_ROLLS_0 => k_is))
    (case c_BEGIN => refine' PM.CoFact.mk ?c_BEGIN_0; (case c_BEGIN_0 => k_is))
    (case c_STRIP => refine' PM.CoFact.mk ?c_STRIP_0; (case c_STRIP_0 => k_is))
    (case c_DROP => refine' PM.CoFact.mk ?c_DROP_0; (case c_DROP_0 => k_is))
    (case c_BEGINS => refine' PM.CoFact.mk ?c_BEGINS_0; (case c_BEGINS_0 => k_is))
    (case c_ROLL => refine' PM.CoFact.mk ?c_ROLL_0; (case c_ROLL_0 => k_is))
    (case c_UNROLL => refine' PM.CoFact.mk ?c_UNROLL_0; (case c_UNROLL_0 => k_is))
    (case c_PATTERN => refine' PM.CoFact.mk ?c_PATTERN_0; (case c_PATTERN_0 => k_is))
    (case c_BACK => refine' PM.CoFact.mk ?c_BACK_0; (case c_BACK_0 => k_is))
    (case c_GAP => refine' PM.CoFact.mk ?c_GAP_0; (case c_GAP_0 => k_is))
    (case c_NEED => refine' PM.CoFact.mk ?c_NEED_0; (case c_NEED_0 => k_is))
    (case c_BEST => refine' PM.CoFact.mk ?c_BEST_0; (case c_BEST_0 => k_is))
    (case c_BEST_LAST => refine' PM.CoFact.mk ?c_BEST_LAST_0; (case c_BEST_LAST_0 => k_is))
    (case c_FINER => refine' PM.CoFact.mk ?c_FINER_0; (case c_FINER_0 => k_is))
    (case c_BEST_MOVE => refine' PM.CoFact.mk ?c_BEST_MOVE_0; (case c_BEST_MOVE_0 => k_is))
    (case c_SET_MOVE => refine' PM.CoFact.mk ?c_SET_MOVE_0; (case c_SET_MOVE_0 => k_is))
    (case c_FITS => refine' PM.CoFact.mk ?c_FITS_0; (case c_FITS_0 => k_is))
    (case c_SPARE => refine' PM.CoFact.mk ?c_SPARE_0; (case c_SPARE_0 => k_is))
    (case c_MOST => refine' PM.CoFact.mk ?c_MOST_0; (case c_MOST_0 => k_is))
    (case c_COULD => refine' PM.CoFact.mk ?c_COULD_0; (case c_COULD_0 => k_is))
    (case c_ALONE => refine' PM.CoFact.mk ?c_ALONE_0; (case c_ALONE_0 => k_is))
    (case c_LOOK => refine' PM.CoFact.mk ?c_LOOK_0; (case c_LOOK_0 => k_is))
    (case c_HANDED => k_is)
    (case l_HANDED => k_is)
    (case n_enumerate => k_is)
    (case n_len => k_is)
    (case n_list => k_is)
    (case n_min => k_is)
    (case n_range => k_is)
    (case n_sorted => k_is)
    (case n_sum => k_is)
    (case q_goes_into => refine' PM.FnFact.mk ?q_goes_into_0 ?q_goes_into_1 ?q_goes_into_2 ?q_goes_into_3; (case q_goes_into_0 => k_is); (case q_goes_into_1 => k_is); (case q_goes_into_2 => k_is); (case q_goes_into_3 => k_is))
    (case q_gap_ahead => refine' PM.FnFact.mk ?q_gap_ahead_0 ?q_gap_ahead_1 ?q_gap_ahead_2 ?q_gap_ahead_3; (case q_gap_ahead_0 => k_is); (case q_gap_ahead_1 => k_is); (case q_gap_ahead_2 => k_is); (case q_gap_ahead_3 => k_is))
    (case q_places_left => refine' PM.FnFact.mk ?q_places_left_0 ?q_places_left_1 ?q_places_left_2 ?q_places_left_3; (case q_places_left_0 => k_is); (case q_places_left_1 => k_is); (case q_places_left_2 => k_is); (case q_places_left_3 => k_is))
    (case q_moved_on => refine' PM.FnFact.mk ?q_moved_on_0 ?q_moved_on_1 ?q_moved_on_2 ?q_moved_on_3; (case q_moved_on_0 => k_is); (case q_moved_on_1 => k_is); (case q_moved_on_2 => k_is); (case q_moved_on_3 => k_is))
    (case q_order_need => refine' PM.FnFact.mk ?q_order_need_0 ?q_order_need_1 ?q_order_need_2 ?q_order_need_3; (case q_order_need_0 => k_is); (case q_order_need_1 => k_is); (case q_order_need_2 => k_is); (case q_order_need_3 => k_is))
    (case q_least_from => refine' PM.FnFact.mk ?q_least_from_0 ?q_least_from_1 ?q_least_from_2 ?q_least_from_3; (case q_least_from_0 => k_is); (case q_least_from_1 => k_is); (case q_least_from_2 => k_is); (case q_least_from_3 => k_is))
    (case q_firsts_of_sets => refine' PM.FnFact.mk ?q_firsts_of_sets_0 ?q_firsts_of_sets_1 ?q_firsts_of_sets_2 ?q_firsts_of_sets_3; (case q_firsts_of_sets_0 => k_is); (case q_firsts_of_sets_1 => k_is); (case q_firsts_of_sets_2 => k_is); (case q_firsts_of_sets_3 => k_is))
    (case q_least_need => refine' PM.FnFact.mk ?q_least_need_0 ?q_least_need_1 ?q_least_need_2 ?q_least_need_3; (case q_least_need_0 => k_is); (case q_least_need_1 => k_is); (case q_least_need_2 => k_is); (case q_least_need_3 => k_is))
    (case q_best_first => refine' PM.FnFact.mk ?q_best_first_0 ?q_best_first_1 ?q_best_first_2 ?q_best_first_3; (case q_best_first_0 => k_is); (case q_best_first_1 => k_is); (case q_best_first_2 => k_is); (case q_best_first_3 => k_is))
    (case q_best_order => refine' PM.FnFact.mk ?q_best_order_0 ?q_best_order_1 ?q_best_order_2 ?q_best_order_3; (case q_best_order_0 => k_is); (case q_best_order_1 => k_is); (case q_best_order_2 => k_is); (case q_best_order_3 => k_is))
    (case q_least_with_last => refine' PM.FnFact.mk ?q_least_with_last_0 ?q_least_with_last_1 ?q_least_with_last_2 ?q_least_with_last_3; (case q_least_with_last_0 => k_is); (case q_least_with_last_1 => k_is); (case q_least_with_last_2 => k_is); (case q_least_with_last_3 => k_is))
    (case q_best_shift => refine' PM.FnFact.mk ?q_best_shift_0 ?q_best_shift_1 ?q_best_shift_2 ?q_best_shift_3; (case q_best_shift_0 => k_is); (case q_best_shift_1 => k_is); (case q_best_shift_2 => k_is); (case q_best_shift_3 => k_is))
    (case q_begin => refine' PM.FnFact.mk ?q_begin_0 ?q_begin_1 ?q_begin_2 ?q_begin_3; (case q_begin_0 => k_is); (case q_begin_1 => k_is); (case q_begin_2 => k_is); (case q_begin_3 => k_is))
    (case q_is_as_told => refine' PM.FnFact.mk ?q_is_as_told_0 ?q_is_as_told_1 ?q_is_as_told_2 ?q_is_as_told_3; (case q_is_as_told_0 => k_is); (case q_is_as_told_1 => k_is); (case q_is_as_told_2 => k_is); (case q_is_as_told_3 => k_is))
    (case q_strip_refusal => refine' PM.FnFact.mk ?q_strip_refusal_0 ?q_strip_refusal_1 ?q_strip_refusal_2 ?q_strip_refusal_3; (case q_strip_refusal_0 => k_is); (case q_strip_refusal_1 => k_is); (case q_strip_refusal_2 => k_is); (case q_strip_refusal_3 => k_is))
    (case q_add_strip => refine' PM.FnFact.mk ?q_add_strip_0 ?q_add_strip_1 ?q_add_strip_2 ?q_add_strip_3; (case q_add_strip_0 => k_is); (case q_add_strip_1 => k_is); (case q_add_strip_2 => k_is); (case q_add_strip_3 => k_is))
    (case q_add_roll => refine' PM.FnFact.mk ?q_add_roll_0 ?q_add_roll_1 ?q_add_roll_2 ?q_add_roll_3; (case q_add_roll_0 => k_is); (case q_add_roll_1 => k_is); (case q_add_roll_2 => k_is); (case q_add_roll_3 => k_is))
    (case q_drop_strip => refine' PM.FnFact.mk ?q_drop_strip_0 ?q_drop_strip_1 ?q_drop_strip_2 ?q_drop_strip_3; (case q_drop_strip_0 => k_is); (case q_drop_strip_1 => k_is); (case q_drop_strip_2 => k_is); (case q_drop_strip_3 => k_is))
    (case q_drop_roll => refine' PM.FnFact.mk ?q_drop_roll_0 ?q_drop_roll_1 ?q_drop_roll_2 ?q_drop_roll_3; (case q_drop_roll_0 => k_is); (case q_drop_roll_1 => k_is); (case q_drop_roll_2 => k_is); (case q_drop_roll_3 => k_is))
    (case q_set_begins => refine' PM.FnFact.mk ?q_set_begins_0 ?q_set_begins_1 ?q_set_begins_2 ?q_set_begins_3; (case q_set_begins_0 => k_is); (case q_set_begins_1 => k_is); (case q_set_begins_2 => k_is); (case q_set_begins_3 => k_is))
    (case q_set_pattern => refine' PM.FnFact.mk ?q_set_pattern_0 ?q_set_pattern_1 ?q_set_pattern_2 ?q_set_pattern_3; (case q_set_pattern_0 => k_is); (case q_set_pattern_1 => k_is); (case q_set_pattern_2 => k_is); (case q_set_pattern_3 => k_is))
    (case q_set_move => refine' PM.FnFact.mk ?q_set_move_0 ?q_set_move_1 ?q_set_move_2 ?q_set_move_3; (case q_set_move_0 => k_is); (case q_set_move_1 => k_is); (case q_set_move_2 => k_is); (case q_set_move_3 => k_is))
    (case q_back => refine' PM.FnFact.mk ?q_back_0 ?q_back_1 ?q_back_2 ?q_back_3; (case q_back_0 => k_is); (case q_back_1 => k_is); (case q_back_2 => k_is); (case q_back_3 => k_is))
    (case q_spares_of_roll => refine' PM.FnFact.mk ?q_spares_of_roll_0 ?q_spares_of_roll_1 ?q_spares_of_roll_2 ?q_spares_of_roll_3; (case q_spares_of_roll_0 => k_is); (case q_spares_of_roll_1 => k_is); (case q_spares_of_roll_2 => k_is); (case q_spares_of_roll_3 => k_is))
    (case q_spares_of_rolls => refine' PM.FnFact.mk ?q_spares_of_rolls_0 ?q_spares_of_rolls_1 ?q_spares_of_rolls_2 ?q_spares_of_rolls_3; (case q_spares_of_rolls_0 => k_is); (case q_spares_of_rolls_1 => k_is); (case q_spares_of_rolls_2 => k_is); (case q_spares_of_rolls_3 => k_is))
    (case q_way_from => refine' PM.FnFact.mk ?q_way_from_0 ?q_way_from_1 ?q_way_from_2 ?q_way_from_3; (case q_way_from_0 => k_is); (case q_way_from_1 => k_is); (case q_way_from_2 => k_is); (case q_way_from_3 => k_is))
    (case q_first_way => refine' PM.FnFact.mk ?q_first_way_0 ?q_first_way_1 ?q_first_way_2 ?q_first_way_3; (case q_first_way_0 => k_is); (case q_first_way_1 => k_is); (case q_first_way_2 => k_is); (case q_first_way_3 => k_is))
    (case q_loads_of_way => refine' PM.FnFact.mk ?q_loads_of_way_0 ?q_loads_of_way_1 ?q_loads_of_way_2 ?q_loads_of_way_3; (case q_loads_of_way_0 => k_is); (case q_loads_of_way_1 => k_is); (case q_loads_of_way_2 => k_is); (case q_loads_of_way_3 => k_is))
    (case q_strips_of_set => refine' PM.FnFact.mk ?q_strips_of_set_0 ?q_strips_of_set_1 ?q_strips_of_set_2 ?q_strips_of_set_3; (case q_strips_of_set_0 => k_is); (case q_strips_of_set_1 => k_is); (case q_strips_of_set_2 => k_is); (case q_strips_of_set_3 => k_is))
    (case q_largest_set => refine' PM.FnFact.mk ?q_largest_set_0 ?q_largest_set_1 ?q_largest_set_2 ?q_largest_set_3; (case q_largest_set_0 => k_is); (case q_largest_set_1 => k_is); (case q_largest_set_2 => k_is); (case q_largest_set_3 => k_is))
    (case q_gap => refine' PM.FnFact.mk ?q_gap_0 ?q_gap_1 ?q_gap_2 ?q_gap_3; (case q_gap_0 => k_is); (case q_gap_1 => k_is); (case q_gap_2 => k_is); (case q_gap_3 => k_is))
    (case q_need => refine' PM.FnFact.mk ?q_need_0 ?q_need_1 ?q_need_2 ?q_need_3; (case q_need_0 => k_is); (case q_need_1 => k_is); (case q_need_2 => k_is); (case q_need_3 => k_is))
    (case q_best => refine' PM.FnFact.mk ?q_best_0 ?q_best_1 ?q_best_2 ?q_best_3; (case q_best_0 => k_is); (case q_best_1 => k_is); (case q_best_2 => k_is); (case q_best_3 => k_is))
    (case q_best_last => refine' PM.FnFact.mk ?q_best_last_0 ?q_best_last_1 ?q_best_last_2 ?q_best_last_3; (case q_best_last_0 => k_is); (case q_best_last_1 => k_is); (case q_best_last_2 => k_is); (case q_best_last_3 => k_is))
    (case q_finer => refine' PM.FnFact.mk ?q_finer_0 ?q_finer_1 ?q_finer_2 ?q_finer_3; (case q_finer_0 => k_is); (case q_finer_1 => k_is); (case q_finer_2 => k_is); (case q_finer_3 => k_is))
    (case q_best_move => refine' PM.FnFact.mk ?q_best_move_0 ?q_best_move_1 ?q_best_move_2 ?q_best_move_3; (case q_best_move_0 => k_is); (case q_best_move_1 => k_is); (case q_best_move_2 => k_is); (case q_best_move_3 => k_is))
    (case q_fits => refine' PM.FnFact.mk ?q_fits_0 ?q_fits_1 ?q_fits_2 ?q_fits_3; (case q_fits_0 => k_is); (case q_fits_1 => k_is); (case q_fits_2 => k_is); (case q_fits_3 => k_is))
    (case q_spare => refine' PM.FnFact.mk ?q_spare_0 ?q_spare_1 ?q_spare_2 ?q_spare_3; (case q_spare_0 => k_is); (case q_spare_1 => k_is); (case q_spare_2 => k_is); (case q_spare_3 => k_is))
    (case q_most => refine' PM.FnFact.mk ?q_most_0 ?q_most_1 ?q_most_2 ?q_most_3; (case q_most_0 => k_is); (case q_most_1 => k_is); (case q_most_2 => k_is); (case q_most_3 => k_is))
    (case q_could => refine' PM.FnFact.mk ?q_could_0 ?q_could_1 ?q_could_2 ?q_could_3; (case q_could_0 => k_is); (case q_could_1 => k_is); (case q_could_2 => k_is); (case q_could_3 => k_is))
    (case q_alone => refine' PM.FnFact.mk ?q_alone_0 ?q_alone_1 ?q_alone_2 ?q_alone_3; (case q_alone_0 => k_is); (case q_alone_1 => k_is); (case q_alone_2 => k_is); (case q_alone_3 => k_is))
    (case q_look => refine' PM.FnFact.mk ?q_look_0 ?q_look_1 ?q_look_2 ?q_look_3; (case q_look_0 => k_is); (case q_look_1 => k_is); (case q_look_2 => k_is); (case q_look_3 => k_is))
    (case q_state => refine' PM.FnFact.mk ?q_state_0 ?q_state_1 ?q_state_2 ?q_state_3; (case q_state_0 => k_is); (case q_state_1 => k_is); (case q_state_2 => k_is); (case q_state_3 => k_is))
    (case q_end_of_call => refine' PM.FnFact.mk ?q_end_of_call_0 ?q_end_of_call_1 ?q_end_of_call_2 ?q_end_of_call_3; (case q_end_of_call_0 => k_is); (case q_end_of_call_1 => k_is); (case q_end_of_call_2 => k_is); (case q_end_of_call_3 => k_is))
    (case q_answer_change => refine' PM.FnFact.mk ?q_answer_change_0 ?q_answer_change_1 ?q_answer_change_2 ?q_answer_change_3; (case q_answer_change_0 => k_is); (case q_answer_change_1 => k_is); (case q_answer_change_2 => k_is); (case q_answer_change_3 => k_is))
    (case q_answer_of_orders => refine' PM.FnFact.mk ?q_answer_of_orders_0 ?q_answer_of_orders_1 ?q_answer_of_orders_2 ?q_answer_of_orders_3; (case q_answer_of_orders_0 => k_is); (case q_answer_of_orders_1 => k_is); (case q_answer_of_orders_2 => k_is); (case q_answer_of_orders_3 => k_is))
    (case q_answer_of_rolls => refine' PM.FnFact.mk ?q_answer_of_rolls_0 ?q_answer_of_rolls_1 ?q_answer_of_rolls_2 ?q_answer_of_rolls_3; (case q_answer_of_rolls_0 => k_is); (case q_answer_of_rolls_1 => k_is); (case q_answer_of_rolls_2 => k_is); (case q_answer_of_rolls_3 => k_is))
    (case q_answer_call => refine' PM.FnFact.mk ?q_answer_call_0 ?q_answer_call_1 ?q_answer_call_2 ?q_answer_call_3; (case q_answer_call_0 => k_is); (case q_answer_call_1 => k_is); (case q_answer_call_2 => k_is); (case q_answer_call_3 => k_is))
    (case q_answers => refine' PM.FnFact.mk ?q_answers_0 ?q_answers_1 ?q_answers_2 ?q_answers_3; (case q_answers_0 => k_is); (case q_answers_1 => k_is); (case q_answers_2 => k_is); (case q_answers_3 => k_is))
    (case t_ns => k_is)
    (case t_fn => k_is)
    (case t_cd => k_is)
    (case t_11 => exact rfl)
  case S =>
    intro K H0 H xs a c T ht hT hs0 hwi hask hx
    cases hx with
    | cons h1 h2 =>
      cases h2
      cases h1 with
      | lst hs ha =>
        have e := L2.ints_dw a.1 _ ha
        subst e
        have q : ((Codec.inLen 0 2000 a.1 && a.1.all (Codec.inInt 0 4294967295)) && true) = true := hwi
        rw [Bool.and_eq_true, Bool.and_eq_true] at q
        refine ⟨_, a.1, c, T, rfl, hs0.seq hs, ht, hT, (Codec.inNat_iff.mp q.1.1).2, fun x hx => ?_, hask, fun H' p hp => .lst (L2.SqL.of hp) (L2.dw_ints _)⟩
        exact Codec.inInt_iff.mp (List.all_eq_true.mp q.1.2 x hx)
#print axioms PySem.Challenge.cw_patternmeets_s01_answers_holds
