import PyProof.Rows.All
import Wide.All
import OpenK.AllK
import Wide.FinOn
import PyProof.EqAt
import PyProof.EqKinds
import PyProof.TupleCall
import KE.BitLaws
import Open.SpecLaws
import KE.OsHead
import KE.OsGo
import PyProof.WalkInts
import PyProof.ZipIter
import PyProof.ListRange
import PyProof.CollectWalk
import PyProof.Rows.ZipGen
import PyProof.ListNew
import PyProof.CodeObjX
import PyProof.Rows.CallKwBuiltin
import PyProof.EvalArms
import KE.KNest
import KE.KSortKey
import KE.KSortTupG
import PyProof.DictWalks
import KE.KMinKey
import PyProof.Rows.SetFrom
import PyProof.Rows.SortShellAny
import PySem.Challenge.RW_drawnglass_s06_part
section
set_option Elab.async false
set_option linter.all false
set_option maxRecDepth 100000
namespace L2
open PySem PySem.Spec PyProof.Rows

abbrev Key := Sum Int Str
def keyIs : Key → Value → Bool
  | .inl k, v => Value.isInt k v
  | .inr x, v => Value.isStrOf x v
def keyH (w : World) : Key → Int
  | .inl k => hashInt k
  | .inr x => hashStr w x
theorem keyIs_shape : ∀ {k : Key} {v : Value}, keyIs k v = true → (∃ i t, k = Sum.inl i ∧ v = Value.int i t) ∨ (∃ x t, k = Sum.inr x ∧ v = Value.str x t)
  | .inl i, v, h => by
    obtain ⟨t, e⟩ := Value.isInt_shape (k := i) (v := v) h
    exact .inl ⟨i, t, rfl, e⟩
  | .inr x, v, h => by
    obtain ⟨t, e⟩ := Value.isStrOf_shape (x := x) (v := v) h
    exact .inr ⟨x, t, rfl, e⟩
theorem key_ll (a b : Int) : decide ((Sum.inl a : Key) = Sum.inl b) = (a == b) := by
  by_cases e : a = b
  · subst e; simp
  · have h : ¬ (Sum.inl a : Key) = Sum.inl b := fun q => e (Sum.inl.inj q)
    rw [decide_eq_false h]
    exact (beq_eq_false_iff_ne.mpr e).symm
theorem key_rr (a b : Str) : decide ((Sum.inr a : Key) = Sum.inr b) = decide (a = b) := by
  by_cases e : a = b
  · subst e; simp
  · have h : ¬ (Sum.inr a : Key) = Sum.inr b := fun q => e (Sum.inr.inj q)
    rw [decide_eq_false h, decide_eq_false e]
theorem key_lr (a : Int) (b : Str) : decide ((Sum.inl a : Key) = Sum.inr b) = false := decide_eq_false (fun q => nomatch q)
theorem key_rl (a : Str) (b : Int) : decide ((Sum.inr a : Key) = Sum.inl b) = false := decide_eq_false (fun q => nomatch q)

def mixKind (prog : Program) (w : World) : PySem.KeyKind prog w Key where
  is := keyIs
  hash := keyH w
  inj := fun v a b ha hb => by
    rcases keyIs_shape ha with ⟨i, t, rfl, rfl⟩ | ⟨x, t, rfl, rfl⟩
    · rcases keyIs_shape hb with ⟨j, u, rfl, e⟩ | ⟨y, u, rfl, e⟩
      · injection e with e1 _; rw [e1]
      · exact nomatch e
    · rcases keyIs_shape hb with ⟨j, u, rfl, e⟩ | ⟨y, u, rfl, e⟩
      · exact nomatch e
      · injection e with e1 _; rw [e1]
  byValue := fun k v h => by
    rcases keyIs_shape h with ⟨i, t, rfl, rfl⟩ | ⟨x, t, rfl, rfl⟩ <;> rfl
  pyHash := fun hv h => by
    rcases keyIs_shape hv with ⟨i, t, rfl, rfl⟩ | ⟨x, t, rfl, rfl⟩
    · exact wpAny_pyHash_int h
    · exact wpAny_pyHash_str h
  eqBool := fun hu hv h => by
    rcases keyIs_shape hu with ⟨i, t, rfl, rfl⟩ | ⟨x, t, rfl, rfl⟩
    · rcases keyIs_shape hv with ⟨j, u, rfl, rfl⟩ | ⟨y, u, rfl, rfl⟩
      · rw [key_ll] at h; exact wpAny_eqBool_int h
      · rw [key_lr] at h; exact SeqAt.EqAt.int_str i t y u _ _ _ _ h
    · rcases keyIs_shape hv with ⟨j, u, rfl, rfl⟩ | ⟨y, u, rfl, rfl⟩
      · rw [key_rl] at h; exact SeqAt.EqAt.str_int x t j u _ _ _ _ h
      · rw [key_rr] at h; exact wpAny_eqBool_str h
  «strs» := fun k x t v h => by
    rcases keyIs_shape h with ⟨i, u, rfl, e⟩ | ⟨y, u, rfl, e⟩
    · exact nomatch e
    · injection e with e1 _
      subst e1
      cases v <;> rfl

end L2

namespace L2
open PySem PySem.Spec PyProof.Rows

inductive V where
  | non | bl (b : Bool) | int (i : Int) | str (x : Str) | byt (b : Array UInt8) | flt (b : UInt64) | ref (a : Addr) | ty (n : String)
  deriving DecidableEq

def RelV : V → Value → Prop
  | .non, u => u = Value.none
  | .bl b, u => u = Value.bool b
  | .int i, u => ∃ t, u = Value.int i t
  | .str x, u => ∃ t, u = Value.str x t
  | .byt b, u => ∃ t, u = Value.bytes b t
  | .flt b, u => ∃ t, u = Value.float b t
  | .ref a, u => u = Value.ref a
  | .ty n, u => u = Value.type n

abbrev Vals : List V → List Value → Prop := Paired RelV
theorem Vals.length {xs : List V} {us : List Value} (r : Vals xs us) : xs.length = us.length := Paired.length r
theorem Vals.get : ∀ {xs : List V} {us : List Value} {i : Nat} {x : V}, Vals xs us → xs[i]? = some x → ∃ u, us[i]? = some u ∧ RelV x u
  | _, _, _, _, .nil, e => by simp at e
  | _, _, 0, _, .cons r _, e => by simp at e; subst e; exact ⟨_, rfl, r⟩
  | _, _, i + 1, x, .cons _ t, e => by
    obtain ⟨u, h1, h2⟩ := Vals.get (i := i) (x := x) t (by simpa using e)
    exact ⟨u, by simpa using h1, h2⟩
theorem Vals.set {x : V} {u : Value} (r : RelV x u) : ∀ {xs : List V} {us : List Value} (i : Nat), Vals xs us → Vals (xs.set i x) (us.set i u)
  | _, _, _, .nil => .nil
  | _, _, 0, .cons _ t => .cons r t
  | _, _, i + 1, .cons q t => .cons q (Vals.set r i t)
theorem Vals.append : ∀ {xs ys : List V} {us ws : List Value}, Vals xs us → Vals ys ws → Vals (xs ++ ys) (us ++ ws)
  | _, _, _, _, .nil, s => s
  | _, _, _, _, .cons r t, s => .cons r (Vals.append t s)
theorem Vals.take : ∀ {xs : List V} {us : List Value} (n : Nat), Vals xs us → Vals (xs.take n) (us.take n)
  | _, _, 0, _ => .nil
  | _, _, _ + 1, .nil => .nil
  | _, _, n + 1, .cons r t => .cons r (Vals.take n t)
theorem Vals.drop : ∀ {xs : List V} {us : List Value} (n : Nat), Vals xs us → Vals (xs.drop n) (us.drop n)
  | _, _, 0, r => r
  | _, _, _ + 1, .nil => .nil
  | _, _, n + 1, .cons _ t => Vals.drop n t
def RelO : Option V → Option Value → Prop
  | some v, some u => RelV v u
  | none, none => True
  | _, _ => False
def KV {κ : Type} : List (κ × V) → List (κ × Value) → Prop := Paired fun (p : κ × V) (q : κ × Value) => p.1 = q.1 ∧ RelV p.2 q.2

def kV : Key → V
  | .inl i => .int i
  | .inr x => .str x

inductive HO where
  /-- a list -/
  | lst (xs : List V)
  /-- a tuple (never changes) -/
  | tup (xs : List V)
  /-- a dict whose keys are ints and texts; one whose keys are tuples of ints and texts (the empty one is both) -/
  | dK (kvs : List (Key × V)) | dT (kvs : List (List Key × V))
  /-- a set of ints: its members, its size -/
  | set (S : Int → Bool) (n : Nat)
  /-- an instance of the class at C, its dict at dx, its attributes -/
  | ins (C dx : Addr) (fs : List (Str × V))
  /-- the dict of the instance at x -/
  | own (x : Addr)
  /-- the dict of an exception -/
  | xd (fs : List (Str × V))
  /-- a bound method, f of x -/
  | met (f x : Addr)
  /-- a range object lo, lo + 1, .. below hi -/
  | rng (lo hi : Int)
  /-- a thing that is known to the object (the script; a dict while a loop walks it): read, never written while it is so -/
  | frz (o : Obj) (u : HO)
  /-- a code object's table -/
  | tbl (ps : Array Value)
  /-- any other thing, by what is true of its one object (a def of one's own: SetO a S n := HO.ext fun h => ..) -/
  | ext (φ : Heap → Prop)

abbrev Hp := Addr → Option HO
def upd (H : Hp) (a : Addr) (o : HO) : Hp := fun b => if b = a then some o else H b
theorem upd_same {H : Hp} {a : Addr} {o : HO} : upd H a o a = some o := by unfold upd; rw [if_pos rfl]
theorem upd_ne {H : Hp} {a b : Addr} {o : HO} (h : b ≠ a) : upd H a o b = H b := by unfold upd; rw [if_neg h]
theorem ne_of_none {H : Hp} {a b : Addr} {o : HO} (h : H a = some o) (h' : H b = none) : a ≠ b := by
  intro e; subst e; rw [h] at h'; cases h'

section
variable (P : Program) (w : World)
def ObjOk (H : Hp) (h : Heap) (a : Addr) : HO → Prop
  | .lst xs => xs.length ≤ sizeLine ∧ ∃ (its : List Value) (n : Nat), Vals xs its ∧ h.get? a = some { cls := .type "list", data := .seq its.toArray n }
  | .tup xs => xs.length ≤ sizeLine ∧ ∃ its : List Value, Vals xs its ∧ IsTup h a its.toArray
  | .dK kvs => kvs.length ≤ sizeLine ∧ (a == sysModules) = false ∧ ∃ vs, KV kvs vs ∧ h.DictOf (mixKind P w) a vs
  | .dT kvs => kvs.length ≤ sizeLine ∧ (a == sysModules) = false ∧ ∃ xs : List (List Key × Addr × Value),
      Paired (fun (p : List Key × V) (q : List Key × Addr × Value) => p.1 = q.1 ∧ H q.2.1 = some (.tup (p.1.map kV)) ∧ RelV p.2 q.2.2) kvs xs ∧
      ∃ o es ep, h.get? a = some o ∧ o.ExactDict ∧ o.data = .dict es ep ∧ es.toList = xs.map (entryOfKey (tupleKind (mixKind P w))) ∧ (xs.map (·.1)).Nodup
  | .set S n => h.SetOf (intKind P w) a S n
  | .ins C dx fs => H dx = some (.own a) ∧ fs.length ≤ 1000 ∧ dx ≠ a ∧ h.get? a = some (PySem.W.instObj C dx) ∧
      ∃ mA, h.Ns1 dx mA ∧ (∀ f, RelO (fs.lookup f) (mA f)) ∧ PySem.Within mA (fs.map (·.1))
  | .own _ => ∃ o, h.get? a = some o
  | .xd fs => ∃ mA, h.Ns1 a mA ∧ ∀ f, RelO (fs.lookup f) (mA f)
  | .rng lo hi => ∃ t u v, h.get? a = some { cls := .type "range", data := .fields #[.int lo t, .int hi u, .int 1 v] }
  | .frz o u => h.get? a = some o ∧ ObjOk H h a u
  | .tbl ps => h.get? a = some { cls := .none, data := .fields ps }
  | .met f x => h.get? a = some (PySem.W.methodObj (.ref f) (.ref x))
  | .ext φ => φ h ∧ (∃ o, h.get? a = some o) ∧ ∀ h1 h2 : Heap, φ h1 → (∀ o, h1.get? a = some o → h2.get? a = some o) → φ h2
def HOk (H : Hp) (h : Heap) : Prop := ∀ a o, H a = some o → ObjOk P w H h a o
end

section
variable {P : Program} {w : World} {H H' : Hp} {h h' : Heap} {a : Addr} {o : HO}
theorem ObjOk.lt (x : ObjOk P w H h a o) : a < h.objs.size := by
  cases o with
  | lst xs => obtain ⟨_, _, _, _, e⟩ := x; exact Heap.lt_size e
  | tup xs => obtain ⟨_, _, _, p⟩ := x; exact p.lt
  | dK kvs => obtain ⟨_, _, _, _, o, _, _, e, _⟩ := x; exact Heap.lt_size e
  | dT kvs => obtain ⟨_, _, _, _, o, _, _, e, _⟩ := x; exact Heap.lt_size e
  | set S n => obtain ⟨o, _, _, _, e, _⟩ := x; exact Heap.lt_size e
  | ins C dx fs => obtain ⟨_, _, _, e, _⟩ := x; exact Heap.lt_size e
  | own y => obtain ⟨_, e⟩ := x; exact Heap.lt_size e
  | xd fs => obtain ⟨_, ⟨_, _, _, e, _⟩, _⟩ := x; exact Heap.lt_size e
  | rng lo hi => obtain ⟨_, _, _, e⟩ := x; exact Heap.lt_size e
  | frz ob u => obtain ⟨e, _⟩ := x; exact Heap.lt_size e
  | tbl ps => exact Heap.lt_size (show h.get? a = some _ from x)
  | met f y => exact Heap.lt_size (show h.get? a = some _ from x)
  | ext φ => obtain ⟨_, ⟨_, e⟩, _⟩ := x; exact Heap.lt_size e
theorem Paired.mapP {α β : Type} {F G : α → β → Prop} : ∀ {l₁ : List α} {l₂ : List β}, Paired F l₁ l₂ → (∀ a b, F a b → G a b) → Paired G l₁ l₂
  | _, _, .nil, _ => .nil
  | _, _, .cons r t, f => .cons (f _ _ r) (Paired.mapP t f)
theorem ObjOk.stay (x : ObjOk P w H h a o) (k : ∀ b u, (b = a ∨ H b = some (.own a)) → h.get? b = some u → h'.get? b = some u)
    (ho : ∀ b, H b = some (.own a) → H' b = some (.own a)) (ht : ∀ b xs, H b = some (.tup xs) → H' b = some (.tup xs)) : ObjOk P w H' h' a o := by
  induction o with
  | lst xs => obtain ⟨z, its, n, r, e⟩ := x; exact ⟨z, its, n, r, k _ _ (.inl rfl) e⟩
  | tup xs => obtain ⟨z, its, r, ob, e, c⟩ := x; exact ⟨z, its, r, ob, k _ _ (.inl rfl) e, c⟩
  | dK kvs => obtain ⟨z, y, vs, r, ob, es, ep, e, c⟩ := x; exact ⟨z, y, vs, r, ob, es, ep, k _ _ (.inl rfl) e, c⟩
  | dT kvs =>
    obtain ⟨z, y, xs, r, ob, es, ep, e, c⟩ := x
    exact ⟨z, y, xs, Paired.mapP r fun p q z => ⟨z.1, ht _ _ z.2.1, z.2.2⟩, ob, es, ep, k _ _ (.inl rfl) e, c⟩
  | set S n => obtain ⟨ob, es, ep, t, e, c⟩ := x; exact ⟨ob, es, ep, t, k _ _ (.inl rfl) e, c⟩
  | ins C dx fs =>
    obtain ⟨d, z, ne, e, mA, ⟨od, es, ep, e2, c⟩, r⟩ := x
    exact ⟨ho _ d, z, ne, k _ _ (.inl rfl) e, mA, ⟨od, es, ep, k _ _ (.inr d) e2, c⟩, r⟩
  | own y => obtain ⟨ob, e⟩ := x; exact ⟨ob, k _ _ (.inl rfl) e⟩
  | xd fs => obtain ⟨mA, ⟨od, es, ep, e, c⟩, r⟩ := x; exact ⟨mA, ⟨od, es, ep, k _ _ (.inl rfl) e, c⟩, r⟩
  | rng lo hi => obtain ⟨t, u, v, e⟩ := x; exact ⟨t, u, v, k _ _ (.inl rfl) e⟩
  | frz ob u ih => obtain ⟨e, q⟩ := x; exact ⟨k _ _ (.inl rfl) e, ih q⟩
  | tbl ps =>
    have e : h.get? a = some { cls := .none, data := .fields ps } := x
    show h'.get? a = some { cls := .none, data := .fields ps }
    exact k a _ (.inl rfl) e
  | met f y =>
    have e : h.get? a = some (PySem.W.methodObj (.ref f) (.ref y)) := x
    show h'.get? a = some (PySem.W.methodObj (.ref f) (.ref y))
    exact k a _ (.inl rfl) e
  | ext φ => obtain ⟨p, ⟨o, e⟩, st⟩ := x; exact ⟨st _ _ p fun o q => k _ _ (.inl rfl) q, ⟨o, k _ _ (.inl rfl) e⟩, st⟩
theorem HOk.lt (x : HOk P w H h) (e : H a = some o) : a < h.objs.size := (x a o e).lt
theorem HOk.fresh (x : HOk P w H h) (e : h.objs.size ≤ a) : H a = none := by
  cases q : H a with
  | none => rfl
  | some u => exact absurd (Nat.lt_of_lt_of_le (x.lt q) e) (Nat.lt_irrefl _)
theorem HOk.kept (x : HOk P w H h) (k : ∀ b u, h.get? b = some u → h'.get? b = some u) : HOk P w H h' := fun a o e =>
  (x a o e).stay (fun b u _ q => k b u q) (fun _ q => q) fun _ _ q => q
theorem HOk.laid (x : HOk P w H h) (k : ∀ b u, h.get? b = some u → h'.get? b = some u) (hp : h.objs.size ≤ a) (new : ObjOk P w (upd H a o) h' a o) : HOk P w (upd H a o) h' := fun b u e => by
  have hn := x.fresh hp
  by_cases hb : b = a
  · subst hb; rw [upd_same] at e; cases e; exact new
  · rw [upd_ne hb] at e
    exact (x b u e).stay (fun c v _ q => k c v q) (fun c q => by rw [upd_ne (ne_of_none q hn)]; exact q) fun c xs q => by rw [upd_ne (ne_of_none q hn)]; exact q
end

def Rd (H : Hp) (a : Addr) (u : HO) : Prop := H a = some u ∨ ∃ o, H a = some (.frz o u)
theorem Rd.of {H : Hp} {a : Addr} {u : HO} (h : H a = some u) : Rd H a u := .inl h
theorem Rd.ok {P : Program} {w : World} {H : Hp} {h : Heap} {a : Addr} {u : HO} (r : Rd H a u) (x : HOk P w H h) : ObjOk P w H h a u := by
  rcases r with r | ⟨o, r⟩
  · exact x a u r
  · obtain ⟨_, q⟩ := x a _ r
    exact q
def Mut : Option HO → Prop
  | some (.lst _) => True
  | some (.dK _) => True
  | some (.dT _) => True
  | some (.set _ _) => True
  | some (.ins _ _ _) => True
  | some (.ext _) => True
  | _ => False
section
variable {P : Program} {w : World} {H : Hp} {h h' : Heap} {x e : Addr} {o' : HO}
theorem HOk.write (ok : HOk P w H h) (mu : Mut (H x)) (he : e = x ∨ H e = some (.own x)) (k : ∀ b u, b ≠ e → h.get? b = some u → h'.get? b = some u) (heo : ∃ u, h'.get? e = some u)
    (new : ObjOk P w (upd H x o') h' x o') : HOk P w (upd H x o') h' := fun b u q => by
  have nown : ∀ c y, H c = some (.own y) → c ≠ x := fun c y r z => by subst z; rw [r] at mu; exact mu
  have ntup : ∀ c xs, H c = some (.tup xs) → c ≠ x := fun c xs r z => by subst z; rw [r] at mu; exact mu
  by_cases hb : b = x
  · subst hb; rw [upd_same] at q; cases q; exact new
  · rw [upd_ne hb] at q
    by_cases hbe : b = e
    · have q' : H b = some (.own x) := by
        rcases he with z | z
        · exact absurd (hbe.trans z) hb
        · rw [hbe]; exact z
      rw [q] at q'; cases q'
      obtain ⟨v, hv⟩ := heo
      exact ⟨v, by rw [hbe]; exact hv⟩
    · refine (ok b u q).stay (fun c v hc r => k c v ?_ r) (fun c r => by rw [upd_ne (nown c b r)]; exact r) fun c xs r => by rw [upd_ne (ntup c xs r)]; exact r
      rcases hc with rfl | hc
      · exact hbe
      · rintro rfl
        rcases he with z | z
        · exact nown c b hc z
        · rw [hc] at z; cases z; exact hb rfl
end

structure Un (fs ex : List Addr) (H H' : Hp) (h h' : Heap) : Prop where
  keep : ∀ b o, h.get? b = some o → H b = none → b ∉ fs → b ∉ ex → h'.get? b = some o
  slot : ∀ b o, h.get? b = some o → H b = none → b ∈ fs → b ∉ ex → ∃ sl, h'.get? b = some { o with slots := sl }
  free : ∀ b o, h.get? b = some o → H b = none → b ∉ ex → H' b = none
  there : ∀ b o, h.get? b = some o → b ∉ ex → ∃ o', h'.get? b = some o'
  tups : ∀ b xs, H b = some (.tup xs) → H' b = some (.tup xs)
  frzs : ∀ b o u, H b = some (.frz o u) → H' b = some (.frz o u)
  tbls : ∀ b ps, H b = some (.tbl ps) → ∃ more, H' b = some (.tbl (ps ++ more))
section
variable {fs fs' ex ex' : List Addr} {H H1 H2 : Hp} {h h1 h2 h' : Heap} {a x e : Addr} {o : HO}
theorem Un.any (u : Un fs ex H H1 h h1) {b : Addr} {ob : Obj} (q : h.get? b = some ob) (n : H b = none) (hx : b ∉ ex) : ∃ sl, h1.get? b = some { ob with slots := sl } := by
  by_cases hb : b ∈ fs
  · exact u.slot b ob q n hb hx
  · exact ⟨ob.slots, u.keep b ob q n hb hx⟩
theorem Un.trans (a : Un fs ex H H1 h h1) (b : Un fs ex H1 H2 h1 h2) : Un fs ex H H2 h h2 where
  keep := fun c ob q n hc hx => b.keep c ob (a.keep c ob q n hc hx) (a.free c ob q n hx) hc hx
  slot := fun c ob q n hc hx => by
    obtain ⟨sl, e1⟩ := a.slot c ob q n hc hx
    obtain ⟨sl', e2⟩ := b.slot c _ e1 (a.free c ob q n hx) hc hx
    exact ⟨sl', e2⟩
  free := fun c ob q n hx => by
    obtain ⟨o', e1⟩ := a.there c ob q hx
    exact b.free c o' e1 (a.free c ob q n hx) hx
  there := fun c ob q hx => by
    obtain ⟨o', e1⟩ := a.there c ob q hx
    exact b.there c o' e1 hx
  tups := fun c xs q => b.tups c xs (a.tups c xs q)
  frzs := fun c ob xs q => b.frzs c ob xs (a.frzs c ob xs q)
  tbls := fun c ps q => by
    obtain ⟨m1, e1⟩ := a.tbls c ps q
    obtain ⟨m2, e2⟩ := b.tbls c _ e1
    exact ⟨m1 ++ m2, by rw [e2, Array.append_assoc]⟩
theorem Un.kept (k : ∀ b u, h.get? b = some u → h'.get? b = some u) : Un fs ex H H h h' :=
  ⟨fun b ob q _ _ _ => k b ob q, fun b ob q _ _ _ => ⟨ob.slots, k b ob q⟩, fun _ _ _ n _ => n, fun b ob q _ => ⟨ob, k b ob q⟩, fun _ _ q => q, fun _ _ _ q => q, fun _ ps q => ⟨#[], by rw [q]; simp⟩⟩
theorem Un.refl : Un fs ex H H h h := Un.kept fun _ _ q => q
theorem Un.laid (k : ∀ b u, h.get? b = some u → h'.get? b = some u) (hp : h.objs.size ≤ a) (hn : H a = none) : Un fs ex H (upd H a o) h h' where
  keep := fun b u q _ _ _ => k b u q
  slot := fun b u q _ _ _ => ⟨u.slots, k b u q⟩
  free := fun b u q n _ => by rw [upd_ne (Nat.ne_of_lt (Nat.lt_of_lt_of_le (Heap.lt_size q) hp))]; exact n
  there := fun b u q _ => ⟨u, k b u q⟩
  tups := fun b xs q => by rw [upd_ne (ne_of_none q hn)]; exact q
  frzs := fun b u xs q => by rw [upd_ne (ne_of_none q hn)]; exact q
  tbls := fun b ps q => ⟨#[], by rw [upd_ne (ne_of_none q hn), q]; simp⟩
theorem Un.write (mu : Mut (H x)) (he : e = x ∨ H e = some (.own x)) (k : ∀ b u, b ≠ e → h.get? b = some u → h'.get? b = some u) (heo : ∃ u, h'.get? e = some u) : Un fs ex H (upd H x o) h h' := by
  have hx : ∀ b, H b = none → b ≠ x := fun b n z => by subst z; rw [n] at mu; exact mu
  have hb : ∀ b, H b = none → b ≠ e := fun b n z => by
    subst z
    rcases he with r | r
    · exact hx b n r
    · rw [n] at r; cases r
  have hm : ∀ b u, H b = some u → ¬ Mut (some u) → b ≠ x := fun b u q nm z => by subst z; rw [q] at mu; exact nm mu
  refine ⟨fun b u q n _ _ => k b u (hb b n) q, fun b u q n _ _ => ⟨u.slots, k b u (hb b n) q⟩, fun b u q n _ => by rw [upd_ne (hx b n)]; exact n, fun b u q _ => ?_,
    fun b xs q => by rw [upd_ne (hm b _ q fun z => z)]; exact q, fun b u xs q => by rw [upd_ne (hm b _ q fun z => z)]; exact q, fun b ps q => ⟨#[], by rw [upd_ne (hm b _ q fun z => z), q]; simp⟩⟩
  by_cases hbe : b = e
  · subst hbe; exact heo
  · exact ⟨u, k b u hbe q⟩
theorem Un.mono (u : Un fs ex H H1 h h1) (hs : ∀ b ∈ fs, b ∈ fs') (hx : ∀ b ∈ ex, b ∈ ex') : Un fs' ex' H H1 h h1 :=
  ⟨fun b ob q n hb he => u.keep b ob q n (fun z => hb (hs b z)) fun z => he (hx b z), fun _ _ q n _ he => u.any q n fun z => he (hx _ z), fun b ob q n he => u.free b ob q n fun z => he (hx b z), fun b ob q he => u.there b ob q fun z => he (hx b z), u.tups, u.frzs, u.tbls⟩
end

def trk (h : Heap) (H : Hp) : List Addr := (List.range h.objs.size).filter fun a => (H a).isSome
def hidT (h : Heap) (H : Hp) : Heap := PySem.W.hideAll h (trk h H)
theorem hidT_size (h : Heap) (H : Hp) : (hidT h H).objs.size = h.objs.size := PySem.W.hideAll_size _ _
theorem hidT_get {h : Heap} {H : Hp} {b : Addr} {o : Obj} (e : h.get? b = some o) (n : H b = none) : (hidT h H).get? b = some o :=
  PySem.W.hideAll_get _ e fun hm => by
    have q : (H b).isSome = true := (List.mem_filter.mp hm).2
    rw [n] at q; simp at q
theorem of_hidT {h : Heap} {H : Hp} {b : Addr} {o : Obj} (e : (hidT h H).get? b = some o) : h.get? b = some o ∧ H b = none := by
  have e' : h.get? b = some o := PySem.W.of_hideAll (trk h H) e
  refine ⟨e', ?_⟩
  cases q : H b with
  | none => rfl
  | some x =>
    have hm : b ∈ trk h H := List.mem_filter.mpr ⟨List.mem_range.mpr (Heap.lt_size e'), by simp [q]⟩
    have z : (hidT h H).get? b = none := PySem.W.hideAll_none (trk h H) hm
    rw [z] at e; cases e

def allNews (g h : Heap) (L : Addr) : List (Addr × Obj) := (List.range h.objs.size).filterMap fun a => if a = L ∨ (g.get? a).isSome = true then none else (h.get? a).map fun o => (a, o)
def rest (g h : Heap) (L d : Addr) : List (Addr × Obj) := (allNews g h L).filter fun p => decide (p.1 ≠ d)
end L2

namespace L2
open PySem PySem.Spec PyProof.Rows

structure Mod (K : PySem.W.Frag) (mg : Str → Option Value) (base : Heap) : Prop where
  kin : K.In base
  glob : base.Ns mainGlobals mg
  blt : ∃ mb, base.Ns builtinsNs mb ∧ ∀ x : Str, x ≠ "__name__" → mb x = bootBuiltins x
  nolimit : base.NoLimit

structure Cx where
  prog : Program
  w : World
  K : PySem.W.Frag
  mg : Str → Option Value
  base : Heap
  A : Around
  N : List Str
  s_0 : Shared
  H_0 : Hp
  env : Env
  outer : List Env
  stack : List Env
  ex : List Addr
  fn : Str → Bool
  calm : Bool
  pn : List (Addr × Obj)
  xe : Value → Shared → Prop
def frs (l : List Env) : List Addr := l.filterMap (·.frame)
abbrev Cx.fs (X : Cx) : List Addr := frs X.outer

def Vis (sc : Scope) (x : Str) : Prop := sc.names.lookup x = some .local ∨ sc.names.lookup x = some .cell ∨ sc.names.lookup x = some .free
def Loc (sc : Scope) (x : Str) : Prop := sc.names.lookup x = some .local ∨ sc.names.lookup x = some .cell
def Look (env : Env) (h : Heap) (m : Str → Option Value) (x : Str) (u : Value) : Prop :=
  (env.kindOf x = some .local ∧ m x = some u) ∨ ((env.kindOf x = some .cell ∨ env.kindOf x = some .free) ∧ ∃ c, env.cells.lookup x = some c ∧ h.IsCell c (some u))

structure Cx.Ok (X : Cx) : Prop where
  mod : Mod X.K X.mg X.base
  kind : X.env.scope.kind = .function
  glob : X.env.globals = mainGlobals
  blt : X.env.builtins = builtinsNs
  above : X.s_0.heap.objs.size ≤ X.env.locals
  inj : ∀ x y c, X.env.cells.lookup x = some c → X.env.cells.lookup y = some c → x = y
  has : ∀ x, (X.env.kindOf x = some .cell ∨ X.env.kindOf x = some .free) → ∃ c, X.env.cells.lookup x = some c
  cab : ∀ x c, X.fn x = true → X.env.cells.lookup x = some c → X.s_0.heap.objs.size ≤ c
  hd : X.calm = true → X.A.handled = none
  frames : X.A.frames = some X.stack
  stk : X.stack = X.outer ∨ (X.stack = X.env :: X.outer ∧ X.env.frame = some X.env.locals)
  exf : ∀ b ∈ X.ex, b ≠ X.env.locals ∧ ∀ x c, X.env.cells.lookup x = some c → c ≠ b
  bs : ∀ b o, X.base.get? b = some o → X.s_0.heap.get? b = some o ∧ X.H_0 b = none
  bsz : X.base.objs.size ≤ X.s_0.heap.objs.size
  noex : ∀ b o, X.base.get? b = some o → b ∉ X.ex
  exfs : ∀ b ∈ X.ex, b ∉ X.fs
  funs : X.s_0.heap.FunFrames X.base X.outer
  frf : ∀ b ∈ X.fs, X.H_0 b = none

structure Inv (X : Cx) (pins : List (Addr × Obj)) (σ : List (Option V)) (H : Hp) (s : Shared) : Prop where
  ok : X.Ok
  os : s.os = X.s_0.os
  bare : AllBare s.gens
  base : Un X.fs X.ex X.H_0 H X.s_0.heap s.heap
  loc : ∃ m, s.heap.Ns X.env.locals m ∧ ∀ (i : Nat) (x : Str) (v : V), X.N[i]? = some x → σ[i]? = some (some v) → Vis X.env.scope x → ∃ u, RelV v u ∧ Look X.env s.heap m x u
  cell : ∀ x c, X.env.cells.lookup x = some c → ∃ v, s.heap.IsCell c v
  free : H X.env.locals = none
  freeC : ∀ x c, X.env.cells.lookup x = some c → H c = none
  pin : ∀ p ∈ X.pn ++ pins, s.heap.get? p.1 = some p.2 ∧ H p.1 = none ∧ p.1 ≠ X.env.locals ∧ p.1 ∉ X.fs ∧ ∀ v, p.2.data ≠ .cell v
  hok : HOk X.prog X.w H s.heap
  len : σ.length = X.N.length

section
variable {X : Cx} {pins : List (Addr × Obj)} {σ : List (Option V)} {H H' : Hp} {s : Shared} {h' : Heap}

theorem Cx.Ok.nofr (ok : X.Ok) {b : Addr} {o : Obj} (e : X.base.get? b = some o) : b ∉ X.fs := fun hb => by
  have := (ok.funs.mem hb).1
  rw [e] at this; cases this
theorem Inv.bs (I : Inv X pins σ H s) : ∀ b o, X.base.get? b = some o → s.heap.get? b = some o ∧ H b = none := fun b o e =>
  ⟨I.base.keep b o (I.ok.bs b o e).1 (I.ok.bs b o e).2 (I.ok.nofr e) (I.ok.noex b o e), I.base.free b o (I.ok.bs b o e).1 (I.ok.bs b o e).2 (I.ok.noex b o e)⟩
theorem Inv.bk (I : Inv X pins σ H s) : ∀ b o, X.base.get? b = some o → s.heap.get? b = some o := fun b o e => (I.bs b o e).1
theorem Inv.mod (I : Inv X pins σ H s) : Mod X.K X.mg X.base := I.ok.mod
theorem Inv.kIn (I : Inv X pins σ H s) : X.K.In s.heap := I.ok.mod.kin.keeps I.bk
theorem Inv.nolimit (I : Inv X pins σ H s) : s.heap.NoLimit := I.ok.mod.nolimit.keeps I.bk
theorem Inv.fr (I : Inv X pins σ H s) : ∃ m, Fr X.base X.env.locals s.heap m :=
  let ⟨m, hn, _⟩ := I.loc
  ⟨m, hn, I.bk, Nat.le_trans I.ok.bsz I.ok.above⟩
theorem Inv.lt (I : Inv X pins σ H s) : X.env.locals < s.heap.objs.size := let ⟨_, hn, _⟩ := I.loc; hn.lt
theorem Inv.sz (I : Inv X pins σ H s) : X.s_0.heap.objs.size ≤ s.heap.objs.size := Nat.le_trans I.ok.above (Nat.le_of_lt I.lt)
theorem Inv.nofs (I : Inv X pins σ H s) {a : Addr} (h : s.heap.objs.size ≤ a) : a ∉ X.fs := fun hb => by
  obtain ⟨_, o, ho, _⟩ := I.ok.funs.mem hb
  exact absurd (Nat.lt_of_lt_of_le (Heap.lt_size ho) (Nat.le_trans I.sz h)) (Nat.lt_irrefl _)
theorem Inv.cne (I : Inv X pins σ H s) : ∀ x c, X.env.cells.lookup x = some c → c ≠ X.env.locals := fun x c e z => by
  obtain ⟨v, o, ho, hd⟩ := I.cell x c e
  obtain ⟨m, ⟨o', es, ep, ho', hd', _⟩, _⟩ := I.loc
  rw [z, ho'] at ho; cases ho; rw [hd'] at hd; cases hd
theorem Inv.funs (I : Inv X pins σ H s) : s.heap.FunFrames X.base X.outer := by
  have all : ∀ (l : List Env), (∀ b ∈ frs l, b ∈ X.fs) → X.s_0.heap.FunFrames X.base l → s.heap.FunFrames X.base l := by
    intro l
    induction l with
    | nil => intro _ _; trivial
    | cons env r ih =>
      intro hs hl
      obtain ⟨hk, ⟨L, o, hf, hn, ho, hd⟩, hr⟩ := hl
      have hL : L ∈ X.fs := hs L (by unfold frs; rw [List.filterMap_cons, hf]; exact List.mem_cons_self)
      obtain ⟨sl, e⟩ := I.base.slot L o ho (I.ok.frf L hL) hL fun z => I.ok.exfs L z hL
      exact ⟨hk, ⟨L, _, hf, hn, e, hd⟩, ih (fun b hb => hs b (by unfold frs; rw [List.filterMap_cons, hf]; exact List.mem_cons_of_mem _ hb)) hr⟩
  exact all X.outer (fun _ hb => hb) I.ok.funs

theorem Inv.stack (I : Inv X pins σ H s) : s.heap.FunFrames X.base X.stack := by
  rcases I.ok.stk with e | ⟨e, hf⟩
  · rw [e]; exact I.funs
  · rw [e]
    obtain ⟨m, hn, _⟩ := I.loc
    refine .cons (by rw [I.ok.kind]; decide) hf hn ?_ I.funs
    exact Heap.get?_none_of_le (Nat.le_trans I.ok.bsz I.ok.above)
theorem Inv.stkSub (I : Inv X pins σ H s) : ∀ b ∈ frs X.stack, b ∈ X.env.locals :: X.fs := fun b hb => by
  rcases I.ok.stk with e | ⟨e, hf⟩
  · rw [e] at hb; exact List.mem_cons_of_mem _ hb
  · rw [e] at hb
    unfold frs at hb
    rw [List.filterMap_cons, hf] at hb
    exact hb
theorem Inv.stkFree (I : Inv X pins σ H s) : ∀ b ∈ frs X.stack, H b = none := fun b hb => by
  rcases List.mem_cons.mp (I.stkSub b hb) with e | hb
  · rw [e]; exact I.free
  · obtain ⟨_, o, ho, _⟩ := I.ok.funs.mem hb
    exact I.base.free b o ho (I.ok.frf b hb) fun z => I.ok.exfs b z hb

theorem Inv.step {g' : Array GenState} {t' : Nat} {d' : Drawn} {ch : List Addr} (I : Inv X pins σ H s)
    (hch : ∀ b ∈ ch, (b ∈ X.ex ∨ X.s_0.heap.objs.size ≤ b) ∧ b ≠ X.env.locals ∧ (∀ x c, X.env.cells.lookup x = some c → c ≠ b) ∧ ∀ p ∈ X.pn ++ pins, p.1 ≠ b)
    (keep : ∀ b o, b ≠ X.env.locals → b ∉ X.fs → b ∉ ch → s.heap.get? b = some o → H b = none → h'.get? b = some o)
    (slot : ∀ b o, b ≠ X.env.locals → b ∈ X.fs → b ∉ ch → s.heap.get? b = some o → H b = none → ∃ sl, h'.get? b = some { o with slots := sl }) (free : ∀ b o, b ∉ ch → s.heap.get? b = some o → H b = none → H' b = none)
    (there : ∀ b o, b ∉ ch → s.heap.get? b = some o → ∃ o', h'.get? b = some o')
    (tups : ∀ b xs, H b = some (.tup xs) → H' b = some (.tup xs)) (frzs : ∀ b o u, H b = some (.frz o u) → H' b = some (.frz o u)) (tbls : ∀ b ps, H b = some (.tbl ps) → ∃ more, H' b = some (.tbl (ps ++ more)))
    (ns : ∀ m, s.heap.Ns X.env.locals m → h'.Ns X.env.locals m) (hok : HOk X.prog X.w H' h') (hg : AllBare g') :
    Inv X pins σ H' { s with heap := h', gens := g', drawn := d', toks := t' } := by
  have neL : ∀ b o, X.s_0.heap.get? b = some o → b ≠ X.env.locals := fun b o e => Nat.ne_of_lt (Nat.lt_of_lt_of_le (Heap.lt_size e) I.ok.above)
  have neC : ∀ b o, X.s_0.heap.get? b = some o → b ∉ X.ex → b ∉ ch := fun b o e hx hb => by
    rcases (hch b hb).1 with z | z
    · exact hx z
    · exact absurd (Nat.lt_of_lt_of_le (Heap.lt_size e) z) (Nat.lt_irrefl _)
  have cellK : ∀ x c, X.env.cells.lookup x = some c → ∀ v, s.heap.IsCell c v → h'.IsCell c v := fun x c e v ⟨o, ho, hd⟩ => by
    have nch : c ∉ ch := fun z => (hch c z).2.2.1 x c e rfl
    by_cases hc : c ∈ X.fs
    · obtain ⟨sl, q⟩ := slot c o (I.cne x c e) hc nch ho (I.freeC x c e)
      exact ⟨_, q, hd⟩
    · exact ⟨o, keep c o (I.cne x c e) hc nch ho (I.freeC x c e), hd⟩
  refine ⟨I.ok, I.os, hg, ⟨fun b o e n hb hx => ?_, fun b o e n hb hx => ?_, fun b o e n hx => ?_, fun b o e hx => ?_, fun b xs e => tups b xs (I.base.tups b xs e), fun b o xs e => frzs b o xs (I.base.frzs b o xs e), fun b ps e => ?_⟩, ?_, fun x c e => ?_, ?_, fun x c e => ?_, fun p hp => ?_, hok, I.len⟩
  · exact keep b o (neL b o e) hb (neC b o e hx) (I.base.keep b o e n hb hx) (I.base.free b o e n hx)
  · obtain ⟨sl, e1⟩ := I.base.slot b o e n hb hx
    obtain ⟨sl', e2⟩ := slot b _ (neL b o e) hb (neC b o e hx) e1 (I.base.free b o e n hx)
    exact ⟨sl', e2⟩
  · obtain ⟨o', e1⟩ := I.base.there b o e hx
    exact free b o' (neC b o e hx) e1 (I.base.free b o e n hx)
  · obtain ⟨o', e1⟩ := I.base.there b o e hx
    exact there b o' (neC b o e hx) e1
  · obtain ⟨m1, e1⟩ := I.base.tbls b ps e
    obtain ⟨m2, e2⟩ := tbls b _ e1
    exact ⟨m1 ++ m2, by rw [e2, Array.append_assoc]⟩
  · obtain ⟨m, hn, hl⟩ := I.loc
    refine ⟨m, ns m hn, fun i x v e1 e2 e3 => ?_⟩
    obtain ⟨u, r, l⟩ := hl i x v e1 e2 e3
    refine ⟨u, r, ?_⟩
    rcases l with l | ⟨k, c, e, z⟩
    · exact .inl l
    · exact .inr ⟨k, c, e, cellK x c e _ z⟩
  · obtain ⟨v, z⟩ := I.cell x c e
    exact ⟨v, cellK x c e v z⟩
  · obtain ⟨m, ⟨o, _, _, ho, _⟩, _⟩ := I.loc
    exact free _ o (fun z => (hch _ z).2.1 rfl) ho I.free
  · obtain ⟨v, o, ho, hd⟩ := I.cell x c e
    exact free c o (fun z => (hch c z).2.2.1 x c e rfl) ho (I.freeC x c e)
  · obtain ⟨e, n, ne, nf, d⟩ := I.pin p hp
    have nch : p.1 ∉ ch := fun z => (hch p.1 z).2.2.2 p hp rfl
    exact ⟨keep p.1 p.2 ne nf nch e n, free p.1 p.2 nch e n, ne, nf, d⟩
theorem Inv.un {t' : Nat} (I : Inv X pins σ H s) (u : Un X.fs [] H H' s.heap h') (hok : HOk X.prog X.w H' h') : Inv X pins σ H' { s with heap := h', toks := t' } := by
  obtain ⟨m, ⟨o, es, ep, ho, r⟩, _⟩ := id I.loc
  obtain ⟨sl, hL⟩ := u.any ho I.free (by simp)
  exact I.step (g' := s.gens) (d' := s.drawn) (ch := []) (fun _ z => nomatch z) (fun b o _ hb _ e n => u.keep b o e n hb (by simp)) (fun b o _ hb _ e n => u.slot b o e n hb (by simp)) (fun b o _ e n => u.free b o e n (by simp)) (fun b o _ e => u.there b o e (by simp)) u.tups u.frzs u.tbls (fun m' hm => by
    obtain ⟨o', es', ep', ho', r'⟩ := hm
    rw [ho] at ho'; cases ho'
    exact ⟨_, es', ep', hL, r'⟩) hok I.bare
theorem Inv.call {g' : Array GenState} {t' : Nat} {d' : Drawn} {ch : List Addr} (I : Inv X pins σ H s) (u : Un (frs X.stack) ch H H' s.heap h') (hok : HOk X.prog X.w H' h') (hg : AllBare g')
    (hch : ∀ b ∈ ch, (b ∈ X.ex ∨ X.s_0.heap.objs.size ≤ b) ∧ b ≠ X.env.locals ∧ (∀ x c, X.env.cells.lookup x = some c → c ≠ b) ∧ ∀ p ∈ X.pn ++ pins, p.1 ≠ b) :
    Inv X pins σ H' { s with heap := h', gens := g', drawn := d', toks := t' } := by
  obtain ⟨m, ⟨o, es, ep, ho, r⟩, _⟩ := id I.loc
  obtain ⟨sl, hL⟩ := u.any ho I.free fun z => (hch _ z).2.1 rfl
  exact I.step (ch := ch) hch (fun b o hL hb hc e n => u.keep b o e n (fun z => (List.mem_cons.mp (I.stkSub b z)).elim hL hb) hc) (fun b o _ _ hc e n => u.any e n hc) (fun b o hc e n => u.free b o e n hc) (fun b o hc e => u.there b o e hc) u.tups u.frzs u.tbls (fun m' hm => by
    obtain ⟨o', es', ep', ho', r'⟩ := hm
    rw [ho] at ho'; cases ho'
    exact ⟨_, es', ep', hL, r'⟩) hok hg
theorem Inv.turned {t' : Nat} {it : Addr} (I : Inv X pins σ H s) (k : ∀ b o, b ≠ it → s.heap.get? b = some o → h'.get? b = some o) (hn : H it = none) (hL : it ≠ X.env.locals)
    (h1 : it ∈ X.ex ∨ X.s_0.heap.objs.size ≤ it) (h2 : ∀ x c, X.env.cells.lookup x = some c → c ≠ it) (h3 : ∀ p ∈ X.pn ++ pins, p.1 ≠ it) : Inv X pins σ H { s with heap := h', toks := t' } := by
  have nit : ∀ b u, H b = some u → b ≠ it := fun b u e z => by rw [z, hn] at e; cases e
  refine I.step (g' := s.gens) (d' := s.drawn) (ch := [it]) (fun b hb => ?_) (fun b o _ _ hc e _ => k b o (fun z => hc (by simp [z])) e) (fun b o _ _ hc e _ => ⟨o.slots, k b o (fun z => hc (by simp [z])) e⟩) (fun _ _ _ _ n => n)
    (fun b o hc e => ⟨o, k b o (fun z => hc (by simp [z])) e⟩) (fun _ _ e => e) (fun _ _ _ e => e) (fun b ps e => ⟨#[], by rw [e]; simp⟩) (fun m hm => ?_) (fun b u e => ?_) I.bare
  · have e : b = it := by simpa using hb
    subst e
    exact ⟨h1, hL, h2, h3⟩
  · obtain ⟨o, es, ep, ho, r⟩ := hm
    exact ⟨o, es, ep, k _ o (Ne.symm hL) ho, r⟩
  · refine (I.hok b u e).stay (fun c v hc q => k c v ?_ q) (fun _ q => q) fun _ _ q => q
    rcases hc with z | z
    · rw [z]; exact nit b u e
    · exact nit c _ z
theorem Inv.tok (I : Inv X pins σ H s) (t : Nat) : Inv X pins σ H { s with toks := t } := I.un (h' := s.heap) (t' := t) Un.refl I.hok
theorem Inv.kept {t' : Nat} (I : Inv X pins σ H s) (k : ∀ b u, s.heap.get? b = some u → h'.get? b = some u) : Inv X pins σ H { s with heap := h', toks := t' } := I.un (Un.kept k) (I.hok.kept k)
theorem Inv.laid {a : Addr} {o : HO} {t' : Nat} (I : Inv X pins σ H s) (k : ∀ b u, s.heap.get? b = some u → h'.get? b = some u) (hp : s.heap.objs.size ≤ a) (new : ObjOk X.prog X.w (upd H a o) h' a o) :
    Inv X pins σ (upd H a o) { s with heap := h', toks := t' } := I.un (Un.laid k hp (I.hok.fresh hp)) (I.hok.laid k hp new)
theorem Inv.write {x e : Addr} {o : HO} {t' : Nat} (I : Inv X pins σ H s) (mu : Mut (H x)) (he : e = x ∨ H e = some (.own x)) (k : ∀ b u, b ≠ e → s.heap.get? b = some u → h'.get? b = some u) (heo : ∃ u, h'.get? e = some u)
    (new : ObjOk X.prog X.w (upd H x o) h' x o) : Inv X pins σ (upd H x o) { s with heap := h', toks := t' } := I.un (Un.write mu he k heo) (I.hok.write mu he k heo new)
theorem Inv.weak {σ' : List (Option V)} (I : Inv X pins σ H s) (hl : σ'.length = σ.length) (w : ∀ (i : Nat) v, σ'[i]? = some (some v) → σ[i]? = some (some v)) : Inv X pins σ' H s :=
  ⟨I.ok, I.os, I.bare, I.base, let ⟨m, hn, hl'⟩ := I.loc; ⟨m, hn, fun i x v e1 e2 e3 => hl' i x v e1 (w i v e2) e3⟩, I.cell, I.free, I.freeC, I.pin, I.hok, hl.trans I.len⟩
theorem Inv.pins_of {pins' : List (Addr × Obj)} (I : Inv X pins σ H s) (h : ∀ p ∈ pins', s.heap.get? p.1 = some p.2 ∧ H p.1 = none ∧ p.1 ≠ X.env.locals ∧ p.1 ∉ X.fs ∧ ∀ v, p.2.data ≠ .cell v) : Inv X pins' σ H s :=
  ⟨I.ok, I.os, I.bare, I.base, I.loc, I.cell, I.free, I.freeC, fun p hp => (List.mem_append.mp hp).elim (fun z => I.pin p (List.mem_append_left _ z)) (h p), I.hok, I.len⟩

theorem nodup_ix {N : List Str} (hN : N.Nodup) {i j : Nat} {x : Str} (a : N[i]? = some x) (b : N[j]? = some x) : i = j := by
  obtain ⟨h1, e1⟩ := List.getElem?_eq_some_iff.mp a
  obtain ⟨h2, e2⟩ := List.getElem?_eq_some_iff.mp b
  exact (List.getElem_inj hN).mp (e1.trans e2.symm)

theorem store_ok2 {M : Model} {A : Around} {E : Value → Shared → Prop} {i : Nat} {x : Str} {v : V} {u : Value} {Q : Unit → Shared → Prop} (I : Inv X pins σ H s) (hN : X.N.Nodup) (hi : X.N[i]? = some x) (hx : Loc X.env.scope x) (r : RelV v u)
    (h : ∀ s', Inv X pins (σ.set i (some v)) H s' → (∃ a, Heap.SameBut a s.heap s'.heap ∧ (a = X.env.locals ∨ X.env.cells.lookup x = some a)) → Q () s') (hf : X.fn x = true ∨ X.env.scope.names.lookup x = some .local := by first | exact .inl rfl | exact .inr rfl | assumption) : wpAny M A (storeName X.env x u) Q E s := by
  obtain ⟨m, hn, hl⟩ := id I.loc
  have hcls : (X.env.scope.kind == .class || (X.env.scope.kind == .module && X.env.locals != X.env.globals)) = false := by rw [I.ok.kind]; rfl
  have hiσ : i < σ.length := by rw [I.len]; exact (List.getElem?_eq_some_iff.mp hi).1
  have cne := I.cne
  have tracked : ∀ {a : Addr} {h' : Heap}, (∃ o, s.heap.get? a = some o ∧ H a = none) → Heap.SameBut a s.heap h' → HOk X.prog X.w H h' := fun {a h'} ha hs b ob e => by
    obtain ⟨_, _, hfree⟩ := ha
    refine (I.hok b ob e).stay (fun c w' hc q => (hs.2 c ?_).trans q) (fun _ q => q) fun _ _ q => q
    rintro rfl
    rcases hc with rfl | hc
    · rw [hfree] at e; cases e
    · rw [hfree] at hc; cases hc
  rcases hx with hk | hk
  · refine wpAny_storeName_local hk hn (fun h' hn' hs => ?_) hcls
    obtain ⟨oL, _, _, hoL, _⟩ := id hn
    refine h _ ⟨I.ok, I.os, I.bare, ⟨fun b o e n hb hx => ?_, fun b o e n hb hx => ?_, I.base.free, fun b o e hx => ?_, I.base.tups, I.base.frzs, I.base.tbls⟩, ⟨_, hn', fun j y v' e1 e2 e3 => ?_⟩, fun y c e => ?_, I.free, I.freeC, fun p hp => ?_, tracked ⟨oL, hoL, I.free⟩ hs, by simpa using I.len⟩ ⟨_, hs, .inl rfl⟩
    · exact (hs.2 b (Nat.ne_of_lt (Nat.lt_of_lt_of_le (Heap.lt_size e) I.ok.above))).trans (I.base.keep b o e n hb hx)
    · obtain ⟨sl, e1⟩ := I.base.slot b o e n hb hx
      exact ⟨sl, (hs.2 b (Nat.ne_of_lt (Nat.lt_of_lt_of_le (Heap.lt_size e) I.ok.above))).trans e1⟩
    · obtain ⟨o', e1⟩ := I.base.there b o e hx
      exact ⟨o', (hs.2 b (Nat.ne_of_lt (Nat.lt_of_lt_of_le (Heap.lt_size e) I.ok.above))).trans e1⟩
    · by_cases hj : j = i
      · subst hj
        rw [hi] at e1; cases e1
        rw [List.getElem?_set_self hiσ] at e2
        cases e2
        exact ⟨u, r, .inl ⟨hk, by simp⟩⟩
      · rw [List.getElem?_set_ne (Ne.symm hj)] at e2
        obtain ⟨u', r', q⟩ := hl j y v' e1 e2 e3
        refine ⟨u', r', ?_⟩
        rcases q with ⟨k, e⟩ | ⟨k, c, e, z⟩
        · refine .inl ⟨k, ?_⟩
          have : y ≠ x := fun e => hj (nodup_ix hN e1 (e ▸ hi))
          simp [this, e]
        · exact .inr ⟨k, c, e, z.sameBut hs (cne y c e)⟩
    · obtain ⟨w', z⟩ := I.cell y c e
      exact ⟨w', z.sameBut hs (cne y c e)⟩
    · obtain ⟨e, n, ne, nf, d⟩ := I.pin p hp
      exact ⟨(hs.2 p.1 ne).trans e, n, ne, nf, d⟩
  · have hfn : X.fn x = true := by
      rcases hf with z | z
      · exact z
      · rw [z] at hk; cases hk
    obtain ⟨c, hc⟩ := I.ok.has x (.inl hk)
    obtain ⟨w', z⟩ := I.cell x c hc
    refine wpAny_storeName_cell I.ok.kind hk hc z (fun h' hc' hs => ?_)
    obtain ⟨oc, hoc, hocd⟩ := id z
    refine h { s with heap := h' } ⟨I.ok, I.os, I.bare, ⟨fun b o e n hb hx => ?_, fun b o e n hb hx => ?_, I.base.free, fun b o e hx => ?_, I.base.tups, I.base.frzs, I.base.tbls⟩, ⟨m, hn.sameBut hs (Ne.symm (cne x c hc)), fun j y v' e1 e2 e3 => ?_⟩, fun y c' e => ?_, I.free, I.freeC, fun p hp => ?_, tracked ⟨oc, hoc, I.freeC x c hc⟩ hs, by simpa using I.len⟩ ⟨c, hs, .inr hc⟩
    · exact (hs.2 b (Nat.ne_of_lt (Nat.lt_of_lt_of_le (Heap.lt_size e) (I.ok.cab x c hfn hc)))).trans (I.base.keep b o e n hb hx)
    · obtain ⟨sl, e1⟩ := I.base.slot b o e n hb hx
      exact ⟨sl, (hs.2 b (Nat.ne_of_lt (Nat.lt_of_lt_of_le (Heap.lt_size e) (I.ok.cab x c hfn hc)))).trans e1⟩
    · obtain ⟨o', e1⟩ := I.base.there b o e hx
      exact ⟨o', (hs.2 b (Nat.ne_of_lt (Nat.lt_of_lt_of_le (Heap.lt_size e) (I.ok.cab x c hfn hc)))).trans e1⟩
    · by_cases hj : j = i
      · subst hj
        rw [hi] at e1; cases e1
        rw [List.getElem?_set_self hiσ] at e2
        cases e2
        exact ⟨u, r, .inr ⟨.inl hk, c, hc, hc'⟩⟩
      · rw [List.getElem?_set_ne (Ne.symm hj)] at e2
        obtain ⟨u', r', q⟩ := hl j y v' e1 e2 e3
        refine ⟨u', r', ?_⟩
        rcases q with q | ⟨k, c', e, z'⟩
        · exact .inl q
        · refine .inr ⟨k, c', e, z'.sameBut hs ?_⟩
          rintro rfl
          exact hj (nodup_ix hN e1 (I.ok.inj _ _ _ e hc ▸ hi))
    · by_cases hcc : c' = c
      · subst hcc; exact ⟨_, hc'⟩
      · obtain ⟨w2, z2⟩ := I.cell y c' e
        exact ⟨w2, z2.sameBut hs hcc⟩
    · obtain ⟨e, n, ne, nf, d⟩ := I.pin p hp
      refine ⟨(hs.2 p.1 ?_).trans e, n, ne, nf, d⟩
      intro q
      rw [q, hoc] at e
      have q' : oc = p.2 := Option.some.inj e
      exact d w' (by rw [← q']; exact hocd)
theorem store_ok {M : Model} {A : Around} {E : Value → Shared → Prop} {i : Nat} {x : Str} {v : V} {u : Value} {Q : Unit → Shared → Prop} (I : Inv X pins σ H s) (hN : X.N.Nodup) (hi : X.N[i]? = some x) (hx : Loc X.env.scope x) (r : RelV v u)
    (h : ∀ s', Inv X pins (σ.set i (some v)) H s' → Q () s') (hf : X.fn x = true ∨ X.env.scope.names.lookup x = some .local := by first | exact .inl rfl | exact .inr rfl | assumption) : wpAny M A (storeName X.env x u) Q E s :=
  store_ok2 I hN hi hx r (fun s' I' _ => h s' I') hf
theorem Inv.call' {s' : Shared} {ch : List Addr} (I : Inv X pins σ H s) (ho : s'.os = s.os) (u : Un (frs X.stack) ch H H' s.heap s'.heap) (hok : HOk X.prog X.w H' s'.heap) (hg : AllBare s'.gens)
    (hch : ∀ b ∈ ch, (b ∈ X.ex ∨ X.s_0.heap.objs.size ≤ b) ∧ b ≠ X.env.locals ∧ (∀ x c, X.env.cells.lookup x = some c → c ≠ b) ∧ ∀ p ∈ X.pn ++ pins, p.1 ≠ b) : Inv X pins σ H' s' := by
  obtain ⟨h', g', d', t', o'⟩ := s'
  have e : o' = s.os := ho
  subst e
  exact I.call (g' := g') (t' := t') (d' := d') u hok hg hch
end

abbrev XK := Value → Option Addr → Hp → Prop
abbrev St := List (Option V)
abbrev VK := V → Hp → Prop
abbrev TE := St → Hp → VK → Prop
abbrev TT := St → Hp → (Bool → Hp → Prop) → Prop
abbrev TA := St → Hp → (List V → Hp → Prop) → Prop
structure Ends where
  nx : St → Hp → Prop
  rt : VK
  bk : St → Hp → Prop := fun _ _ => False
  ct : St → Hp → Prop := fun _ _ => False
abbrev TS := Ends → St → Hp → Prop

def EP (X : Cx) (pins : List (Addr × Obj)) (σ : St) (Q : VK) (u : Value) (s' : Shared) : Prop := ∃ v H', Inv X pins σ H' s' ∧ RelV v u ∧ Q v H'
def TP (X : Cx) (pins : List (Addr × Obj)) (σ : St) (Q : Bool → Hp → Prop) (b : Bool) (s' : Shared) : Prop := ∃ H', Inv X pins σ H' s' ∧ Q b H'
def AP (X : Cx) (pins : List (Addr × Obj)) (σ : St) (Q : List V → Hp → Prop) (us : List Value) (s' : Shared) : Prop := ∃ vs H', Inv X pins σ H' s' ∧ Vals vs us ∧ Q vs H'
def SP (X : Cx) (pins : List (Addr × Obj)) (D : Ends) (f : Flow) (s' : Shared) : Prop :=
  match f with
  | .next => ∃ σ' H', Inv X pins σ' H' s' ∧ D.nx σ' H'
  | .brk => ∃ σ' H', Inv X pins σ' H' s' ∧ D.bk σ' H'
  | .cont => ∃ σ' H', Inv X pins σ' H' s' ∧ D.ct σ' H'
  | .ret u => ∃ v σ' H', Inv X pins σ' H' s' ∧ RelV v u ∧ D.rt v H'

def PE (X : Cx) (e : Expr) (t : TE) : Prop :=
  ∀ (pins : List (Addr × Obj)) (s : Shared) (σ : St) (H : Hp) (Q : VK), Inv X pins σ H s → t σ H Q → wpAny (model X.prog X.w) X.A (eval e X.env) (EP X pins σ Q) X.xe s
def PT (X : Cx) (e : Expr) (t : TT) : Prop :=
  ∀ (pins : List (Addr × Obj)) (s : Shared) (σ : St) (H : Hp) (Q : Bool → Hp → Prop), Inv X pins σ H s → t σ H Q → wpAny (model X.prog X.w) X.A (isTrue e X.env (eval e X.env)) (TP X pins σ Q) X.xe s
def PW (X : Cx) (e : Expr) (t : TT) : Prop :=
  ∀ (whole : Sem Value) (pins : List (Addr × Obj)) (s : Shared) (σ : St) (H : Hp) (Q : Bool → Hp → Prop), Inv X pins σ H s → t σ H Q → wpAny (model X.prog X.w) X.A (isTrue e X.env whole) (TP X pins σ Q) X.xe s
theorem PW.pt {X : Cx} {e : Expr} {t : TT} (h : PW X e t) : PT X e t := h _
def PA (X : Cx) (es : List Expr) (t : TA) : Prop :=
  ∀ (pos : Pos) (pins : List (Addr × Obj)) (s : Shared) (σ : St) (H : Hp) (Q : List V → Hp → Prop), Inv X pins σ H s → t σ H Q → wpAny (model X.prog X.w) X.A (spliced (backTo pos (starEach es X.env))) (AP X pins σ Q) X.xe s
def PS (X : Cx) (st : Stmt) (t : TS) : Prop :=
  ∀ (pins : List (Addr × Obj)) (s : Shared) (σ : St) (H : Hp) (D : Ends), Inv X pins σ H s → t D σ H → wpAny (model X.prog X.w) X.A (exec st X.env) (SP X pins D) X.xe s
def PSs (X : Cx) (st : List Stmt) (t : TS) : Prop :=
  ∀ (pins : List (Addr × Obj)) (s : Shared) (σ : St) (H : Hp) (D : Ends), Inv X pins σ H s → t D σ H → wpAny (model X.prog X.w) X.A (execs st X.env) (SP X pins D) X.xe s
theorem thn {α : Type} {t : Sem α} {Q Q' : α → Shared → Prop} {M : Model} {A : Around} {E : Value → Shared → Prop} {s : Shared} (h : wpAny M A t Q E s) (hQ : ∀ a s, Q a s → Q' a s) : wpAny M A t Q' E s := wpAny_mono h hQ fun _ _ x => x
end L2

namespace L2
open PySem PySem.Spec PyProof.Rows
section
variable {X : Cx}

def tVar (i : Nat) : TE := fun σ H Q => ∃ v, σ[i]? = some (some v) ∧ Q v H
def tC (v : V) : TE := fun _ H Q => Q v H
theorem pe_var {i : Nat} {x : Str} {pos : Pos} (hN : X.N[i]? = some x) (hv : Vis X.env.scope x) (hd : (x == ("__debug__" : Str)) = false := by decide) (hcd : (x == ("__classdict__" : Str)) = false := by decide) : PE X (.Name x pos) (tVar i) := by
  intro pins s σ H Q I h
  obtain ⟨v, e, h⟩ := h
  obtain ⟨m, hn, hl⟩ := I.loc
  obtain ⟨u, r, l⟩ := hl i x v hN e hv
  have fin : EP X pins σ Q u s := ⟨v, H, I, r, h⟩
  rcases l with ⟨hk, hm⟩ | ⟨hk, c, hc, hcell⟩
  · exact wpAny_Name (wpAny_loadName_local I.ok.kind hk hn hm fin) hd
  · rcases hk with hk | hk
    · exact wpAny_Name (wpAny_loadName_cell I.ok.kind hk hc hcell fin) hd
    · exact wpAny_Name (wpAny_loadName_free I.ok.kind hk hc hcell fin hcd) hd
theorem pe_int {i j pos} : PE X (.Constant (.int i) j pos) (tC (.int i)) := fun _ _ _ H _ I h => wpAny_Constant_int ⟨.int i, H, I.tok _, ⟨_, rfl⟩, h⟩
theorem pe_bl {b j pos} : PE X (.Constant (.bool b) j pos) (tC (.bl b)) := fun _ _ _ H _ I h => Constant_bool ⟨.bl b, H, I, rfl, h⟩
theorem pe_non {j pos} : PE X (.Constant .none j pos) (tC .non) := fun _ _ _ H _ I h => Constant_none ⟨.non, H, I, rfl, h⟩
theorem pe_str {x j pos} : PE X (.Constant (.str x) j pos) (tC (.str x)) := fun _ _ _ H _ I h => Calls.Constant_str ⟨.str x, H, I.tok _, ⟨_, rfl⟩, h⟩

def Gl (X : Cx) (x : Str) : Prop := X.env.kindOf x = some .globalImplicit
theorem ld_glob {E : Value → Shared → Prop} {pins : List (Addr × Obj)} {s : Shared} {σ : St} {H : Hp} {x : Str} {u : Value} {pos : Pos} {Q : Value → Shared → Prop} (I : Inv X pins σ H s) (hg : Gl X x) (hm : X.mg x = some u) (h : Q u s)
    (hd : (x == ("__debug__" : Str)) = false := by decide) : wpAny (model X.prog X.w) X.A (eval (.Name x pos) X.env) Q E s :=
  Calls.Name_function_global I.ok.kind hg (Calls.loadGlobal_global (by rw [I.ok.glob]; exact I.mod.glob.keeps I.bk) hm h) hd
theorem ld_blt {E : Value → Shared → Prop} {pins : List (Addr × Obj)} {s : Shared} {σ : St} {H : Hp} {x : Str} {u : Value} {pos : Pos} {Q : Value → Shared → Prop} (I : Inv X pins σ H s) (hg : Gl X x) (hm : X.mg x = none) (hv : bootBuiltins x = some u) (h : Q u s)
    (hn : x ≠ "__name__" := by decide) (hd : (x == ("__debug__" : Str)) = false := by decide) : wpAny (model X.prog X.w) X.A (eval (.Name x pos) X.env) Q E s := by
  obtain ⟨mb, h1, h2⟩ := I.mod.blt
  exact Calls.Name_function_global I.ok.kind hg (Calls.loadGlobal_builtin (by rw [I.ok.glob]; exact I.mod.glob.keeps I.bk) hm (by rw [I.ok.blt]; exact h1.keeps I.bk) ((h2 x hn).trans hv) h) hd
theorem pe_glob {x : Str} {v : V} {u : Value} {pos : Pos} (hg : Gl X x) (hm : X.mg x = some u) (r : RelV v u) (hd : (x == ("__debug__" : Str)) = false := by decide) : PE X (.Name x pos) (tC v) :=
  fun _ _ _ H _ I h => ld_glob I hg hm ⟨v, H, I, r, h⟩ hd
variable {a b : Expr} {ta tb : TE} {pos : Pos}
def tB (t : TE) : TT := fun σ H Q => t σ H fun x H1 => ∃ c, x = .bl c ∧ Q c H1
theorem pt_val {e : Expr} {t : TE} (h : PE X e t) (he : ∀ whole, isTrue e X.env whole = (do let v ← whole; standAt e.pos; holding [v] (truthy v)) := by intro _; rfl) : PT X e (tB t) := by
  intro pins s σ H Q I hw
  refine isTrue_plain (thn (h pins s σ H _ I hw) fun v s1 ⟨x, H1, I1, r1, q1⟩ => ?_) (he _)
  obtain ⟨d, rfl, q⟩ := q1
  cases r1
  exact wpAny_truthy_bool ⟨H1, I1, q⟩

variable {tA tB' : TT} {rest : List Expr}
def tAnd (t u : TT) : TT := fun σ H Q => t σ H fun c H1 => if c = true then u σ H1 Q else Q false H1
def tOr (t u : TT) : TT := fun σ H Q => t σ H fun c H1 => if c = true then Q true H1 else u σ H1 Q
def tNot (t : TT) : TT := fun σ H Q => t σ H fun c H1 => Q (!c) H1
theorem pw_and1 (ha : PT X a tA) : PW X (.BoolOp .And [a] pos) tA := by
  intro wh pins s σ H Q I h
  refine isTrue_and (thn (ha pins s σ H Q I h) fun c s1 e => ?_)
  cases c with
  | true => exact isTrue_and_nil e
  | false => exact e
theorem pw_or1 (ha : PT X a tA) : PW X (.BoolOp .Or [a] pos) tA := by
  intro wh pins s σ H Q I h
  refine isTrue_or (thn (ha pins s σ H Q I h) fun c s1 e => ?_)
  cases c with
  | false => exact isTrue_or_nil e
  | true => exact e
theorem pw_and (ha : PT X a tA) (hb : PW X (.BoolOp .And (b :: rest) pos) tB') : PW X (.BoolOp .And (a :: b :: rest) pos) (tAnd tA tB') := by
  intro wh pins s σ H Q I h
  refine isTrue_and (thn (ha pins s σ H _ I h) fun c s1 ⟨H1, I1, q1⟩ => ?_)
  cases c with
  | true => exact hb wh pins s1 σ H1 Q I1 q1
  | false => exact ⟨H1, I1, q1⟩
theorem pw_or (ha : PT X a tA) (hb : PW X (.BoolOp .Or (b :: rest) pos) tB') : PW X (.BoolOp .Or (a :: b :: rest) pos) (tOr tA tB') := by
  intro wh pins s σ H Q I h
  refine isTrue_or (thn (ha pins s σ H _ I h) fun c s1 ⟨H1, I1, q1⟩ => ?_)
  cases c with
  | true => exact ⟨H1, I1, q1⟩
  | false => exact hb wh pins s1 σ H1 Q I1 q1
theorem pt_not (ha : PT X a tA) : PT X (.UnaryOp .Not a pos) (tNot tA) := by
  intro pins s σ H Q I h
  exact isTrue_not (ha pins s σ H (fun c H1 => Q (!c) H1) I h)
def tAndV (ta tb : TE) : TE := fun σ H Q => ta σ H fun x H1 => ∃ c, x = .bl c ∧ if c = true then tb σ H1 Q else Q (.bl false) H1
def tOrV (ta tb : TE) : TE := fun σ H Q => ta σ H fun x H1 => ∃ c, x = .bl c ∧ if c = true then Q (.bl true) H1 else tb σ H1 Q
def tNotV (ta : TE) : TE := fun σ H Q => ta σ H fun x H1 => ∃ c, x = .bl c ∧ Q (.bl (!c)) H1
theorem pe_one {op} {t : TE} (h : PE X a t) : PE X (.BoolOp op [a] pos) t := fun pins s σ H Q I hw => BoolOp_one (h pins s σ H Q I hw)
theorem pe_and (ha : PE X a ta) (hb : PE X (.BoolOp .And (b :: rest) pos) tb) : PE X (.BoolOp .And (a :: b :: rest) pos) (tAndV ta tb) := by
  intro pins s σ H Q I h
  refine BoolOp_and (thn (ha pins s σ H _ I h) fun v s1 ⟨x, H1, I1, r1, q1⟩ => ?_)
  obtain ⟨c, rfl, q1⟩ := q1
  cases r1
  refine wpAny_truthy_bool ?_
  cases c with
  | true => exact hb pins s1 σ H1 Q I1 q1
  | false => exact ⟨.bl false, H1, I1, rfl, q1⟩
theorem pe_or (ha : PE X a ta) (hb : PE X (.BoolOp .Or (b :: rest) pos) tb) : PE X (.BoolOp .Or (a :: b :: rest) pos) (tOrV ta tb) := by
  intro pins s σ H Q I h
  refine BoolOp_or (thn (ha pins s σ H _ I h) fun v s1 ⟨x, H1, I1, r1, q1⟩ => ?_)
  obtain ⟨c, rfl, q1⟩ := q1
  cases r1
  refine wpAny_truthy_bool ?_
  cases c with
  | false => exact hb pins s1 σ H1 Q I1 q1
  | true => exact ⟨.bl true, H1, I1, rfl, q1⟩
theorem pe_not (ha : PE X a ta) : PE X (.UnaryOp .Not a pos) (tNotV ta) := by
  intro pins s σ H Q I h
  refine UnaryOp_ (thn (ha pins s σ H _ I h) fun v s1 ⟨x, H1, I1, r1, q1⟩ => ?_)
  obtain ⟨c, rfl, q1⟩ := q1
  cases r1
  exact not_of (wpAny_truthy_bool ⟨.bl (!c), H1, I1, rfl, q1⟩)
def tIf (t : TT) (ta tb : TE) : TE := fun σ H Q => t σ H fun c H1 => if c = true then ta σ H1 Q else tb σ H1 Q
theorem pe_ifExp {c : Expr} (hc : PT X c tA) (ha : PE X a ta) (hb : PE X b tb) : PE X (.IfExp c a b pos) (tIf tA ta tb) := by
  intro pins s σ H Q I h
  refine wpAny_IfExp (thn (hc pins s σ H _ I h) fun d s1 ⟨H1, I1, q1⟩ => ?_)
  cases d with
  | true => exact ha pins s1 σ H1 Q I1 q1
  | false => exact hb pins s1 σ H1 Q I1 q1
end
end L2

namespace L2
open PySem PySem.Spec PyProof.Rows

def SqL (K : PySem.W.Frag) (H : Hp) (a : Addr) (xs : List V) : Prop :=
  Rd H a (.lst xs) ∨
    ∃ (o : Obj) (its : Array Value) (n : Nat), K.lookup a = some o ∧ o.cls = .type "list" ∧ o.dict = none ∧ o.data = .seq its n ∧ its.size ≤ sizeLine ∧ Vals xs its.toList
def SqT (K : PySem.W.Frag) (H : Hp) (a : Addr) (xs : List V) : Prop :=
  Rd H a (.tup xs) ∨
    ∃ (o : Obj) (its : Array Value) (n : Nat), K.lookup a = some o ∧ o.cls = .type "tuple" ∧ o.data = .seq its n ∧ its.size ≤ sizeLine ∧ Vals xs its.toList
def absV : Value → Option V
  | .none => some .non
  | .bool b => some (.bl b)
  | .int i _ => some (.int i)
  | .str x _ => some (.str x)
  | .bytes b _ => some (.byt b)
  | .float b _ => some (.flt b)
  | .ref a => some (.ref a)
  | .type n => some (.ty n)
  | _ => none
theorem RelV.abs {x : V} {u : Value} (r : RelV x u) : absV u = some x := by
  cases x with
  | non => cases r; rfl
  | bl _ => cases r; rfl
  | int _ => obtain ⟨t, rfl⟩ := r; rfl
  | str _ => obtain ⟨t, rfl⟩ := r; rfl
  | byt _ => obtain ⟨t, rfl⟩ := r; rfl
  | flt _ => obtain ⟨t, rfl⟩ := r; rfl
  | ref _ => cases r; rfl
  | ty _ => cases r; rfl
theorem RelV.inj {x y : V} {u : Value} (r : RelV x u) (q : RelV y u) : x = y := Option.some.inj (r.abs.symm.trans q.abs)
theorem Vals.inj : ∀ {xs ys : List V} {us : List Value}, Vals xs us → Vals ys us → xs = ys
  | _, _, _, .nil, .nil => rfl
  | _, _, _, .cons r t, .cons r' t' => by rw [r.inj r', Vals.inj t t']
section
variable {X : Cx} {pins : List (Addr × Obj)} {σ : St} {H : Hp} {s : Shared} {a : Addr} {xs ys : List V}
theorem SqL.of {K : PySem.W.Frag} (h : H a = some (.lst xs)) : SqL K H a xs := .inl (.inl h)
theorem SqT.of {K : PySem.W.Frag} (h : H a = some (.tup xs)) : SqT K H a xs := .inl (.inl h)
theorem Inv.list (I : Inv X pins σ H s) (h : SqL X.K H a xs) : ∃ its : List Value, Vals xs its ∧ PlainL s.heap a its.toArray ∧ xs.length ≤ sizeLine := by
  rcases h with h | ⟨o, its, n, hk, hc, hd, hs, hz, r⟩
  · obtain ⟨z, its, n, r, e⟩ := h.ok I.hok
    exact ⟨its, r, ⟨_, n, e, rfl, rfl, rfl⟩, z⟩
  · refine ⟨its.toList, r, ⟨o, n, I.kIn a o hk, hc, hd, by simpa using hs⟩, ?_⟩
    have e := r.length
    simp only [Array.length_toList] at e
    omega
theorem Inv.tuple (I : Inv X pins σ H s) (h : SqT X.K H a xs) : ∃ its : List Value, Vals xs its ∧ IsTup s.heap a its.toArray ∧ xs.length ≤ sizeLine := by
  rcases h with h | ⟨o, its, n, hk, hc, hs, hz, r⟩
  · obtain ⟨z, its, r, p⟩ := h.ok I.hok
    exact ⟨its, r, p, z⟩
  · refine ⟨its.toList, r, ⟨o, I.kIn a o hk, hc, n, by simpa using hs⟩, ?_⟩
    have e := r.length
    simp only [Array.length_toList] at e
    omega
theorem Inv.list_inj (I : Inv X pins σ H s) (h : SqL X.K H a xs) (h' : SqL X.K H a ys) : xs = ys := by
  obtain ⟨its, r, ⟨o, n, e, _, _, d⟩, _⟩ := I.list h
  obtain ⟨its', r', ⟨o', n', e', _, _, d'⟩, _⟩ := I.list h'
  rw [e] at e'; cases e'
  rw [d] at d'
  injection d' with d1 _
  have : its = its' := by simpa using congrArg Array.toList d1
  subst this
  exact r.inj r'
theorem Inv.tuple_inj (I : Inv X pins σ H s) (h : SqT X.K H a xs) (h' : SqT X.K H a ys) : xs = ys := by
  obtain ⟨its, r, ⟨o, e, _, n, d⟩, _⟩ := I.tuple h
  obtain ⟨its', r', ⟨o', e', _, n', d'⟩, _⟩ := I.tuple h'
  rw [e] at e'; cases e'
  rw [d] at d'
  injection d' with d1 _
  have : its = its' := by simpa using congrArg Array.toList d1
  subst this
  exact r.inj r'
end

abbrev Cx.wish (X : Cx) (E : Value → Shared → Prop) : Cx := { X with xe := E }
abbrev Cx.nox (X : Cx) : Cx := X.wish fun _ _ => False
theorem Cx.Ok.wish {X : Cx} (ok : X.Ok) (E : Value → Shared → Prop) : (X.wish E).Ok :=
  ⟨ok.mod, ok.kind, ok.glob, ok.blt, ok.above, ok.inj, ok.has, ok.cab, ok.hd, ok.frames, ok.stk, ok.exf, ok.bs, ok.bsz, ok.noex, ok.exfs, ok.funs, ok.frf⟩
theorem Cx.Ok.unwish {X : Cx} {E : Value → Shared → Prop} (ok : (X.wish E).Ok) : X.Ok :=
  ⟨ok.mod, ok.kind, ok.glob, ok.blt, ok.above, ok.inj, ok.has, ok.cab, ok.hd, ok.frames, ok.stk, ok.exf, ok.bs, ok.bsz, ok.noex, ok.exfs, ok.funs, ok.frf⟩
section
variable {X : Cx} {pins : List (Addr × Obj)} {σ : St} {H : Hp} {s : Shared} {E : Value → Shared → Prop}
theorem Inv.wish (I : Inv X pins σ H s) (E : Value → Shared → Prop) : Inv (X.wish E) pins σ H s := ⟨I.ok.wish E, I.os, I.bare, I.base, I.loc, I.cell, I.free, I.freeC, I.pin, I.hok, I.len⟩
theorem Inv.unwish (I : Inv (X.wish E) pins σ H s) : Inv X pins σ H s := ⟨I.ok.unwish, I.os, I.bare, I.base, I.loc, I.cell, I.free, I.freeC, I.pin, I.hok, I.len⟩
theorem SP.unwish {D : Ends} {f : Flow} {s' : Shared} (h : SP (X.wish E) pins D f s') : SP X pins D f s' := by
  cases f with
  | next => obtain ⟨σ', H', I, q⟩ := h; exact ⟨σ', H', I.unwish, q⟩
  | brk => obtain ⟨σ', H', I, q⟩ := h; exact ⟨σ', H', I.unwish, q⟩
  | cont => obtain ⟨σ', H', I, q⟩ := h; exact ⟨σ', H', I.unwish, q⟩
  | ret u => obtain ⟨v, σ', H', I, r, q⟩ := h; exact ⟨v, σ', H', I.unwish, r, q⟩
theorem PE.nox {e : Expr} {t : TE} (h : PE X.nox e t) : PE X e t := fun pins s σ H Q I hw =>
  wpAny_mono (h pins s σ H Q (I.wish _) hw) (fun _ _ ⟨v, H', I', r, q⟩ => ⟨v, H', I'.unwish, r, q⟩) fun _ _ z => False.elim z
theorem PT.nox {e : Expr} {t : TT} (h : PT X.nox e t) : PT X e t := fun pins s σ H Q I hw =>
  wpAny_mono (h pins s σ H Q (I.wish _) hw) (fun _ _ ⟨H', I', q⟩ => ⟨H', I'.unwish, q⟩) fun _ _ z => False.elim z
theorem PSs.nox {st : List Stmt} {t : TS} (h : PSs X.nox st t) : PSs X st t := fun pins s σ H D I hw =>
  wpAny_mono (h pins s σ H D (I.wish _) hw) (fun _ _ q => q.unwish) fun _ _ z => False.elim z
end

section
variable {X : Cx} {st : Stmt} {rest : List Stmt} {t u : TS} {e : Expr} {te : TE} {pos : Pos}
def tNext : TS := fun D σ H => D.nx σ H
def tSeq (t u : TS) : TS := fun D σ H => t { D with nx := u D } σ H
theorem pss_nil : PSs X [] tNext := fun _ _ σ H _ I h => wpAny_execs_nil ⟨σ, H, I, h⟩
theorem pss_cons (h1 : PS X st t) (h2 : PSs X rest u) : PSs X (st :: rest) (tSeq t u) := by
  intro pins s σ H D I h
  refine wpAny_execs_cons (thn (h1 pins s σ H { D with nx := u D } I h) fun f s1 q => ?_)
  cases f with
  | next =>
    obtain ⟨σ', H', I', q⟩ := q
    exact h2 pins s1 σ' H' D I' q
  | ret v => exact q
  | brk => exact q
  | cont => exact q
theorem pss_one (h1 : PS X st t) : PSs X [st] t := by
  intro pins s σ H D I h
  refine wpAny_execs_cons (thn (h1 pins s σ H D I h) fun f s1 q => ?_)
  cases f with
  | next => exact wpAny_execs_nil q
  | ret v => exact q
  | brk => exact q
  | cont => exact q
theorem Inv.quiet {pins : List (Addr × Obj)} {σ : St} {H : Hp} {s : Shared} (I : Inv X pins σ H s) : interactive X.env = false := by simp [interactive, I.ok.kind]
def tDrop (te : TE) : TS := fun D σ H => te σ H fun _ H1 => D.nx σ H1
theorem ps_expr (he : PE X e te) (hs : swapsWith e none pos.line X.env = pure false := by rfl) : PS X (.Expr e pos) (tDrop te) := by
  intro pins s σ H D I h
  exact wpAny_Expr_any (thn (he pins s σ H _ I h) fun v s1 ⟨x, H1, I1, r1, q1⟩ => ⟨σ, H1, I1, q1⟩) I.quiet hs
def tRet (te : TE) : TS := fun D σ H => te σ H D.rt
theorem ps_ret (he : PE X e te) : PS X (.Return (some e) pos) (tRet te) := by
  intro pins s σ H D I h
  exact wpAny_Return_some (thn (he pins s σ H _ I h) fun v s1 ⟨x, H1, I1, r1, q1⟩ => ⟨x, σ, H1, I1, r1, q1⟩)
def tIfS (c : TT) (t u : TS) : TS := fun D σ H => c σ H fun b H1 => if b = true then t D σ H1 else u D σ H1
theorem ps_if {c : Expr} {a b : List Stmt} {tc : TT} (hc : PT X c tc) (ha : PSs X a t) (hb : PSs X b u) : PS X (.If c a b pos) (tIfS tc t u) := by
  intro pins s σ H D I h
  refine wpAny_If (thn (hc pins s σ H _ I h) fun d s1 ⟨H1, I1, q1⟩ => ?_)
  cases d with
  | true => exact ha pins s1 σ H1 D I1 q1
  | false => exact hb pins s1 σ H1 D I1 q1
def tNever : TS := fun _ _ _ => False
theorem pss_never {sts : List Stmt} : PSs X sts tNever := fun _ _ _ _ _ _ h => h.elim
end

abbrev TG := V → St → Hp → (St → Hp → Prop) → Prop
abbrev TGs := List V → St → Hp → (St → Hp → Prop) → Prop
def PG (X : Cx) (target : Expr) (t : TG) : Prop :=
  ∀ (pins : List (Addr × Obj)) (s : Shared) (σ : St) (H : Hp) (v : V) (u : Value) (Q : St → Hp → Prop), Inv X pins σ H s → RelV v u → t v σ H Q →
    wpAny (model X.prog X.w) X.A (assign target X.env u) (fun _ s' => ∃ σ' H', Inv X pins σ' H' s' ∧ Q σ' H') X.xe s
def PGs (X : Cx) (ts : List Expr) (t : TGs) : Prop :=
  ∀ (pins : List (Addr × Obj)) (s : Shared) (σ : St) (H : Hp) (vs : List V) (us : List Value) (Q : St → Hp → Prop), Inv X pins σ H s → Vals vs us → t vs σ H Q →
    wpAny (model X.prog X.w) X.A (assignInOrder ((assignEach ts X.env).map (·.2)) us) (fun _ s' => ∃ σ' H', Inv X pins σ' H' s' ∧ Q σ' H') X.xe s
section
variable {X : Cx} {pos : Pos}
def gName (i : Nat) : TG := fun v σ H Q => Q (σ.set i (some v)) H
theorem pg_name {i : Nat} {x : Str} (hN : X.N.Nodup) (hi : X.N[i]? = some x) (hx : Loc X.env.scope x) (hf : X.fn x = true ∨ X.env.scope.names.lookup x = some .local := by first | exact .inl rfl | exact .inr rfl | assumption) : PG X (.Name x pos) (gName i) := by
  intro pins s σ H v u Q I r h
  exact wpAny_assign_Name (store_ok I hN hi hx r (fun s' I' => ⟨_, H, I', h⟩) hf)
def gNil : TGs := fun vs σ H Q => vs = [] ∧ Q σ H
def gCons (t : TG) (u : TGs) : TGs := fun vs σ H Q => ∃ v r, vs = v :: r ∧ t v σ H fun σ' H' => u r σ' H' Q
theorem pgs_nil : PGs X [] gNil := by
  intro pins s σ H vs us Q I r h
  obtain ⟨e, h⟩ := h
  subst e
  cases r
  exact assignInOrder_nil ⟨σ, H, I, h⟩
theorem pgs_cons {e : Expr} {es : List Expr} {t : TG} {u : TGs} (h1 : PG X e t) (h2 : PGs X es u)
    (hs : (assignEach (e :: es) X.env).map (·.2) = assign e X.env :: (assignEach es X.env).map (·.2) := by rfl) : PGs X (e :: es) (gCons t u) := by
  intro pins s σ H vs us Q I r h
  obtain ⟨v, vr, e1, h⟩ := h
  subst e1
  cases r with
  | cons r rr =>
    rw [hs]
    refine assignInOrder_cons (thn (h1 pins s σ H _ _ _ I r h) fun _ s1 ⟨σ1, H1, I1, q1⟩ => ?_)
    exact h2 pins s1 σ1 H1 _ _ Q I1 rr q1
def gTup (K : PySem.W.Frag) (n : Nat) (t : TGs) : TG := fun v σ H Q => ∃ a xs, v = .ref a ∧ SqT K H a xs ∧ xs.length = n ∧ t xs σ H Q
theorem pg_tup {es : List Expr} {k : Nat} {t : TGs} {n : Nat} (hc : X.calm = true) (h : PGs X es t)
    (hn : (assignEach es X.env).length = n := by rfl) (hst : (assignEach es X.env).findIdx? (·.1) = none := by rfl) : PG X (.Tuple es k pos) (gTup X.K n t) := by
  intro pins s σ H v u Q I r hw
  obtain ⟨a, xs, e1, hq, hl, hw⟩ := hw
  subst e1
  cases r
  obtain ⟨its, rv, ht, hz⟩ := I.tuple hq
  refine assign_Tuple_tuple (I.ok.hd hc) ht (by simp [hn, ← hl, rv.length]) hst fun h' hx => ?_
  have I1 : Inv X pins σ H { s with heap := h' } := I.kept (t' := s.toks) fun b o e => hx b o (Nat.ne_of_lt (Heap.lt_size e)) e
  exact h pins _ σ H xs _ Q I1 (by simpa using rv) hw
def tAsg (te : TE) (g : TG) : TS := fun D σ H => te σ H fun x H1 => g x σ H1 D.nx
theorem ps_set {i : Nat} {x : Str} {e : Expr} {te : TE} {pos' : Pos} (hN : X.N.Nodup) (hi : X.N[i]? = some x) (hx : Loc X.env.scope x) (he : PE X e te) (hs : swapsWith e (some (.Name x pos')) pos.line X.env = pure false := by rfl) (hf : X.fn x = true ∨ X.env.scope.names.lookup x = some .local := by first | exact .inl rfl | exact .inr rfl | assumption) :
    PS X (.Assign [.Name x pos'] e pos) (tAsg te (gName i)) := by
  intro pins s σ H D I h
  refine wpAny_Assign_Name (thn (he pins s σ H _ I h) fun v s1 ⟨y, H1, I1, r1, q1⟩ => ?_) hs
  exact store_ok I1 hN hi hx r1 (fun s2 I2 => ⟨_, H1, I2, q1⟩) hf
end


structure It where
  go : Nat → Hp → Prop
  yld : Nat → Hp → V → Hp → Prop
  stop : Nat → Hp → Prop
def FpOk (X : Cx) (pins : List (Addr × Obj)) (H : Hp) (b : Addr) : Prop :=
  H b = none ∧ b ≠ X.env.locals ∧ b ∉ X.fs ∧ (b ∈ X.ex ∨ X.s_0.heap.objs.size ≤ b) ∧ (∀ x c, X.env.cells.lookup x = some c → c ≠ b) ∧ ∀ p ∈ X.pn ++ pins, p.1 ≠ b
theorem Inv.fpOk {X : Cx} {pins : List (Addr × Obj)} {σ : St} {H H' : Hp} {s : Shared} {b : Addr} (I : Inv X pins σ H s) (hb : s.heap.objs.size ≤ b) (hn : H' b = none) : FpOk X pins H' b := by
  refine ⟨hn, Nat.ne_of_gt (Nat.lt_of_lt_of_le I.lt hb), I.nofs hb, .inr (Nat.le_trans I.sz hb), fun x c e z => ?_, fun p hp z => ?_⟩
  · obtain ⟨v, q⟩ := I.cell x c e
    exact absurd (Nat.lt_of_lt_of_le q.lt (by rw [z]; exact hb)) (Nat.lt_irrefl _)
  · exact absurd (Nat.lt_of_lt_of_le (Heap.lt_size (I.pin p hp).1) (by rw [z]; exact hb)) (Nat.lt_irrefl _)
structure Turn (P : Program) (w : World) (K : PySem.W.Frag) (tg : Expr) (J : It) (fp : List Addr) (it : Addr) (tn : Nat → Heap → Prop) : Prop where
  mem : it ∈ fp
  obj : ∀ i h, tn i h → ∀ b ∈ fp, ∃ o, h.get? b = some o ∧ ∀ v, o.data ≠ .cell v
  keep : ∀ i h h', tn i h → (∀ b ∈ fp, ∀ o, h.get? b = some o → h'.get? b = some o) → tn i h'
  item : ∀ (X : Cx), X.prog = P → X.w = w → X.K = K → X.calm = true → ∀ (i : Nat) (pins : List (Addr × Obj)) (s : Shared) (σ : St) (H : Hp) (E : Value → Shared → Prop), Inv X pins σ H s → (∀ b ∈ fp, FpOk X pins H b) → tn i s.heap → J.go i H →
    wpAny (model P w) X.A (pyNext (.ref it)) (fun r s1 => ∃ u, r = some u ∧
      wpAny (model P w) X.A (letOwnedTupleGo tg (.ref it) u) (fun _ s2 => ∃ x H', Inv X pins σ H' s2 ∧ RelV x u ∧ J.yld i H x H' ∧ tn (i + 1) s2.heap ∧ ∀ b ∈ fp, H' b = none) E s1) E s
  done : ∀ (X : Cx), X.prog = P → X.w = w → X.K = K → X.calm = true → ∀ (i : Nat) (pins : List (Addr × Obj)) (s : Shared) (σ : St) (H : Hp) (E : Value → Shared → Prop), Inv X pins σ H s → (∀ b ∈ fp, FpOk X pins H b) → tn i s.heap → J.stop i H →
    wpAny (model P w) X.A (pyNext (.ref it)) (fun r s1 => r = none ∧ Inv X pins σ H s1) E s
  self : ∀ (A : Around) (i : Nat) (s : Shared) (Q : Value → Shared → Prop) (E : Value → Shared → Prop), tn i s.heap → Q (.ref it) s → wpAny (model P w) A (pyIter (.ref it)) Q E s
abbrev TI := St → Hp → (It → Hp → Prop) → Prop
def PIE (X : Cx) (pins : List (Addr × Obj)) (σ : St) (tg : Expr) (R : It → Hp → Prop) (itv : Value) (s2 : Shared) : Prop :=
  ∃ (it : Addr) (fp : List Addr) (tn : Nat → Heap → Prop) (J : It) (H' : Hp), itv = .ref it ∧ Inv X pins σ H' s2 ∧ Turn X.prog X.w X.K tg J fp it tn ∧ tn 0 s2.heap ∧ (∀ b ∈ fp, FpOk X pins H' b) ∧ R J H'
def PI (X : Cx) (tg iter : Expr) (wi : TI) : Prop :=
  ∀ (pins : List (Addr × Obj)) (s : Shared) (σ : St) (H : Hp) (R : It → Hp → Prop), Inv X pins σ H s → wi σ H R →
    wpAny (model X.prog X.w) X.A (eval iter X.env) (fun v s1 => wpAny (model X.prog X.w) X.A (pyIter v) (PIE X pins σ tg R) X.xe s1) X.xe s

theorem go_of {M : Model} {A : Around} {E : Value → Shared → Prop} {s : Shared} {tg : Expr} {it : Addr} {u : Value} {o : Obj} {n : String} {vs : Array Value} {Q : Unit → Shared → Prop} (ho : s.heap.get? it = some o) (hc : o.cls = .type n) (hd : o.data = .fields vs)
    (hn : ["enumerate", "zip", "dict_itemiterator", "dict_reverseitemiterator", "odict_iterator", "itertools.zip_longest", "itertools.pairwise"].contains n = false) (hQ : Q () s) : wpAny M A (letOwnedTupleGo tg (.ref it) u) Q E s := by
  unfold letOwnedTupleGo
  cases tg <;> first
    | exact wpAny_pure hQ
    | (cases u <;> first
        | exact wpAny_pure hQ
        | (refine wpAny_bind (wpAny_load ho ?_)
           rw [hc, hd]
           show wpAny M A (if (["enumerate", "zip", "dict_itemiterator", "dict_reverseitemiterator", "odict_iterator", "itertools.zip_longest", "itertools.pairwise"].contains n && vs[0]? == some (rawInt _)) = true then _ else _) Q E s
           rw [if_neg (by intro h; rw [hn, Bool.false_and] at h; cases h)]
           exact wpAny_pure hQ))

def Itl (K : PySem.W.Frag) (a : Addr) : It :=
  ⟨fun i H => ∃ xs x, SqL K H a xs ∧ xs[i]? = some x, fun i H x H' => H' = H ∧ ∀ xs, SqL K H a xs → xs[i]? = some x, fun i H => ∃ xs, SqL K H a xs ∧ xs.length ≤ i⟩
def Itt (K : PySem.W.Frag) (a : Addr) : It :=
  ⟨fun i H => ∃ xs x, SqT K H a xs ∧ xs[i]? = some x, fun i H x H' => H' = H ∧ ∀ xs, SqT K H a xs → xs[i]? = some x, fun i H => ∃ xs, SqT K H a xs ∧ xs.length ≤ i⟩
def Itr (lo : Int) (n : Nat) : It := ⟨fun i _ => i < n, fun i H x H' => H' = H ∧ x = .int (lo + i), fun i _ => n ≤ i⟩
theorem turn_list {P : Program} {w : World} {K : PySem.W.Frag} {tg : Expr} (a it : Addr) : Turn P w K tg (Itl K a) [it] it (fun i h => h.IsListIter it a i) where
  mem := by simp
  obj := fun i h st b hb => by
    have e : b = it := by simpa using hb
    subst e
    obtain ⟨o, e, c, d⟩ := st
    exact ⟨o, e, fun v z => by rw [d] at z; cases z⟩
  keep := fun i h h' st k => st.at fun o e => k it (by simp) o e
  item := by
    intro X hP hw hK hc i pins s σ H E I hf st hg
    subst hP hw hK
    obtain ⟨xs, x, hq, hx⟩ := hg
    obtain ⟨its, rv, p, hz⟩ := I.list hq
    obtain ⟨u, hu, ru⟩ := rv.get hx
    obtain ⟨f0, f1, f2, f3, f4, f5⟩ := hf it (by simp)
    refine wpAny_pyNext_list_item st p.isList (x := u) (by simpa using hu) fun h' st' sb => ?_
    have I1 : Inv X pins σ H { s with heap := h' } := I.turned (t' := s.toks) (fun b o hb e => (sb.2 b hb).trans e) f0 f1 f3 f4 f5
    obtain ⟨o, e, c, d⟩ := id st'
    exact ⟨u, rfl, go_of (s := { s with heap := h' }) e c d (by decide) ⟨x, H, I1, ru, ⟨rfl, fun ys hy => by rw [I.list_inj hy hq]; exact hx⟩, st', fun b hb => (hf b hb).1⟩⟩
  done := by
    intro X hP hw hK hc i pins s σ H E I hf st hg
    subst hP hw hK
    obtain ⟨xs, hq, hx⟩ := hg
    obtain ⟨its, rv, p, hz⟩ := I.list hq
    obtain ⟨f0, f1, f2, f3, f4, f5⟩ := hf it (by simp)
    have hl := rv.length
    exact wpAny_pyNext_list_end (I.ok.hd hc) st p.isList (by simp; omega) fun h' eb => ⟨rfl, I.turned (t' := s.toks) (fun b o hb e => eb b o hb e) f0 f1 f3 f4 f5⟩
  self := fun _ _ _ _ _ st h => wpAny_pyIter_listiter st h
theorem turn_tuple {P : Program} {w : World} {K : PySem.W.Frag} {tg : Expr} (a it : Addr) : Turn P w K tg (Itt K a) [it] it (fun i h => h.IsTupleIter it a i) where
  mem := by simp
  obj := fun i h st b hb => by
    have e : b = it := by simpa using hb
    subst e
    obtain ⟨o, e, c, d⟩ := st
    exact ⟨o, e, fun v z => by rw [d] at z; cases z⟩
  keep := fun i h h' st k => st.at fun o e => k it (by simp) o e
  item := by
    intro X hP hw hK hc i pins s σ H E I hf st hg
    subst hP hw hK
    obtain ⟨xs, x, hq, hx⟩ := hg
    obtain ⟨its, rv, p, hz⟩ := I.tuple hq
    obtain ⟨u, hu, ru⟩ := rv.get hx
    obtain ⟨f0, f1, f2, f3, f4, f5⟩ := hf it (by simp)
    refine wpAny_pyNext_tuple_item st (show s.heap.IsTuple a its.toArray from p) (x := u) (by simpa using hu) fun h' st' sb => ?_
    have I1 : Inv X pins σ H { s with heap := h' } := I.turned (t' := s.toks) (fun b o hb e => (sb.2 b hb).trans e) f0 f1 f3 f4 f5
    obtain ⟨o, e, c, d⟩ := id st'
    exact ⟨u, rfl, go_of (s := { s with heap := h' }) e c d (by decide) ⟨x, H, I1, ru, ⟨rfl, fun ys hy => by rw [I.tuple_inj hy hq]; exact hx⟩, st', fun b hb => (hf b hb).1⟩⟩
  done := by
    intro X hP hw hK hc i pins s σ H E I hf st hg
    subst hP hw hK
    obtain ⟨xs, hq, hx⟩ := hg
    obtain ⟨its, rv, p, hz⟩ := I.tuple hq
    obtain ⟨f0, f1, f2, f3, f4, f5⟩ := hf it (by simp)
    have hl := rv.length
    exact wpAny_pyNext_tuple_end (I.ok.hd hc) st (show s.heap.IsTuple a its.toArray from p) (by simp; omega) fun h' eb => ⟨rfl, I.turned (t' := s.toks) (fun b o hb e => eb b o hb e) f0 f1 f3 f4 f5⟩
  self := fun _ _ _ _ _ st h => wpAny_pyIter_tupleiter st h
theorem turn_range {P : Program} {w : World} {K : PySem.W.Frag} {tg : Expr} (it : Addr) (lo : Int) (n : Nat) : Turn P w K tg (Itr lo n) [it] it (fun i h => IsRangeIter h it (lo + (i : Nat) * 1) ((n : Int) - (i : Nat)) 1) where
  mem := by simp
  obj := fun i h st b hb => by
    have e : b = it := by simpa using hb
    subst e
    exact ⟨_, st, fun v z => by
      have z' : Data.fields _ = Data.cell v := z
      cases z'⟩
  keep := fun i h h' st k => k it (by simp) _ st
  item := by
    intro X hP hw hK hc i pins s σ H E I hf st hg
    subst hP hw hK
    obtain ⟨f0, f1, f2, f3, f4, f5⟩ := hf it (by simp)
    have W := Walks.range (prog := X.prog) (w := X.w) (I.ok.hd hc) it lo 1 n
    refine W.item i s _ _ hg st fun v h' tk hv st' kk => ?_
    obtain ⟨t, rfl⟩ := hv
    have I1 : Inv X pins σ H { s with heap := h', toks := tk } := I.turned (fun b o hb e => kk b o (by simpa using hb) e) f0 f1 f3 f4 f5
    refine ⟨_, rfl, go_of (s := { s with heap := h', toks := tk }) (n := "range_iterator") st' rfl rfl (by decide) ⟨.int (lo + i), H, I1, ⟨t, ?_⟩, ⟨rfl, rfl⟩, st', fun b hb => (hf b hb).1⟩⟩
    rw [Int.mul_one]
  done := by
    intro X hP hw hK hc i pins s σ H E I hf st hg
    subst hP hw hK
    obtain ⟨f0, f1, f2, f3, f4, f5⟩ := hf it (by simp)
    exact wpAny_pyNext_range_end (I.ok.hd hc) st (by have : n ≤ i := hg; omega) fun h' eb => ⟨rfl, I.turned (t' := s.toks) (fun b o hb e => eb b o hb e) f0 f1 f3 f4 f5⟩
  self := fun _ _ _ _ _ st h => wpAny_pyIter_rangeiter st h
end L2

namespace L2
open PySem PySem.Spec PyProof.Rows
section
variable {X : Cx} {tg : Expr}
def iList (K : PySem.W.Frag) (tl : TE) : TI := fun σ H R => tl σ H fun x H1 => ∃ a, x = .ref a ∧ (∃ xs, SqL K H1 a xs) ∧ R (Itl K a) H1
def iTup (K : PySem.W.Frag) (tl : TE) : TI := fun σ H R => tl σ H fun x H1 => ∃ a, x = .ref a ∧ (∃ xs, SqT K H1 a xs) ∧ R (Itt K a) H1
theorem pi_list {l : Expr} {tl : TE} (hl : PE X l tl) : PI X tg l (iList X.K tl) := by
  intro pins s σ H R I h
  refine thn (hl pins s σ H _ I h) fun v s1 ⟨x, H1, I1, r1, q1⟩ => ?_
  obtain ⟨a, e, ⟨xs, hq⟩, q⟩ := q1
  subst e
  cases r1
  obtain ⟨its, rv, p, hz⟩ := I1.list hq
  refine wpAny_pyIter_list p.isList ?_
  refine ⟨s1.heap.objs.size, [s1.heap.objs.size], _, _, H1, rfl, I1.kept (t' := s1.toks) fun b o e => Heap.get?_push_of_some _ e, turn_list a _, ⟨_, Heap.get?_push_size _ rfl, rfl, rfl⟩, fun b hb => ?_, q⟩
  have e : b = s1.heap.objs.size := by simpa using hb
  subst e
  exact I1.fpOk (Nat.le_refl _) (I1.hok.fresh (Nat.le_refl _))
theorem pi_tup {l : Expr} {tl : TE} (hl : PE X l tl) : PI X tg l (iTup X.K tl) := by
  intro pins s σ H R I h
  refine thn (hl pins s σ H _ I h) fun v s1 ⟨x, H1, I1, r1, q1⟩ => ?_
  obtain ⟨a, e, ⟨xs, hq⟩, q⟩ := q1
  subst e
  cases r1
  obtain ⟨its, rv, p, hz⟩ := I1.tuple hq
  refine wpAny_pyIter_tuple (show s1.heap.IsTuple a its.toArray from p) ?_
  refine ⟨s1.heap.objs.size, [s1.heap.objs.size], _, _, H1, rfl, I1.kept (t' := s1.toks) fun b o e => Heap.get?_push_of_some _ e, turn_tuple a _, ⟨_, Heap.get?_push_size _ rfl, rfl, rfl⟩, fun b hb => ?_, q⟩
  have e : b = s1.heap.objs.size := by simpa using hb
  subst e
  exact I1.fpOk (Nat.le_refl _) (I1.hok.fresh (Nat.le_refl _))
theorem range_it {pins : List (Addr × Obj)} {σ : St} {H : Hp} {s : Shared} {R : It → Hp → Prop} {E : Value → Shared → Prop} {lo hi : Int} {t u v : Tok} {tk : Nat} (I : Inv X pins σ H s) (h1 : -(2 ^ 62) ≤ lo) (h2 : lo < 2 ^ 62) (h3 : -(2 ^ 62) ≤ hi) (h4 : hi < 2 ^ 62)
    (q : R (Itr lo (hi - lo).toNat) H) : wpAny (model X.prog X.w) X.A (pyIter (.ref s.heap.objs.size)) (PIE X pins σ tg R) E { s with heap := s.heap.push { cls := .type "range", data := .fields #[.int lo t, .int hi u, .int 1 v] }, toks := tk } := by
  refine wpAny_pyIter_range (IsRange.new ..) (small_one h1 h2 h3 h4) ?_
  have I1 : Inv X pins σ H { s with heap := s.heap.push { cls := .type "range", data := .fields #[.int lo t, .int hi u, .int 1 v] }, toks := tk } := I.kept fun b o e => Heap.get?_push_of_some _ e
  refine ⟨(s.heap.push { cls := .type "range", data := .fields #[.int lo t, .int hi u, .int 1 v] }).objs.size, [(s.heap.push { cls := .type "range", data := .fields #[.int lo t, .int hi u, .int 1 v] }).objs.size], _, _, H, rfl,
    I1.kept (t' := tk) fun b o e => Heap.get?_push_of_some _ e, turn_range _ lo (hi - lo).toNat, ?_, fun b hb => ?_, q⟩
  · have e1 : lo + ((0 : Nat) : Int) * 1 = lo := by simp
    have e2 : (((hi - lo).toNat : Nat) : Int) - ((0 : Nat) : Int) = Builtin.Range.rangeSize lo hi 1 := by rw [rangeSize_one]; split <;> omega
    show IsRangeIter _ _ (lo + ((0 : Nat) : Int) * 1) ((((hi - lo).toNat : Nat) : Int) - ((0 : Nat) : Int)) 1
    rw [e1, e2]
    exact Heap.get?_push_size _ rfl
  · have e : b = (s.heap.push { cls := .type "range", data := .fields #[.int lo t, .int hi u, .int 1 v] }).objs.size := by simpa using hb
    subst e
    exact I1.fpOk (Nat.le_refl _) (I1.hok.fresh (Nat.le_refl _))
def iRng1 (ta : TA) : TI := fun σ H R => ta σ H fun vs H1 => ∃ j : Int, vs = [.int j] ∧ -(2 ^ 62) ≤ j ∧ j < 2 ^ 62 ∧ R (Itr 0 j.toNat) H1
def iRng2 (ta : TA) : TI := fun σ H R => ta σ H fun vs H1 => ∃ i j : Int, vs = [.int i, .int j] ∧ (-(2 ^ 62) ≤ i ∧ i < 2 ^ 62 ∧ -(2 ^ 62) ≤ j ∧ j < 2 ^ 62) ∧ R (Itr i (j - i).toNat) H1
theorem pi_range1 {a : Expr} {ta : TA} {p pos : Pos} (hg : Gl X "range") (hm : X.mg "range" = none) (ha : PA X [a] ta) (hs : starEach [a] X.env = [(false, eval a X.env)] := by rfl) : PI X tg (.Call (.Name "range" p) [a] [] pos) (iRng1 ta) := by
  intro pins s σ H R I h
  refine Call_ (ld_blt I hg hm boot_range (PyProof.Rows.callWith_type1 (thn (ha pos pins s σ H _ I h) fun us s1 ⟨vs, H1, I1, r1, q1⟩ => ?_) hs rfl))
  obtain ⟨j, e, q1, q2, q⟩ := q1
  subst e
  cases r1 with
  | cons r rr =>
    cases rr
    obtain ⟨t, rfl⟩ := r
    exact call_range_1 (range_it I1 (by omega) (by omega) q1 q2 (by simpa using q))
theorem pi_range2 {a b : Expr} {ta : TA} {p pos : Pos} (hg : Gl X "range") (hm : X.mg "range" = none) (ha : PA X [a, b] ta) (hs : starEach [a, b] X.env = [(false, eval a X.env), (false, eval b X.env)] := by rfl) (hs2 : starEach [b] X.env = [(false, eval b X.env)] := by rfl) :
    PI X tg (.Call (.Name "range" p) [a, b] [] pos) (iRng2 ta) := by
  intro pins s σ H R I h
  refine Call_ (ld_blt I hg hm boot_range (PyProof.Rows.callWith_type1 (thn (ha pos pins s σ H _ I h) fun us s1 ⟨vs, H1, I1, r1, q1⟩ => ?_) (by rw [hs, hs2]) (by rw [hs2]; rfl)))
  obtain ⟨i, j, e, ⟨q1, q2, q3, q4⟩, q⟩ := q1
  subst e
  cases r1 with
  | cons r rr =>
    cases rr with
    | cons r' rr =>
      cases rr
      obtain ⟨t, rfl⟩ := r
      obtain ⟨t', rfl⟩ := r'
      exact call_range_2 (range_it I1 q1 q2 q3 q4 q)

def tFor (wi : TI) (g : TG) (tb : TS) : TS := fun D σ H => wi σ H fun J H1 => ∃ W : Nat → Nat → St → Hp → Prop, (∃ m, W 0 m σ H1) ∧ ∀ i m σ H, W i m σ H →
  (J.stop i H ∧ D.nx σ H) ∨ (J.go i H ∧ ∃ N : St → Hp → Prop, (∀ σ' H', N σ' H' → ∃ m', m' < m ∧ W (i + 1) m' σ' H') ∧ ∀ x H', J.yld i H x H' → g x σ H' fun σ2 H2 => tb { D with nx := N, ct := N, bk := D.nx } σ2 H2)
def pinsAt (fp : List Addr) (h : Heap) : List (Addr × Obj) := fp.filterMap fun b => (h.get? b).map fun o => (b, o)
theorem mem_pinsAt {fp : List Addr} {h : Heap} {b : Addr} {o : Obj} (hb : b ∈ fp) (e : h.get? b = some o) : (b, o) ∈ pinsAt fp h := List.mem_filterMap.mpr ⟨b, hb, by rw [e]; rfl⟩
theorem of_pinsAt {fp : List Addr} {h : Heap} {p : Addr × Obj} (hp : p ∈ pinsAt fp h) : p.1 ∈ fp ∧ h.get? p.1 = some p.2 := by
  obtain ⟨b, hb, e⟩ := List.mem_filterMap.mp hp
  cases q : h.get? b with
  | none => rw [q] at e; cases e
  | some o =>
    rw [q] at e
    have e' : (b, o) = p := Option.some.inj e
    subst e'
    exact ⟨hb, q⟩
theorem Inv.pinned {pins : List (Addr × Obj)} {σ : St} {H : Hp} {s : Shared} {fp : List Addr} (I : Inv X pins σ H s) (hf : ∀ b ∈ fp, FpOk X pins H b) (ho : ∀ b ∈ fp, ∃ o, s.heap.get? b = some o ∧ ∀ v, o.data ≠ .cell v) : Inv X (pins ++ pinsAt fp s.heap) σ H s :=
  I.pins_of fun p hp => (List.mem_append.mp hp).elim (fun z => I.pin p (List.mem_append_right _ z)) fun z => by
    obtain ⟨hb, e⟩ := of_pinsAt z
    obtain ⟨f0, f1, f2, _⟩ := hf p.1 hb
    obtain ⟨o, e', d⟩ := ho p.1 hb
    rw [e] at e'; cases e'
    exact ⟨e, f0, f1, f2, d⟩
theorem Inv.unpinned {pins pl : List (Addr × Obj)} {σ : St} {H : Hp} {s : Shared} (I : Inv X (pins ++ pl) σ H s) : Inv X pins σ H s := I.pins_of fun p hp => I.pin p (List.mem_append_right _ (List.mem_append_left _ hp))
theorem ps_for {iter : Expr} {body : List Stmt} {wi : TI} {g : TG} {tb : TS} {pos : Pos} (hp : PassesOwn (model X.prog X.w) X.A X.env X.xe) (hc : X.calm = true) (hi : PI X tg iter wi) (hg : PG X tg g) (hb : PSs X body tb)
    (hs : ∀ x, foldedSetIterable iter X.env x = pure x := by intro _; rfl) : PS X (.For tg iter body [] pos) (tFor wi g tb) := by
  intro pins s σ H D I h
  refine wpAny_For (thn (hi pins s σ H _ I h) fun v s1 h1 => thn h1 fun itv s2 h2 => ?_) hs
  obtain ⟨it, fp, tn, J, H2, e, I2, T, st2, f2, W, ⟨m0, w0⟩, turn⟩ := h2
  subst e
  have stat : ∀ {H' : Hp}, (∀ b ∈ fp, H' b = none) → ∀ b ∈ fp, FpOk X pins H' b := fun hn b hb => ⟨hn b hb, (f2 b hb).2⟩
  refine codeAny_forLoop_any (fun n s' => ∃ i σ' H', Inv X pins σ' H' s' ∧ tn i s'.heap ∧ (∀ b ∈ fp, H' b = none) ∧ W i n σ' H') ?_ m0 ⟨0, σ, H2, I2, st2, fun b hb => (f2 b hb).1, w0⟩
  rintro n s3 ⟨i, σ3, H3, I3, st3, fr3, w3⟩
  rcases turn i n σ3 H3 w3 with ⟨stop, qn⟩ | ⟨go, N, hN, step⟩
  · refine wpAny_passesOwn hp (thn (T.done X rfl rfl rfl hc i pins s3 σ3 H3 X.xe I3 (stat fr3) st3 stop) fun r s4 ⟨hr, I4⟩ => ?_)
    subst hr
    exact wpAny_execs_nil ⟨σ3, H3, I4, qn⟩
  · refine wpAny_passesOwn hp (thn (T.item X rfl rfl rfl hc i pins s3 σ3 H3 X.xe I3 (stat fr3) st3 go) fun r s4 ⟨u, hr, h4⟩ => ?_)
    subst hr
    refine wpAny_passesOwn hp (thn h4 fun _ s5 ⟨x, H5, I5, r5, y5, st5, fr5⟩ => ?_)
    have I5' := I5.pinned (stat fr5) (T.obj _ _ st5)
    refine wpAny_passesOwn hp (thn (hg _ s5 σ3 H5 x u _ I5' r5 (step x H5 y5)) fun _ s6 ⟨σ6, H6, I6, q6⟩ => ?_)
    refine wpAny_passesOwn hp (thn (hb _ s6 σ6 H6 _ I6 q6) fun f s7 q7 => ?_)
    have again : ∀ {σ7 : St} {H7 : Hp}, Inv X (pins ++ pinsAt fp s5.heap) σ7 H7 s7 → N σ7 H7 → ∃ m, m < n ∧ ∃ i σ' H', Inv X pins σ' H' s7 ∧ tn i s7.heap ∧ (∀ b ∈ fp, H' b = none) ∧ W i m σ' H' := fun {σ7 H7} I7 n7 => by
      obtain ⟨m', hm, w7⟩ := hN σ7 H7 n7
      refine ⟨m', hm, i + 1, σ7, H7, I7.unpinned, T.keep _ _ _ st5 fun b hb o e => (I7.pin (b, o) (List.mem_append_right _ (List.mem_append_right _ (mem_pinsAt hb e)))).1, fun b hb => ?_, w7⟩
      obtain ⟨o, e, d⟩ := T.obj _ _ st5 b hb
      exact (I7.pin (b, o) (List.mem_append_right _ (List.mem_append_right _ (mem_pinsAt hb e)))).2.1
    cases f with
    | next => obtain ⟨σ7, H7, I7, n7⟩ := q7; exact again I7 n7
    | cont => obtain ⟨σ7, H7, I7, n7⟩ := q7; exact again I7 n7
    | brk => obtain ⟨σ7, H7, I7, q7⟩ := q7; exact ⟨σ7, H7, I7.unpinned, q7⟩
    | ret v => obtain ⟨x7, σ7, H7, I7, r7, q7⟩ := q7; exact ⟨x7, σ7, H7, I7.unpinned, r7, q7⟩
end

theorem for_list {K : PySem.W.Frag} {a : Addr} {xs : List V} {g : TG} {tb : TS} {D : Ends} {σ : St} {H : Hp} (Pv : Nat → St → Hp → Prop) (h0 : Pv 0 σ H) (hl : ∀ i σ H, i ≤ xs.length → Pv i σ H → SqL K H a xs)
    (hs : ∀ i x σ H, xs[i]? = some x → Pv i σ H → g x σ H fun σ2 H2 => tb { D with nx := Pv (i + 1), ct := Pv (i + 1), bk := D.nx } σ2 H2) (hd : ∀ σ H, Pv xs.length σ H → D.nx σ H) :
    ∃ W : Nat → Nat → St → Hp → Prop, (∃ m, W 0 m σ H) ∧ ∀ i m σ H, W i m σ H →
      ((Itl K a).stop i H ∧ D.nx σ H) ∨ ((Itl K a).go i H ∧ ∃ N : St → Hp → Prop, (∀ σ' H', N σ' H' → ∃ m', m' < m ∧ W (i + 1) m' σ' H') ∧ ∀ x H', (Itl K a).yld i H x H' → g x σ H' fun σ2 H2 => tb { D with nx := N, ct := N, bk := D.nx } σ2 H2) := by
  refine ⟨fun i m σ H => m = xs.length - i ∧ i ≤ xs.length ∧ Pv i σ H, ⟨xs.length, by simp, Nat.zero_le _, h0⟩, ?_⟩
  rintro i m σ H ⟨rfl, hi, p⟩
  have q := hl i σ H hi p
  by_cases hlt : i < xs.length
  · refine .inr ⟨⟨xs, xs[i], q, by simp [hlt]⟩, Pv (i + 1), fun σ' H' p' => ⟨xs.length - (i + 1), by omega, rfl, hlt, p'⟩, fun x H' y => ?_⟩
    obtain ⟨e, y⟩ := y
    subst e
    exact hs i x σ _ (y xs q) p
  · have e : i = xs.length := by omega
    subst e
    exact .inl ⟨⟨xs, q, Nat.le_refl _⟩, hd σ H p⟩
end L2

namespace L2
open PySem PySem.Spec PyProof.Rows

abbrev R2 := V → V → Hp → VK → Prop
def OpR (X : Cx) (f : Value → Value → Sem Value) (r : R2) : Prop :=
  ∀ (pins : List (Addr × Obj)) (s : Shared) (σ : St) (H : Hp) (x y : V) (v u : Value) (Q : VK), Inv X pins σ H s → RelV x v → RelV y u → r x y H Q →
    wpAny (model X.prog X.w) X.A (f v u) (EP X pins σ Q) X.xe s
def UnR (X : Cx) (f : Value → Sem Value) (r : V → Hp → VK → Prop) : Prop :=
  ∀ (pins : List (Addr × Obj)) (s : Shared) (σ : St) (H : Hp) (x : V) (v : Value) (Q : VK), Inv X pins σ H s → RelV x v → r x H Q →
    wpAny (model X.prog X.w) X.A (f v) (EP X pins σ Q) X.xe s
def CallR (X : Cx) (f : Value) (r : List V → Hp → VK → Prop) : Prop :=
  ∀ (pins : List (Addr × Obj)) (s : Shared) (σ : St) (H : Hp) (xs : List V) (us : List Value) (Q : VK), Inv X pins σ H s → Vals xs us → r xs H Q →
    wpAny (model X.prog X.w) X.A (call f us) (EP X pins σ Q) X.xe s
def tOp (r : R2) (ta tb : TE) : TE := fun σ H Q => ta σ H fun x H1 => tb σ H1 fun y H2 => r x y H2 Q
def tUn (r : V → Hp → VK → Prop) (ta : TE) : TE := fun σ H Q => ta σ H fun x H1 => r x H1 Q
def rI (C : Int → Int → Prop) (g : Int → Int → V) : R2 := fun x y H Q => ∃ i j, x = .int i ∧ y = .int j ∧ C i j ∧ Q (g i j) H
def rI0 (g : Int → Int → V) : R2 := fun x y H Q => ∃ i j, x = .int i ∧ y = .int j ∧ Q (g i j) H
def rU (g : Int → V) : V → Hp → VK → Prop := fun x H Q => ∃ i, x = .int i ∧ Q (g i) H

section
variable {X : Cx} {a b c : Expr} {ta tb tc : TE} {pos : Pos}

theorem binT (ha : PE X a ta) (hb : PE X b tb) {pins : List (Addr × Obj)} {s : Shared} {σ : St} {H : Hp} {R : V → V → Hp → Prop} (I : Inv X pins σ H s)
    (h : ta σ H fun x H1 => tb σ H1 fun y H2 => R x y H2) {Q : Value → Shared → Prop} {f : Value → Value → Sem Value}
    (hf : ∀ v u s2 x y H2, Inv X pins σ H2 s2 → RelV x v → RelV y u → R x y H2 → wpAny (model X.prog X.w) X.A (f v u) Q X.xe s2) :
    wpAny (model X.prog X.w) X.A (eval a X.env) (fun v s₁ => wpAny (model X.prog X.w) X.A (eval b X.env) (fun u s₂ => wpAny (model X.prog X.w) X.A (f v u) Q X.xe s₂) X.xe s₁) X.xe s := by
  refine thn (ha pins s σ H _ I h) fun v s1 ⟨x, H1, I1, r1, q1⟩ => ?_
  refine thn (hb pins s1 σ H1 _ I1 q1) fun u s2 ⟨y, H2, I2, r2, q2⟩ => ?_
  exact hf v u s2 x y H2 I2 r1 r2 q2

theorem pe_op {op : Operator} {r : R2} (ho : OpR X (binaryOp op) r) (ha : PE X a ta) (hb : PE X b tb) : PE X (.BinOp a op b pos) (tOp r ta tb) := by
  intro pins s σ H Q I h
  exact wpAny_BinOp (binT ha hb I h fun v u s2 x y H2 I2 rx ry q => ho pins s2 σ H2 x y v u Q I2 rx ry q)
theorem pe_un {op : UnaryOp} {r : V → Hp → VK → Prop} (ho : UnR X (unaryOp op) r) (ha : PE X a ta) : PE X (.UnaryOp op a pos) (tUn r ta) := by
  intro pins s σ H Q I h
  exact UnaryOp_ (thn (ha pins s σ H _ I h) fun v s1 ⟨x, H1, I1, r1, q1⟩ => ho pins s1 σ H1 x v Q I1 r1 q1)
theorem opI {f : Value → Value → Sem Value} {C : Int → Int → Prop} {g : Int → Int → Int}
    (rule : ∀ (i j : Int) (t u : Tok) (s : Shared) (Q : Value → Shared → Prop) (E : Value → Shared → Prop), C i j → Q (.int (g i j) s.toks) { s with toks := s.toks + 1 } → wpAny (model X.prog X.w) X.A (f (.int i t) (.int j u)) Q E s) :
    OpR X f (rI C fun i j => .int (g i j)) := by
  intro pins s σ H x y v u Q I rx ry h
  obtain ⟨i, j, rfl, rfl, hc, q⟩ := h
  obtain ⟨t, rfl⟩ := rx
  obtain ⟨t', rfl⟩ := ry
  exact rule i j t t' s _ _ hc ⟨.int (g i j), H, I.tok _, ⟨_, rfl⟩, q⟩
theorem opI0 {f : Value → Value → Sem Value} {g : Int → Int → Int}
    (rule : ∀ (i j : Int) (t u : Tok) (s : Shared) (Q : Value → Shared → Prop) (E : Value → Shared → Prop), Q (.int (g i j) s.toks) { s with toks := s.toks + 1 } → wpAny (model X.prog X.w) X.A (f (.int i t) (.int j u)) Q E s) :
    OpR X f (rI0 fun i j => .int (g i j)) := by
  intro pins s σ H x y v u Q I rx ry h
  obtain ⟨i, j, rfl, rfl, q⟩ := h
  obtain ⟨t, rfl⟩ := rx
  obtain ⟨t', rfl⟩ := ry
  exact rule i j t t' s _ _ ⟨.int (g i j), H, I.tok _, ⟨_, rfl⟩, q⟩
theorem opB0 {f : Value → Value → Sem Value} {g : Int → Int → Bool}
    (rule : ∀ (i j : Int) (t u : Tok) (s : Shared) (Q : Value → Shared → Prop) (E : Value → Shared → Prop), Q (.bool (g i j)) s → wpAny (model X.prog X.w) X.A (f (.int i t) (.int j u)) Q E s) :
    OpR X f (rI0 fun i j => .bl (g i j)) := by
  intro pins s σ H x y v u Q I rx ry h
  obtain ⟨i, j, rfl, rfl, q⟩ := h
  obtain ⟨t, rfl⟩ := rx
  obtain ⟨t', rfl⟩ := ry
  exact rule i j t t' s _ _ ⟨.bl (g i j), H, I, rfl, q⟩

def CMul (i j : Int) : Prop := (-(2 ^ 64) < i ∧ i < 2 ^ 64) ∨ (-(2 ^ 64) < j ∧ j < 2 ^ 64)
theorem CMul.ok {i j : Int} (h : CMul i j) : IntMulOk i j := by
  rcases h with ⟨h1, h2⟩ | ⟨h1, h2⟩
  · exact .of_left (intBits_le_64 h1 h2)
  · exact .of_right (intBits_le_64 h1 h2)
theorem op_add : OpR X (binaryOp .Add) (rI0 fun i j => .int (i + j)) := opI0 fun _ _ _ _ _ _ _ q => add_int q
theorem op_sub : OpR X (binaryOp .Sub) (rI0 fun i j => .int (i - j)) := opI0 fun _ _ _ _ _ _ _ q => sub_int q
theorem op_mul : OpR X (binaryOp .Mult) (rI CMul fun i j => .int (i * j)) := opI fun _ _ _ _ _ _ _ hc q => mul_int q hc.ok
theorem unI {f : Value → Sem Value} {g : Int → Int}
    (rule : ∀ (i : Int) (t : Tok) (s : Shared) (Q : Value → Shared → Prop) (E : Value → Shared → Prop), Q (.int (g i) s.toks) { s with toks := s.toks + 1 } → wpAny (model X.prog X.w) X.A (f (.int i t)) Q E s) :
    UnR X f (rU fun i => .int (g i)) := by
  intro pins s σ H x v Q I rx h
  obtain ⟨i, rfl, q⟩ := h
  obtain ⟨t, rfl⟩ := rx
  exact rule i t s _ _ ⟨.int (g i), H, I.tok _, ⟨_, rfl⟩, q⟩
theorem un_neg : UnR X (unaryOp .USub) (rU fun i => .int (-i)) := unI fun _ _ _ _ _ q => neg_int q
end

def scal : V → V → Bool
  | .non, .non => true | .non, .int _ => true | .int _, .non => true | .non, .bl _ => true | .bl _, .non => true | .non, .str _ => true | .str _, .non => true
  | .int _, .int _ => true | .bl _, .bl _ => true | .str _, .str _ => true | .byt _, .byt _ => true
  | .int _, .str _ => true | .str _, .int _ => true | .bl _, .str _ => true | .str _, .bl _ => true
  | _, _ => false
def rEq : R2 := fun x y H Q => scal x y = true ∧ Q (.bl (decide (x = y))) H
def rNe : R2 := fun x y H Q => scal x y = true ∧ Q (.bl (!decide (x = y))) H

theorem dec_int {i j : Int} : decide (V.int i = V.int j) = (i == j) := by
  rw [Bool.eq_iff_iff]
  simp
theorem dec_bl {i j : Bool} : decide (V.bl i = V.bl j) = (i == j) := by
  rw [Bool.eq_iff_iff]
  simp
theorem dec_str {i j : Str} : decide (V.str i = V.str j) = (i == j) := by
  rw [Bool.eq_iff_iff]
  simp
theorem dec_byt {i j : Array UInt8} : decide (V.byt i = V.byt j) = (i.toList == j.toList) := by
  rw [Bool.eq_iff_iff]
  cases i
  cases j
  simp

section
variable {X : Cx} {a b c : Expr} {ta tb tc : TE} {pos : Pos}
theorem fin_bl {pins : List (Addr × Obj)} {σ : St} {H : Hp} {s : Shared} {Q : VK} {k k' : Bool} (I : Inv X pins σ H s) (q : Q (.bl k) H) (e : k = k') : EP X pins σ Q (.bool k') s := by
  subst e
  exact ⟨.bl k, H, I, rfl, q⟩
theorem op_eq : OpR X (compareOp .Eq) rEq := by
  intro pins s σ H x y v u Q I rx ry h
  obtain ⟨hs, q⟩ := h
  cases x with
  | non =>
    cases rx
    cases y with
    | non => cases ry; exact PySem.EqNone.eq_none_none (fin_bl I q (by simp))
    | bl j => cases ry; exact PySem.EqNone.eq_none_bool (fin_bl I q (by simp))
    | int j => obtain ⟨t', rfl⟩ := ry; exact PySem.EqNone.eq_none_int (fin_bl I q (by simp))
    | str j => obtain ⟨t', rfl⟩ := ry; exact PySem.EqNone.eq_none_str (fin_bl I q (by simp))
    | _ => exact absurd (show false = true from hs) Bool.false_ne_true
  | bl i =>
    cases rx
    cases y with
    | non => cases ry; exact PySem.EqNone.eq_bool_none (fin_bl I q (by simp))
    | bl j => cases ry; exact eq_bool (fin_bl I q dec_bl)
    | str j => obtain ⟨t', rfl⟩ := ry; exact PySem.EqMixed.eq_bool_str (fin_bl I q (by simp))
    | _ => exact absurd (show false = true from hs) Bool.false_ne_true
  | int i =>
    obtain ⟨t, rfl⟩ := rx
    cases y with
    | non => cases ry; exact PySem.EqNone.eq_int_none (fin_bl I q (by simp))
    | int j => obtain ⟨t', rfl⟩ := ry; exact eq_int (fin_bl I q dec_int)
    | str j => obtain ⟨t', rfl⟩ := ry; exact PySem.EqMixed.eq_int_str (fin_bl I q (by simp))
    | _ => exact absurd (show false = true from hs) Bool.false_ne_true
  | str i =>
    obtain ⟨t, rfl⟩ := rx
    cases y with
    | non => cases ry; exact PySem.EqNone.eq_str_none (fin_bl I q (by simp))
    | bl j => cases ry; exact PySem.EqMixed.eq_str_bool (fin_bl I q (by simp))
    | int j => obtain ⟨t', rfl⟩ := ry; exact PySem.EqMixed.eq_str_int (fin_bl I q (by simp))
    | str j => obtain ⟨t', rfl⟩ := ry; exact eq_str (fin_bl I q dec_str)
    | _ => exact absurd (show false = true from hs) Bool.false_ne_true
  | byt i =>
    obtain ⟨t, rfl⟩ := rx
    cases y with
    | byt j => obtain ⟨t', rfl⟩ := ry; exact PySem.W.eq_bytes (fin_bl I q dec_byt)
    | _ => exact absurd (show false = true from hs) Bool.false_ne_true
  | _ => cases y <;> exact absurd (show false = true from hs) Bool.false_ne_true
theorem op_ne : OpR X (compareOp .NotEq) rNe := by
  intro pins s σ H x y v u Q I rx ry h
  obtain ⟨hs, q⟩ := h
  cases x with
  | non =>
    cases rx
    cases y with
    | non => cases ry; exact PySem.EqNone.ne_none_none (fin_bl I q (by simp))
    | bl j => cases ry; exact PySem.EqNone.ne_none_bool (fin_bl I q (by simp))
    | int j => obtain ⟨t', rfl⟩ := ry; exact PySem.EqNone.ne_none_int (fin_bl I q (by simp))
    | str j => obtain ⟨t', rfl⟩ := ry; exact PySem.EqNone.ne_none_str (fin_bl I q (by simp))
    | _ => exact absurd (show false = true from hs) Bool.false_ne_true
  | bl i =>
    cases rx
    cases y with
    | non => cases ry; exact PySem.EqNone.ne_bool_none (fin_bl I q (by simp))
    | bl j => cases ry; exact ne_bool (fin_bl I q (congrArg not dec_bl))
    | str j => obtain ⟨t', rfl⟩ := ry; exact PySem.EqMixed.ne_bool_str (fin_bl I q (by simp))
    | _ => exact absurd (show false = true from hs) Bool.false_ne_true
  | int i =>
    obtain ⟨t, rfl⟩ := rx
    cases y with
    | non => cases ry; exact PySem.EqNone.ne_int_none (fin_bl I q (by simp))
    | int j => obtain ⟨t', rfl⟩ := ry; exact ne_int (fin_bl I q (congrArg not dec_int))
    | str j => obtain ⟨t', rfl⟩ := ry; exact PySem.EqMixed.ne_int_str (fin_bl I q (by simp))
    | _ => exact absurd (show false = true from hs) Bool.false_ne_true
  | str i =>
    obtain ⟨t, rfl⟩ := rx
    cases y with
    | non => cases ry; exact PySem.EqNone.ne_str_none (fin_bl I q (by simp))
    | bl j => cases ry; exact PySem.EqMixed.ne_str_bool (fin_bl I q (by simp))
    | int j => obtain ⟨t', rfl⟩ := ry; exact PySem.EqMixed.ne_str_int (fin_bl I q (by simp))
    | str j => obtain ⟨t', rfl⟩ := ry; exact ne_str (fin_bl I q (congrArg not dec_str))
    | _ => exact absurd (show false = true from hs) Bool.false_ne_true
  | byt i =>
    obtain ⟨t, rfl⟩ := rx
    cases y with
    | byt j => obtain ⟨t', rfl⟩ := ry; exact PySem.W.ne_bytes (fin_bl I q (congrArg not dec_byt))
    | _ => exact absurd (show false = true from hs) Bool.false_ne_true
  | _ => cases y <;> exact absurd (show false = true from hs) Bool.false_ne_true

theorem op_lt : OpR X (compareOp .Lt) (rI0 fun i j => .bl (decide (i < j))) := opB0 fun _ _ _ _ _ _ _ q => lt_int q
theorem op_le : OpR X (compareOp .LtE) (rI0 fun i j => .bl (decide (i ≤ j))) := opB0 fun _ _ _ _ _ _ _ q => le_int q
theorem op_gt : OpR X (compareOp .Gt) (rI0 fun i j => .bl (decide (j < i))) := opB0 fun _ _ _ _ _ _ _ q => gt_int q
theorem op_ge : OpR X (compareOp .GtE) (rI0 fun i j => .bl (decide (j ≤ i))) := opB0 fun _ _ _ _ _ _ _ q => ge_int q
theorem op_isN : OpR X (compareOp .Is) (fun x y H Q => y = .non ∧ Q (.bl (decide (x = .non))) H) := by
  intro pins s σ H x y v u Q I rx ry h
  obtain ⟨rfl, q⟩ := h
  cases ry
  refine is_none_gen (fin_bl I q ?_)
  cases x <;> first
    | (cases rx; rfl)
    | (obtain ⟨t, rfl⟩ := rx; rfl)
theorem op_notN : OpR X (compareOp .IsNot) (fun x y H Q => y = .non ∧ Q (.bl (!decide (x = .non))) H) := by
  intro pins s σ H x y v u Q I rx ry h
  obtain ⟨rfl, q⟩ := h
  cases ry
  refine isnot_none_gen (fin_bl I q ?_)
  cases x <;> first
    | (cases rx; rfl)
    | (obtain ⟨t, rfl⟩ := rx; rfl)

theorem nomark (b : Expr) {op : CmpOp} (h : op ≠ .In := by decide) (h2 : op ≠ .NotIn := by decide) : behindInMarks op b = false := by
  have e1 : (op == CmpOp.In) = false := by cases op <;> first | rfl | exact absurd rfl h
  have e2 : (op == CmpOp.NotIn) = false := by cases op <;> first | rfl | exact absurd rfl h2
  cases b <;> simp [behindInMarks, e1, e2]
theorem pe_cmpR {op : CmpOp} {r : R2} (ho : OpR X (compareOp op) r) (ha : PE X a ta) (hb : PE X b tb) (hm : behindInMarks op b = false) : PE X (.Compare a [op] [b] pos) (tOp r ta tb) := by
  intro pins s σ H Q I h
  exact wpAny_Compare1 (binT ha hb I h fun v u s2 x y H2 I2 rx ry q => ho pins s2 σ H2 x y v u Q I2 rx ry q) hm
def tTest (t : TE) : TT := fun σ H Q => t σ H fun x H' => ∃ k, x = .bl k ∧ Q k H'
theorem pt_cmpR {op : CmpOp} {r : R2} (ho : OpR X (compareOp op) r) (ha : PE X a ta) (hb : PE X b tb) (hm : behindInMarks op b = false) : PT X (.Compare a [op] [b] pos) (tTest (tOp r ta tb)) := by
  intro pins s σ H Q I h
  refine wpAny_isTrue_Compare1 (thn (ha pins s σ H _ I h) fun v s1 ⟨x, H1, I1, r1, q1⟩ => thn (hb pins s1 σ H1 _ I1 q1) fun u s2 ⟨y, H2, I2, r2, q2⟩ =>
    thn (ho pins s2 σ H2 x y v u _ I2 r1 r2 q2) fun c s3 ⟨z, H3, I3, r3, k, e, q3⟩ => ?_) hm
  subst e
  cases r3
  exact wpAny_truthy_bool ⟨H3, I3, q3⟩
def tChain (r r' : R2) (ta tb tc : TE) : TE := fun σ H Q => ta σ H fun x H1 => tb σ H1 fun y H2 => r x y H2 fun z H3 => ∃ k, z = .bl k ∧
  (if k = true then tc σ H3 fun w' H4 => r' y w' H4 Q else Q (.bl false) H3)
theorem pe_chain {op op' : CmpOp} {r r' : R2} (ho : OpR X (compareOp op) r) (ho' : OpR X (compareOp op') r') (ha : PE X a ta) (hb : PE X b tb) (hc : PE X c tc)
    (hm : lastMarks [op, op'] [b, c] = false := by with_unfolding_all rfl) : PE X (.Compare a [op, op'] [b, c] pos) (tChain r r' ta tb tc) := by
  intro pins s σ H Q I h
  refine Compare_chain (thn (ha pins s σ H _ I h) fun v s1 ⟨x, H1, I1, r1, q1⟩ => chain_link (thn (hb pins s1 σ H1 _ I1 q1) fun u s2 ⟨y, H2, I2, r2, q2⟩ =>
    thn (ho pins s2 σ H2 x y v u _ I2 r1 r2 q2) fun d s3 ⟨z, H3, I3, r3, k, e, q3⟩ => ?_)) hm
  subst e
  cases r3
  refine wpAny_truthy_bool ?_
  cases k with
  | false => exact ite_ff ⟨.bl false, H3, I3, rfl, q3⟩
  | true => exact ite_tt (chain_last (thn (hc pins s3 σ H3 _ I3 q3) fun w' s4 ⟨z', H4, I4, r4, q4⟩ => ho' pins s4 σ H4 y z' u w' Q I4 r2 r4 q4))
theorem pt_chain {op op' : CmpOp} {r r' : R2} (ho : OpR X (compareOp op) r) (ho' : OpR X (compareOp op') r') (ha : PE X a ta) (hb : PE X b tb) (hc : PE X c tc)
    (hm : lastMarks [op, op'] [b, c] = false := by with_unfolding_all rfl) : PT X (.Compare a [op, op'] [b, c] pos) (tTest (tChain r r' ta tb tc)) := by
  intro pins s σ H Q I h
  refine isTrue_chain (thn (ha pins s σ H _ I h) fun v s1 ⟨x, H1, I1, r1, q1⟩ => test_link (thn (hb pins s1 σ H1 _ I1 q1) fun u s2 ⟨y, H2, I2, r2, q2⟩ =>
    thn (ho pins s2 σ H2 x y v u _ I2 r1 r2 q2) fun d s3 ⟨z, H3, I3, r3, k, e, q3⟩ => ?_)) hm
  subst e
  cases r3
  refine wpAny_truthy_bool ?_
  cases k with
  | false =>
    obtain ⟨k', e', q'⟩ := q3
    cases e'
    exact ite_ff ⟨H3, I3, q'⟩
  | true =>
    refine ite_tt (test_last (thn (hc pins s3 σ H3 _ I3 q3) fun w' s4 ⟨z', H4, I4, r4, q4⟩ => thn (ho' pins s4 σ H4 y z' u w' _ I4 r2 r4 q4) fun d' s5 ⟨z2, H5, I5, r5, k2, e2, q5⟩ => ?_))
    subst e2
    cases r5
    exact wpAny_truthy_bool ⟨H5, I5, q5⟩

theorem line63 : (sizeLine : Nat) < 2 ^ 63 := by rw [sizeLine_eq]; decide
theorem vals1 {x : V} {us : List Value} (r : Vals [x] us) : ∃ u, us = [u] ∧ RelV x u := by
  cases r with
  | cons r1 r2 => cases r2; exact ⟨_, rfl, r1⟩
theorem vals2 {x y : V} {us : List Value} (r : Vals [x, y] us) : ∃ u w', us = [u, w'] ∧ RelV x u ∧ RelV y w' := by
  cases r with
  | cons r1 r2 =>
    cases r2 with
    | cons r3 r4 => cases r4; exact ⟨_, _, rfl, r1, r3⟩
theorem call_max2 (hc : X.calm = true) : CallR X (.builtin "max") (fun xs H Q => ∃ i j, xs = [.int i, .int j] ∧ Q (.int (if j > i then j else i)) H) := by
  intro pins s σ H xs us Q I r h
  obtain ⟨i, j, rfl, q⟩ := h
  obtain ⟨u, w', rfl, ⟨t, rfl⟩, ⟨t', rfl⟩⟩ := vals2 r
  refine max_two_ints (I.ok.hd hc) fun h' tk k => ⟨_, H, I.kept k, ?_, q⟩
  by_cases hj : j > i
  · rw [if_pos hj, if_pos hj]; exact ⟨_, rfl⟩
  · rw [if_neg hj, if_neg hj]; exact ⟨_, rfl⟩
theorem call_min2 (hc : X.calm = true) : CallR X (.builtin "min") (fun xs H Q => ∃ i j, xs = [.int i, .int j] ∧ Q (.int (if j < i then j else i)) H) := by
  intro pins s σ H xs us Q I r h
  obtain ⟨i, j, rfl, q⟩ := h
  obtain ⟨u, w', rfl, ⟨t, rfl⟩, ⟨t', rfl⟩⟩ := vals2 r
  refine min_two_ints (I.ok.hd hc) fun h' tk k => ⟨_, H, I.kept k, ?_, q⟩
  by_cases hj : j < i
  · rw [if_pos hj, if_pos hj]; exact ⟨_, rfl⟩
  · rw [if_neg hj, if_neg hj]; exact ⟨_, rfl⟩
theorem call_ord : CallR X (.builtin "ord") (fun xs H Q => ∃ x, xs = [.str x] ∧ x.length = 1 ∧ Q (.int (x.cps.getD 0 0 : Nat)) H) := by
  intro pins s σ H xs us Q I r h
  obtain ⟨x, rfl, hz, q⟩ := h
  obtain ⟨u, rfl, t, rfl⟩ := vals1 r
  exact ord_of_one hz ⟨.int _, H, I.tok _, ⟨_, rfl⟩, q⟩
end
end L2

namespace L2
open PySem PySem.Spec PyProof.Rows

structure ObjM (h : Heap) (x dx C : Addr) (mA : Str → Option Value) : Prop where
  obj : h.get? x = some (PySem.W.instObj C dx)
  ns : h.Ns1 dx mA
  ne : dx ≠ x

theorem lookIn_ns {h : Heap} {dx : Addr} {mA : Str → Option Value} (n : h.Ns1 dx mA) : ∃ od, h.get? dx = some od ∧ ∀ name, PySem.W.lookIn name od = some (mA name) := by
  obtain ⟨o, es, ep, ho, hd, hk, _, hm⟩ := n
  refine ⟨o, ho, fun name => ?_⟩
  have e := hm name
  unfold nsFind findBy at e
  rw [← Array.find?_toList] at e
  unfold PySem.W.lookIn
  rw [hd]
  dsimp only
  split
  · rename_i y q
    rw [q] at e
    exact congrArg some e
  · rename_i q
    rw [q] at e
    have a : es.toList.any (·.refKey) = false := by
      rw [List.any_eq_false]
      intro y hy
      obtain ⟨z, t, hkey⟩ := hk y (Array.mem_toList_iff.mp hy)
      simp [DictEntry.refKey, hkey]
    have a' : ¬ es.toList.any (·.refKey) = true := by rw [a]; exact Bool.false_ne_true
    rw [if_neg a']
    exact congrArg some e

theorem ObjM.look {h : Heap} {x dx C : Addr} {mA : Str → Option Value} (I : ObjM h x dx C mA) : ∃ od, PySem.W.InstAt h x (PySem.W.instObj C dx) C (some od) ∧ ∀ name, PySem.W.lookIn name od = some (mA name) :=
  let ⟨od, ho, hl⟩ := lookIn_ns I.ns
  ⟨od, ⟨I.obj, rfl, rfl, ho⟩, hl⟩



structure Cls (K : PySem.W.Frag) (C : Addr) : Prop where
  pg : PySem.W.plainGet K C Str.empty = true
  hd : PySem.W.hasDictIn K C = true
  po : PySem.W.plainOver K C = true
  sa : PySem.W.findIn K (.ref C) "__setattr__" = some (some (.builtin "object.__setattr__"))
theorem Cls.get {K : PySem.W.Frag} {C : Addr} (c : Cls K C) (f : Str) : PySem.W.plainGet K C f = true := c.pg
structure Con (K : PySem.W.Frag) (C : Addr) (f : Str) (v : V) (u : Value) : Prop where
  at_ : PySem.W.findIn K (.ref C) f = some (some u)
  rel : RelV v u
  get : PySem.W.specialIn K u "__get__" = some none
  cp : PySem.W.copiedNames.contains f = false
structure Meth (K : PySem.W.Frag) (C : Addr) (m : Str) (f : Addr) : Prop where
  at_ : PySem.W.findIn K (.ref C) m = some (some (.ref f))
  fn : PySem.W.isFn K (.ref f) = true
  kp : PySem.W.keepIn K (.ref f) = true

section
variable {X : Cx} {pins : List (Addr × Obj)} {σ : St} {H : Hp} {s : Shared} {a C dx : Addr} {fs : List (Str × V)} {f : Str} {v : V} {A : Around} {E : Value → Shared → Prop}

theorem Inv.made (I : Inv X pins σ H s) : Inv X pins σ (upd (upd H s.heap.objs.size (.own (s.heap.objs.size + 1))) (s.heap.objs.size + 1) (.ins C s.heap.objs.size []))
    { s with heap := (s.heap.push PySem.W.emptyDict).push (PySem.W.instObj C s.heap.objs.size) } := by
  have e1 : (s.heap.push PySem.W.emptyDict).get? s.heap.objs.size = some PySem.W.emptyDict := Heap.get?_push_size s.heap rfl
  have e2 : ((s.heap.push PySem.W.emptyDict).push (PySem.W.instObj C s.heap.objs.size)).get? (s.heap.objs.size + 1) = some (PySem.W.instObj C s.heap.objs.size) := by
    have := Heap.get?_push_size (s.heap.push PySem.W.emptyDict) (o := PySem.W.instObj C s.heap.objs.size) rfl
    rwa [Heap.size_push] at this
  have e3 : (s.heap.push PySem.W.emptyDict).Ns s.heap.objs.size (fun _ => none) := ⟨PySem.W.emptyDict, #[], _, e1, rfl, (fun e he => absurd he (by simp)), fun _ => rfl⟩
  have I1 := I.laid (a := s.heap.objs.size) (o := .own (s.heap.objs.size + 1)) (h' := s.heap.push PySem.W.emptyDict) (t' := s.toks) (fun b u q => Heap.get?_push_of_some _ q) (Nat.le_refl _) ⟨_, e1⟩
  refine I1.laid (a := s.heap.objs.size + 1) (o := .ins C s.heap.objs.size []) (t' := s.toks) (fun b u q => Heap.get?_push_of_some _ q) (Nat.le_of_eq (Heap.size_push _ _)) ?_
  have ne : s.heap.objs.size ≠ s.heap.objs.size + 1 := Nat.ne_of_lt (Nat.lt_succ_self _)
  refine ⟨by rw [upd_ne ne, upd_same], Nat.zero_le _, ne, e2, fun _ => none, (Heap.Ns1.of_empty e3).at fun o q => Heap.get?_push_of_some _ q, fun _ => True.intro, fun y hy => absurd rfl hy⟩

end


section
variable {X : Cx} {pins : List (Addr × Obj)} {σ : St} {H : Hp} {s : Shared} {A : Around} {E : Value → Shared → Prop} {Q : Value → Shared → Prop} {c : Value} {b : Bool}
inductive TyOf (K : PySem.W.Frag) (H : Hp) : V → Value → Prop where
  | non : TyOf K H .non (.type "NoneType")
  | bl (x : Bool) : TyOf K H (.bl x) (.type "bool")
  | int (i : Int) : TyOf K H (.int i) (.type "int")
  | str (x : Str) : TyOf K H (.str x) (.type "str")
  | flt (x : UInt64) : TyOf K H (.flt x) (.type "float")
  | lst {a : Addr} {xs : List V} (e : H a = some (.lst xs)) : TyOf K H (.ref a) (.type "list")
  | frz {a : Addr} {o : Obj} {xs : List V} (e : H a = some (.frz o (.lst xs))) : TyOf K H (.ref a) (.type "list")
  | tup {a : Addr} {xs : List V} (e : H a = some (.tup xs)) : TyOf K H (.ref a) (.type "tuple")
  | dK {a : Addr} {kvs : List (Key × V)} (e : H a = some (.dK kvs)) : TyOf K H (.ref a) (.type "dict")
  | dT {a : Addr} {kvs : List (List Key × V)} (e : H a = some (.dT kvs)) : TyOf K H (.ref a) (.type "dict")
  | ins {a C dx : Addr} {fs : List (Str × V)} (e : H a = some (.ins C dx fs)) (cl : Cls K C) (ha : PySem.W.findIn K (.ref C) "__class__" = some (some (.builtin "object.__class__")))
      (hn : PySem.W.specialIn K (.builtin "object.__class__") "__get__" = some (some (.builtin "getset_descriptor.__get__"))) (htk : PySem.W.takesIn K (.builtin "object.__class__") = some true)
      (hm : PySem.W.mroIn K C (.type "object") = some true) : TyOf K H (.ref a) (.ref C)
end
end L2

namespace L2
open PySem PySem.Spec PyProof.Rows

structure Room (k : Nat) (A : Around) : Prop where
  hd : A.handled = none
  dp : A.depth + 3 * k + 5 < recursionLimit
  un : A.units + 16 * k + 200 < cLine
theorem Room.mono {j k : Nat} {A : Around} (r : Room k A) (h : j ≤ k) : Room j A := ⟨r.hd, by have := r.dp; omega, by have := r.un; omega⟩
theorem Room.deeper {k : Nat} {A : Around} (r : Room (k + 1) A) (env : Env) : Room k (A.deeper env) :=
  ⟨r.hd, by have := r.dp; show A.depth + 1 + 3 * k + 5 < _; omega, by have := r.un; show A.units + 3 + 16 * k + 200 < _; omega⟩
theorem Room.in1 {k : Nat} {A : Around} (r : Room (k + 1) A) : Room k A.in1 :=
  ⟨r.hd, by have := r.dp; show A.depth + 3 * k + 5 < _; omega, by have := r.un; show A.units + 1 + 16 * k + 200 < _; omega⟩
theorem Room.depth {k : Nat} {A : Around} (r : Room k A) : A.depth < recursionLimit := by have := r.dp; omega
theorem Room.units {k : Nat} {A : Around} (r : Room k A) : A.units + 64 < cLine := by have := r.un; omega
def tNil : TA := fun _ H Q => Q [] H
def tCons (ta : TE) (tr : TA) : TA := fun σ H Q => ta σ H fun x H1 => tr σ H1 fun xs H2 => Q (x :: xs) H2
section
variable {X : Cx} {e : Expr} {es : List Expr} {te : TE} {t : TA} {pos : Pos}
theorem pa_nil : PA X [] tNil := fun _ _ _ _ H Q I h => Calls.spliced_nil ⟨[], H, I, .nil, h⟩
theorem pa_cons (ha : PE X e te) (hr : PA X es t) (hs : starEach (e :: es) X.env = (false, eval e X.env) :: starEach es X.env := by rfl) : PA X (e :: es) (tCons te t) := by
  intro pos pins s σ H Q I h
  rw [hs]
  show wpAny _ _ (spliced ((false, eval e X.env) :: backTo pos (starEach es X.env))) _ _ s
  refine Calls.spliced_cons (thn (ha pins s σ H _ I h) fun u s1 ⟨x, H1, I1, r1, q1⟩ => ?_)
  exact thn (hr pos pins s1 σ H1 _ I1 q1) fun us s2 ⟨xs, H2, I2, r2, q2⟩ => ⟨x :: xs, H2, I2, .cons r1 r2, q2⟩

def tTup (t : TA) : TE := fun σ H Q => t σ H fun xs H1 => xs.length ≤ sizeLine ∧ ∀ p, H1 p = none → Q (.ref p) (upd H1 p (.tup xs))
def tLst (t : TA) : TE := fun σ H Q => t σ H fun xs H1 => xs.length ≤ sizeLine ∧ ∀ p, H1 p = none → Q (.ref p) (upd H1 p (.lst xs))
theorem pe_tup {x1} (h : PA X es t) : PE X (.Tuple es x1 pos) (tTup t) := by
  intro pins s σ H Q I hq
  refine wpAny_Tuple_spliced (thn (h pos pins s σ H _ I hq) fun us s1 ⟨xs, H1, I1, r, z, q⟩ => ⟨by rw [← r.length]; exact z, ?_⟩)
  have hf : H1 s1.heap.objs.size = none := I1.hok.fresh (Nat.le_refl _)
  refine ⟨.ref s1.heap.objs.size, upd H1 s1.heap.objs.size (.tup xs), I1.laid (t' := s1.toks) (fun b u e => Heap.get?_push_of_some _ e) (Nat.le_refl _) ?_, rfl, q _ hf⟩
  exact ⟨z, us, r, ⟨_, Heap.get?_push_size _ rfl, rfl, _, rfl⟩⟩
theorem pe_lst (h : PA X es t) : PE X (.List es pos) (tLst t) := by
  intro pins s σ H Q I hq
  refine wpAny_List_spliced (thn (h pos pins s σ H _ I hq) fun us s1 ⟨xs, H1, I1, r, z, q⟩ => ⟨by rw [← r.length]; exact z, ?_⟩)
  have hf : H1 s1.heap.objs.size = none := I1.hok.fresh (Nat.le_refl _)
  refine ⟨.ref s1.heap.objs.size, upd H1 s1.heap.objs.size (.lst xs), I1.laid (t' := s1.toks) (fun b u e => Heap.get?_push_of_some _ e) (Nat.le_refl _) ?_, rfl, q _ hf⟩
  exact ⟨z, us, 0, r, Heap.get?_push_size _ rfl⟩
end

abbrev Sp := List V → Hp → VK → XK → Prop
abbrev CXT := List Env → Hp → Shared → XK → Value → Shared → Prop

structure Env0 (P : Program) (w : World) (K : PySem.W.Frag) (mg : Str → Option Value) (base : Heap) (A : Around) (outer : List Env) (s : Shared) (H : Hp) : Prop where
  frames : A.frames = some outer
  mod : Mod K mg base
  bs : ∀ b o, base.get? b = some o → s.heap.get? b = some o ∧ H b = none
  bsz : base.objs.size ≤ s.heap.objs.size
  funs : s.heap.FunFrames base outer
  frf : ∀ b ∈ frs outer, H b = none
  hok : HOk P w H s.heap
  bare : AllBare s.gens
def CE (outer : List Env) (P : Program) (w : World) (H : Hp) (s : Shared) (Q : VK) (u : Value) (s' : Shared) : Prop :=
  ∃ v H', s'.os = s.os ∧ AllBare s'.gens ∧ Un (frs outer) [] H H' s.heap s'.heap ∧ HOk P w H' s'.heap ∧ RelV v u ∧ Q v H'
def CR (CX : CXT) (outer : List Env) (P : Program) (w : World) (H : Hp) (s : Shared) (Q : VK) (E : XK) (r : Result) (s' : Shared) : Prop :=
  match r with
  | .ok (.ret u) => CE outer P w H s Q u s'
  | .ok _ => False
  | .error e => CX outer H s E e s'
structure FnOk (P : Program) (w : World) (K : PySem.W.Frag) (mg : Str → Option Value) (base : Heap) (CX : CXT) (k : Nat) (f : Addr) (fd : FuncData) (ps : List Str) (sp : Sp) : Prop where
  len : ∀ vs H Q E, sp vs H Q E → vs.length = ps.length
  run : ∀ (A : Around) (outer : List Env) (s : Shared) (H : Hp) (args : Args) (us : List Value) (vs : List V) (Q : VK) (E : XK), Room k A → Env0 P w K mg base A outer s H → BindsTo s fd args (ps.zip us) → Vals vs us → sp vs H Q E →
    codeAny (model P w) A (.call (.ref f) args) (CR CX outer P w H s Q E) s
theorem FnOk.mono {P : Program} {w : World} {K : PySem.W.Frag} {mg : Str → Option Value} {base : Heap} {CX : CXT} {j k : Nat} {f : Addr} {fd : FuncData} {ps : List Str} {sp : Sp} (F : FnOk P w K mg base CX j f fd ps sp) (h : j ≤ k) :
    FnOk P w K mg base CX k f fd ps sp := ⟨F.len, fun A outer s H args us vs Q E hr => F.run A outer s H args us vs Q E (hr.mono h)⟩
theorem FnOk.imp {P : Program} {w : World} {K : PySem.W.Frag} {mg : Str → Option Value} {base : Heap} {CX : CXT} {k : Nat} {f : Addr} {fd : FuncData} {ps : List Str} {sp sp' : Sp} (F : FnOk P w K mg base CX k f fd ps sp)
    (h : ∀ vs H Q E, sp' vs H Q E → sp vs H Q E) : FnOk P w K mg base CX k f fd ps sp' :=
  ⟨fun vs H Q E q => F.len vs H Q E (h _ _ _ _ q), fun A outer s H args us vs Q E hr he hb hv hs => F.run A outer s H args us vs Q E hr he hb hv (h _ _ _ _ hs)⟩

theorem Env0.in1 {P : Program} {w : World} {K : PySem.W.Frag} {mg : Str → Option Value} {base : Heap} {A : Around} {outer : List Env} {s : Shared} {H : Hp} (e : Env0 P w K mg base A outer s H) :
    Env0 P w K mg base A.in1 outer s H := ⟨e.frames, e.mod, e.bs, e.bsz, e.funs, e.frf, e.hok, e.bare⟩

section
variable {X : Cx} {pins : List (Addr × Obj)} {σ : St} {H : Hp} {s s' : Shared}
theorem Inv.env0 (I : Inv X pins σ H s) : Env0 X.prog X.w X.K X.mg X.base X.A X.stack s H :=
  ⟨I.ok.frames, I.ok.mod, I.bs, Nat.le_trans I.ok.bsz I.sz, I.stack, I.stkFree, I.hok, I.bare⟩
theorem Inv.after {Q : VK} {u : Value} (I : Inv X pins σ H s) (h : CE X.stack X.prog X.w H s Q u s') : EP X pins σ Q u s' := by
  obtain ⟨v, H', os, bare, un, hok, r, q⟩ := h
  obtain ⟨hh, g, d, t, os'⟩ := s'
  obtain rfl : os' = s.os := os
  exact ⟨v, H', I.call (h' := hh) (g' := g) (d' := d) (t' := t) (ch := []) un hok bare (fun b z => absurd z (by simp)), r, q⟩
end

def tCall (sp : Sp) (dvs : List V) (E : XK) (t : TA) : TE := fun σ H Q => t σ H fun vs H1 => sp (vs ++ dvs) H1 Q E
def Binds (K : PySem.W.Frag) (fd : FuncData) (ps : List Str) (ds : List Value) : Prop :=
  ∀ (s : Shared) (us : List Value), K.In s.heap → (us ++ ds).length = ps.length → BindsTo s fd ⟨us, []⟩ (ps.zip (us ++ ds))
theorem Binds.all {K : PySem.W.Frag} {fd : FuncData} {ps : List Str} (h : ∀ us : List Value, us.length = ps.length → bindArgs fd ⟨us, []⟩ = pure (ps.zip us)) : Binds K fd ps [] := fun s us _ hl => by
  rw [List.append_nil] at hl ⊢
  exact .of_eq (h us hl)

def Passes (CX : CXT) (X : Cx) (E : XK) : Prop := ∀ (pins : List (Addr × Obj)) (σ : St) (H : Hp) (s : Shared) (e : Value) (s' : Shared), Inv X pins σ H s → CX X.stack H s E e s' → X.xe e s'

section
variable {X : Cx} {CX : CXT} {k : Nat} {f C : Addr} {fd : FuncData} {ps : List Str} {sp : Sp} {dvs : List V} {ds : List Value} {E : XK} {x m : Str} {p pos apos : Pos} {e o : Expr} {es : List Expr} {ta : TE} {t : TA}

theorem run_fn {pins : List (Addr × Obj)} {σ : St} {H : Hp} {s : Shared} {Q : VK} {us : List Value} {vs : List V} (F : FnOk X.prog X.w X.K X.mg X.base CX k f fd ps sp) (hr : Room k X.A) (hb : Binds X.K fd ps ds) (hd : Vals dvs ds) (hx : Passes CX X E)
    (I : Inv X pins σ H s) (r : Vals vs us) (h : sp (vs ++ dvs) H Q E) : wpAny (model X.prog X.w) X.A (call (.ref f) us) (EP X pins σ Q) X.xe s := by
  have r2 : Vals (vs ++ dvs) (us ++ ds) := r.append hd
  have hl : (us ++ ds).length = ps.length := by rw [← r2.length]; exact F.len _ _ _ _ h
  refine wpAny_call (codeAny_mono (F.run X.A X.stack s H ⟨us, []⟩ (us ++ ds) (vs ++ dvs) Q E hr I.env0 (hb s us I.kIn hl) r2 h) fun r s' hq => ?_)
  cases r with
  | error e => exact hx pins σ H s e s' I hq
  | ok fl =>
    cases fl with
    | ret u => exact I.after hq
    | next => exact False.elim hq
    | brk => exact False.elim hq
    | cont => exact False.elim hq

theorem pe_call (F : FnOk X.prog X.w X.K X.mg X.base CX k f fd ps sp) (hr : Room k X.A) (hg : Gl X x) (hm : X.mg x = some (.ref f)) (hk : PySem.W.keepIn X.K (.ref f) = true) (hb : Binds X.K fd ps ds) (hd : Vals dvs ds) (hx : Passes CX X E)
    (ha : PA X (e :: es) t) (hdb : (x == ("__debug__" : Str)) = false := by decide) (he : starEach (e :: es) X.env = (false, eval e X.env) :: starEach es X.env := by rfl) (hpl : (backTo pos (starEach es X.env)).any (·.1) = false := by rfl) :
    PE X (.Call (.Name x p) (e :: es) [] pos) (tCall sp dvs E t) := by
  intro pins s σ H Q I h
  refine wpAny_Call_Name_kw (ld_glob I hg hm ?_ hdb)
  refine PySem.W.callWith_K (h₀ := X.base) I.ok.mod.kin hk (thn (ha pos pins s σ H _ I h) fun us s1 ⟨vs, H1, I1, r, q⟩ => ⟨I1.kIn, ?_⟩) he hpl
  exact run_fn F hr hb hd hx I1 r q
structure Mk (K : PySem.W.Frag) (C f : Addr) : Prop where
  makes : PySem.W.makesIn K C = true
  init : PySem.W.findIn K (.ref C) "__init__" = some (some (.ref f))
  fn : PySem.W.isFn K (.ref f) = true
  kp : PySem.W.keepIn K (.ref C) = true

end

section
variable {X : Cx} {CX : CXT} {k : Nat} {f C : Addr} {fd : FuncData} {ps ks : List Str} {sp : Sp} {E : XK} {x m : Str} {p pos apos kpos : Pos} {e o : Expr} {es : List Expr} {kws : List Keyword} {te ta : TE} {t tk : TA} {nm : Option Str}
structure KBinds (K : PySem.W.Frag) (fd : FuncData) (ps ks : List Str) (g : List Value → List Value → List Value) (gV : List V → List V → List V) : Prop where
  to : ∀ (s : Shared) (us ws : List Value), K.In s.heap → (g us ws).length = ps.length → BindsTo s fd ⟨us, ks.zip ws⟩ (ps.zip (g us ws))
  rel : ∀ {vs : List V} {us : List Value} {zs : List V} {ws : List Value}, Vals vs us → Vals zs ws → Vals (gV vs zs) (g us ws)
variable {g : List Value → List Value → List Value} {gV : List V → List V → List V}
end

structure FnScope (N P : List Str) (sc : Scope) : Prop where
  kind : sc.kind = .function
  co : sc.isCoroutine = false
  gen : sc.isGenerator = false
  nd : N.Nodup
  pre : N.take P.length = P
  par : ∀ x ∈ P, sc.names.lookup x = some .local ∨ sc.names.lookup x = some .cell
  nofree : ∀ y ∈ sc.names, y.2 ≠ .free

theorem bindL_out {kindOf : Str → Option NameKind} {x : Str} : ∀ {binds : List (Str × Value)} {m : Str → Option Value}, (∀ v, (x, v) ∉ binds) → bindL kindOf binds m x = m x
  | [], _, _ => rfl
  | (n, v) :: r, m, h => by
    unfold bindL
    rw [bindL_out fun w hw => h w (List.mem_cons_of_mem _ hw)]
    split
    · have : x ≠ n := by rintro rfl; exact h v List.mem_cons_self
      simp [this]
    · rfl
theorem bindC_out {kindOf : Str → Option NameKind} {x : Str} : ∀ {binds : List (Str × Value)} {m : Str → Option Value}, (∀ v, (x, v) ∉ binds) → bindC kindOf binds m x = m x
  | [], _, _ => rfl
  | (n, v) :: r, m, h => by
    unfold bindC
    rw [bindC_out fun w hw => h w (List.mem_cons_of_mem _ hw)]
    split
    · rfl
    · have : x ≠ n := by rintro rfl; exact h v List.mem_cons_self
      simp [this]
theorem bindL_get {kindOf : Str → Option NameKind} {x : Str} {v : Value} : ∀ {P : List Str} {vs : List Value} {i : Nat} {m : Str → Option Value}, P.Nodup → P[i]? = some x → vs[i]? = some v → kindOf x = some .local →
    bindL kindOf (P.zip vs) m x = some v
  | [], _, _, _, _, h, _, _ => by simp at h
  | _ :: _, [], _, _, _, _, h, _ => by simp at h
  | p :: P, w :: vs, 0, m, nd, h1, h2, hk => by
    simp at h1 h2; subst h1; subst h2
    show bindL kindOf ((p, w) :: P.zip vs) m p = _
    unfold bindL
    rw [bindL_out fun v hv => (List.nodup_cons.mp nd).1 (List.of_mem_zip hv).1, if_pos hk]
    simp
  | p :: P, w :: vs, i + 1, m, nd, h1, h2, hk => by
    show bindL kindOf ((p, w) :: P.zip vs) m x = _
    unfold bindL
    exact bindL_get (i := i) (List.nodup_cons.mp nd).2 (by simpa using h1) (by simpa using h2) hk
theorem bindC_get {kindOf : Str → Option NameKind} {x : Str} {v : Value} : ∀ {P : List Str} {vs : List Value} {i : Nat} {m : Str → Option Value}, P.Nodup → P[i]? = some x → vs[i]? = some v → kindOf x ≠ some .local →
    bindC kindOf (P.zip vs) m x = some v
  | [], _, _, _, _, h, _, _ => by simp at h
  | _ :: _, [], _, _, _, _, h, _ => by simp at h
  | p :: P, w :: vs, 0, m, nd, h1, h2, hk => by
    simp at h1 h2; subst h1; subst h2
    show bindC kindOf ((p, w) :: P.zip vs) m p = _
    unfold bindC
    rw [bindC_out fun v hv => (List.nodup_cons.mp nd).1 (List.of_mem_zip hv).1, if_neg hk]
    simp
  | p :: P, w :: vs, i + 1, m, nd, h1, h2, hk => by
    show bindC kindOf ((p, w) :: P.zip vs) m x = _
    unfold bindC
    exact bindC_get (i := i) (List.nodup_cons.mp nd).2 (by simpa using h1) (by simpa using h2) hk

def start (N : List Str) (vs : List V) : St := vs.map some ++ List.replicate (N.length - vs.length) none

def cxOf (CX : CXT) (P : Program) (w : World) (K : PySem.W.Frag) (mg : Str → Option Value) (base : Heap) (N : List Str) (qual : Str) (scope : Scope) (f : Addr) (cd : Value) (A : Around) (outer : List Env) (s : Shared) (H : Hp) (E : XK) : Cx where
  prog := P
  w := w
  K := K
  mg := mg
  base := base
  A := A.deeper (envOfC qual scope s.heap.objs.size f cd)
  N := N
  s_0 := s
  H_0 := H
  env := envOfC qual scope s.heap.objs.size f cd
  outer := outer
  stack := envOfC qual scope s.heap.objs.size f cd :: outer
  ex := []
  calm := true
  fn := fun _ => true
  pn := []
  xe := fun e s' => wpAny (model P w) (A.deeper (envOfC qual scope s.heap.objs.size f cd)) (leaving (envOfC qual scope s.heap.objs.size f cd) e) (fun _ s'' => CX outer H s E e s'') (fun e' s'' => CX outer H s E e' s'') s'

theorem cell_has {sc : Scope} {n : Nat} {x : Str} (h : sc.names.lookup x = some .cell) : ∃ c, (cellsFrom n sc.names []).lookup x = some c := by
  have q := PySem.W.cellsFrom_some sc.names n [] (.inl h)
  exact Option.isSome_iff_exists.mp q

theorem inv_start {CX : CXT} {P : Program} {w : World} {K : PySem.W.Frag} {mg : Str → Option Value} {base : Heap} {N ps : List Str} {qual : Str} {scope : Scope} {f : Addr} {cd : Value} {A : Around} {outer : List Env} {s s1 : Shared} {H : Hp} {E : XK} {us : List Value} {vs : List V}
    (S : FnScope N ps scope) (hd : A.handled = none) (e0 : Env0 P w K mg base A outer s H) (hl : vs.length = ps.length) (r : Vals vs us)
    (x : InCallC s s.heap.objs.size (bindL (envOfC qual scope s.heap.objs.size f cd).kindOf (ps.zip us) fun _ => none) (cellsFrom (s.heap.objs.size + 1) scope.names []) (bindC (envOfC qual scope s.heap.objs.size f cd).kindOf (ps.zip us) fun _ => none) s1) :
    Inv (cxOf CX P w K mg base N qual scope f cd A outer s H E) [] (start N vs) H s1 := by
  have hpl : ps.length ≤ N.length := by have := congrArg List.length S.pre; rw [List.length_take] at this; omega
  obtain ⟨h1, tk, rfl, hk⟩ := x.done
  have noA : ∀ b : Addr, b ∉ (cxOf CX P w K mg base N qual scope f cd A outer s H E).ex := fun b z => absurd (show b ∈ ([] : List Addr) from z) (by simp)
  refine ⟨⟨e0.mod, S.kind, rfl, rfl, Nat.le_refl _, fun y z c h1 h2 => ?_, fun y hy => ?_, fun y c _ h => ?_, fun _ => hd, Around.frames_deeper e0.frames, .inr ⟨rfl, rfl⟩, fun b z => absurd z (noA b), e0.bs, e0.bsz, fun b _ _ => noA b, fun b z => absurd z (noA b), e0.funs, e0.frf⟩,
    rfl, e0.bare, Un.kept hk, ⟨_, x.toInCall.ns, fun i y v h1 h2 h3 => ?_⟩, fun y c h => ⟨_, x.cell y c h⟩, e0.hok.fresh (Nat.le_refl _), fun y c h => ?_, fun p hp => absurd (show p ∈ ([] : List (Addr × Obj)) from hp) (by simp), e0.hok.kept hk, ?_⟩
  · exact name_of_addr x.apart (PySem.mem_of_lookup h1) (PySem.mem_of_lookup h2)
  · have hy : scope.names.lookup y = some .cell ∨ scope.names.lookup y = some .free := hy
    rcases hy with hy | hy
    · exact cell_has hy
    · exact absurd rfl (S.nofree _ (PySem.mem_of_lookup hy))
  · exact Nat.le_of_lt (x.above y c (PySem.mem_of_lookup h))
  · have hi : i < vs.length := by
      unfold start at h2
      by_cases hi : i < vs.length
      · exact hi
      · rw [List.getElem?_append_right (by simpa using hi)] at h2
        rw [List.getElem?_replicate] at h2
        split at h2 <;> cases h2
    have ha : vs[i]? = some v := by
      unfold start at h2
      rw [List.getElem?_append_left (by simpa using hi), List.getElem?_map] at h2
      cases e : vs[i]? with
      | none => rw [e] at h2; cases h2
      | some a => rw [e] at h2; cases h2; rfl
    obtain ⟨u, hu, rv⟩ := r.get ha
    have hp : ps[i]? = some y := by
      rw [← S.pre, List.getElem?_take_of_lt (by omega)]; exact h1
    have ndP : ps.Nodup := by rw [← S.pre]; exact S.nd.sublist (List.take_sublist _ _)
    refine ⟨u, rv, ?_⟩
    rcases S.par y (List.mem_of_getElem? hp) with k | k
    · exact .inl ⟨k, bindL_get ndP hp hu k⟩
    · obtain ⟨c, e⟩ := cell_has (n := s.heap.objs.size + 1) k
      refine .inr ⟨.inl k, c, e, ?_⟩
      have q := x.cell y c e
      rw [bindC_get ndP hp hu (by show scope.names.lookup y ≠ _; rw [k]; decide)] at q
      exact q
  · exact e0.hok.fresh (Nat.le_of_lt (x.above y c (PySem.mem_of_lookup h)))
  · unfold start
    show _ = N.length
    rw [List.length_append, List.length_map, List.length_replicate]
    omega

theorem fn_of {CX : CXT} {P : Program} {w : World} {K : PySem.W.Frag} {mg : Str → Option Value} {base : Heap} {k : Nat} {f : Addr} {name qual : Str} {params : Arguments} {body : List Stmt} {scope : Scope} {dV kV doc pm cdv ct oc : Value} {an od : Option Addr}
    {osl : Array (Option Value)} {N ps : List Str} {sp : Sp} (lk : K.lookup f = some ⟨oc, od, .func (PySem.W.fnOf name qual params body scope dV kV doc pm an cdv ct), osl⟩) (hcd : PySem.W.codeIn K cdv qual = true) (S : FnScope N ps scope)
    (len : ∀ vs H Q E, sp vs H Q E → vs.length = ps.length)
    (hbody : ∀ (A : Around) (outer : List Env) (s : Shared) (H : Hp) (vs : List V) (Q : VK) (E : XK), Room k (A.deeper (envOfC qual scope s.heap.objs.size f cdv)) → sp vs H Q E →
      ∃ t, PSs (cxOf CX P w K mg base N qual scope f cdv A outer s H E) body t ∧ t { nx := fun _ H' => Q .non H', rt := Q } (start N vs) H) :
    FnOk P w K mg base CX (k + 1) f (PySem.W.fnOf name qual params body scope dV kV doc pm an cdv ct) ps sp := by
  refine ⟨len, fun A outer s H args us vs Q E hr e0 hb r hsp => ?_⟩
  have hl := len _ _ _ _ hsp
  have KX : K.In s.heap := e0.mod.kin.keeps fun b o e => (e0.bs b o e).1
  have lim : s.heap.NoLimit := e0.mod.nolimit.keeps fun b o e => (e0.bs b o e).1
  have hkind : ∀ y ∈ ps.zip us, scope.names.lookup y.1 = some .local ∨ (scope.names.lookup y.1 = some .cell ∧ ((cellsFrom (s.heap.objs.size + 1) scope.names []).lookup y.1).isSome = true) := fun ⟨n, v⟩ hy => by
    rcases S.par n (List.of_mem_zip hy).1 with q | q
    · exact .inl q
    · exact .inr ⟨q, PySem.W.cellsFrom_some _ _ _ (.inl q)⟩
  refine codeAny_call_function hr.depth (KX _ _ lk) rfl S.co S.gen rfl (PySem.W.codeRec_of KX hcd) (hb _ _ _ _ ?_)
  refine wpAny_newFunctionEnv_cells S.kind hkind fun env he s1 x => ?_
  subst he
  refine ⟨lim.keeps x.toInCall.keep, codeAny_func ?_⟩
  obtain ⟨t, ht, hq⟩ := hbody A outer s H vs Q E (hr.deeper _) hsp
  have I : Inv (cxOf CX P w K mg base N qual scope f cdv A outer s H E) [] (start N vs) H s1 := inv_start S hr.hd e0 hl r x
  refine wpAny_mono (ht [] s1 (start N vs) H _ I hq) (fun fl s' hs => ?_) fun e s' hs => hs
  have fin : ∀ {σ' : St} {H' : Hp} {v : V} {u : Value}, Inv (cxOf CX P w K mg base N qual scope f cdv A outer s H E) [] σ' H' s' → RelV v u → Q v H' → CE outer P w H s Q u s' :=
    fun {σ' H' v u} J rv q => ⟨v, H', J.os, J.bare, J.base, J.hok, rv, q⟩
  cases fl with
  | ret u =>
    obtain ⟨v, σ', H', J, rv, q⟩ := hs
    exact fin J rv q
  | next =>
    obtain ⟨σ', H', J, q⟩ := hs
    exact fin (v := V.non) (u := Value.none) J rfl q
  | brk =>
    obtain ⟨_, _, _, q⟩ := hs
    exact False.elim q
  | cont =>
    obtain ⟨_, _, _, q⟩ := hs
    exact False.elim q
end L2

namespace L2
open PySem PySem.Spec PyProof.Rows
section
variable {X : Cx} {x : Str} {p pos : Pos} {e : Expr} {es : List Expr} {t : TA} {id T : String} {r : List V → Hp → VK → Prop}

def tCB (r : List V → Hp → VK → Prop) (t : TA) : TE := fun σ H Q => t σ H fun vs H1 => r vs H1 Q
theorem pe_callB (hc : CallR X (.builtin id) r) (hg : Gl X x) (hm : X.mg x = none) (hv : bootBuiltins x = some (.builtin id)) (ha : PA X (e :: es) t) (hn : x ≠ "__name__" := by decide) (hdb : (x == ("__debug__" : Str)) = false := by decide)
    (he : starEach (e :: es) X.env = (false, eval e X.env) :: starEach es X.env := by rfl) (hpl : (backTo pos (starEach es X.env)).any (·.1) = false := by rfl) : PE X (.Call (.Name x p) (e :: es) [] pos) (tCB r t) := by
  intro pins s σ H Q I h
  refine wpAny_Call_Name_kw (ld_blt I hg hm hv ?_ hn hdb)
  exact PyProof.Rows.callWith_builtin1 (thn (ha pos pins s σ H _ I h) fun us s1 ⟨vs, H1, I1, r1, q1⟩ => hc pins s1 σ H1 vs us Q I1 r1 q1) he hpl
theorem pe_callTy (hc : CallR X (.type T) r) (hg : Gl X x) (hm : X.mg x = none) (hv : bootBuiltins x = some (.type T)) (ha : PA X (e :: es) t) (hn : x ≠ "__name__" := by decide) (hdb : (x == ("__debug__" : Str)) = false := by decide)
    (he : starEach (e :: es) X.env = (false, eval e X.env) :: starEach es X.env := by rfl) (hpl : (backTo pos (starEach es X.env)).any (·.1) = false := by rfl) : PE X (.Call (.Name x p) (e :: es) [] pos) (tCB r t) := by
  intro pins s σ H Q I h
  refine wpAny_Call_Name_kw (ld_blt I hg hm hv ?_ hn hdb)
  exact PyProof.Rows.callWith_type1 (thn (ha pos pins s σ H _ I h) fun us s1 ⟨vs, H1, I1, r1, q1⟩ => hc pins s1 σ H1 vs us Q I1 r1 q1) he hpl
end
end L2

namespace HT
open PySem PyProof.Rows

section
open PySem.SeqAt
open PySem.AutoSeq1 (wpAny_loadPart')
open PySem.MeetsSeq PySem.MeetsSeq2 PySem.MeetsSeq3

end

section
variable {prog : Program} {w : World} {A : Around} {E : Value → Shared → Prop} {s : Shared}

def sIx (n d : Nat) : Option Int → Nat
  | none => d
  | some v => if v < 0 then (v + (n : Int)).toNat else min v.toNat n
end
end HT

namespace L2
open PySem PySem.Spec PyProof.Rows

abbrev TO := St → Hp → (Option Int → Hp → Prop) → Prop
def PO (X : Cx) (e : Option Expr) (t : TO) : Prop :=
  ∀ (pins : List (Addr × Obj)) (s : Shared) (σ : St) (H : Hp) (Q : Option Int → Hp → Prop), Inv X pins σ H s → t σ H Q →
    wpAny (model X.prog X.w) X.A (evalPart e X.env) (fun u s' => ∃ o H', Inv X pins σ H' s' ∧ IsPart u o ∧ Q o H') X.xe s
def tNoPart : TO := fun _ H Q => Q none H
def tPart (t : TE) : TO := fun σ H Q => t σ H fun x H1 => ∃ i, x = .int i ∧ Q (some i) H1

section
variable {X : Cx} {e : Expr} {te : TE} {lo hi : Option Expr} {tl th : TO} {pos p2 : Pos}

theorem po_none : PO X none tNoPart := by
  intro pins s σ H Q I h
  rw [evalPart_none]
  exact wpAny_pure ⟨none, H, I, .none, h⟩
theorem po_some (h : PE X e te) : PO X (some e) (tPart te) := by
  intro pins s σ H Q I hw
  rw [evalPart_some]
  refine thn (h pins s σ H _ I hw) fun u s1 ⟨x, H1, I1, r1, q1⟩ => ?_
  obtain ⟨i, rfl, q⟩ := q1
  obtain ⟨t, rfl⟩ := r1
  exact ⟨some i, H1, I1, .int i t, q⟩

def SlR (X : Cx) (r : V → Option Int → Option Int → Hp → VK → Prop) : Prop :=
  ∀ (pins : List (Addr × Obj)) (s : Shared) (σ : St) (H : Hp) (x : V) (v vl vu : Value) (lo hi : Option Int) (sl : Addr) (Q : VK), Inv X pins σ H s → RelV x v → s.heap.IsSliceOf sl vl vu .none → IsPart vl lo → IsPart vu hi → r x lo hi H Q →
    ∃ T id, typeLookup (.type T) "__getitem__" = pure (some (.builtin id)) ∧ s.TypeIs v T ∧ wpAny (model X.prog X.w) X.A (getItem v (.ref sl)) (EP X pins σ Q) X.xe s
def tSl (r : V → Option Int → Option Int → Hp → VK → Prop) (te : TE) (tl th : TO) : TE := fun σ H Q => te σ H fun x H1 => tl σ H1 fun l H2 => th σ H2 fun u H3 => r x l u H3 Q
theorem pe_slice {r : V → Option Int → Option Int → Hp → VK → Prop} (hr : SlR X r) (he : PE X e te) (hl : PO X lo tl) (hu : PO X hi th) : PE X (.Subscript e (.Slice lo hi none p2) pos) (tSl r te tl th) := by
  intro pins s σ H Q I h
  refine Subscript_ (thn (he pins s σ H _ I h) fun v s1 ⟨x, H1, I1, r1, q1⟩ => ?_)
  refine wpAny_Slice (thn (hl pins s1 σ H1 _ I1 q1) fun vl s2 ⟨l, H2, I2, pl, q2⟩ => thn (hu pins s2 σ H2 _ I2 q2) fun vu s3 ⟨u, H3, I3, pu, q3⟩ => ?_)
  rw [evalPart_none]
  refine wpAny_pure ?_
  have I4 : Inv X pins σ H3 { s3 with heap := s3.heap.push { cls := .type "slice", data := .fields #[vl, vu, .none] } } := I3.kept (t' := s3.toks) fun b ob q => Heap.get?_push_of_some _ q
  obtain ⟨T, id, hT, ht, hg⟩ := hr pins { s3 with heap := s3.heap.push { cls := .type "slice", data := .fields #[vl, vu, .none] } } σ H3 x v vl vu l u s3.heap.objs.size Q I4 r1 (Heap.IsSliceOf.new ..) pl pu q3
  show wpAny (model X.prog X.w) X.A (subscriptTail e (.Slice lo hi none p2) v (.ref s3.heap.objs.size)) (EP X pins σ Q) X.xe { s3 with heap := s3.heap.push { cls := .type "slice", data := .fields #[vl, vu, .none] } }
  exact tail_any (ops := [.ref s3.heap.objs.size, v]) ht hT hg (by with_unfolding_all rfl)

def cutV (xs : List V) (lo hi : Option Int) : List V := (xs.drop (HT.sIx xs.length 0 lo)).take (HT.sIx xs.length xs.length hi - HT.sIx xs.length 0 lo)
theorem cutV_length (xs : List V) (lo hi : Option Int) : (cutV xs lo hi).length ≤ xs.length := by
  unfold cutV
  rw [List.length_take, List.length_drop]
  omega
end
end L2

namespace L2
open PySem PySem.Spec PyProof.Rows

def ixN (n : Nat) (i : Int) : Option Nat := if 0 ≤ i then (if i < n then some i.toNat else none) else if -(n : Int) ≤ i then some (i + n).toNat else none
def atI {α : Type} (xs : List α) (i : Int) : Option α := (ixN xs.length i).bind fun j => xs[j]?
theorem ixN_seq {n : Nat} {i : Int} {j : Nat} (h : ixN n i = some j) : seqIndex? i n = some j ∧ j < n ∧ -(n : Int) ≤ i ∧ i < n := by
  unfold ixN at h
  by_cases h0 : 0 ≤ i
  · rw [if_pos h0] at h
    by_cases h1 : i < n
    · rw [if_pos h1] at h
      have e : i.toNat = j := Option.some.inj h
      exact ⟨by rw [seqIndex_of h0 h1, e], by omega, by omega, h1⟩
    · rw [if_neg h1] at h; cases h
  · rw [if_neg h0] at h
    by_cases h1 : -(n : Int) ≤ i
    · rw [if_pos h1] at h
      have e : (i + n).toNat = j := Option.some.inj h
      exact ⟨by rw [seqIndex_neg (by omega) h1, e], by omega, h1, by omega⟩
    · rw [if_neg h1] at h; cases h
theorem atI_get {α : Type} {xs : List α} {i : Int} {v : α} (h : atI xs i = some v) : ∃ j, seqIndex? i xs.length = some j ∧ xs[j]? = some v ∧ j < xs.length ∧ -(xs.length : Int) ≤ i ∧ i < xs.length := by
  unfold atI at h
  cases e : ixN xs.length i with
  | none => rw [e] at h; cases h
  | some j =>
    rw [e] at h
    obtain ⟨h1, h2, h3, h4⟩ := ixN_seq e
    exact ⟨j, h1, h, h2, h3, h4⟩
theorem atI_nat {α : Type} {xs : List α} {j : Nat} {v : α} (h : xs[j]? = some v) : atI xs (j : Int) = some v := by
  have hj : j < xs.length := (List.getElem?_eq_some_iff.mp h).1
  have e : ixN xs.length (j : Int) = some j := by
    unfold ixN
    rw [if_pos (by omega), if_pos (by omega)]; simp
  unfold atI; rw [e]; exact h
def PlainIx (b : Expr) : Prop := ∀ o i, subscripted b false o i = operate [o, i] (getItem o i)
def IxR (X : Cx) (r : R2) : Prop :=
  ∀ (value slice : Expr) (pins : List (Addr × Obj)) (s : Shared) (σ : St) (H : Hp) (x y : V) (v u : Value) (Q : VK), Inv X pins σ H s → RelV x v → RelV y u → r x y H Q →
    subscripted slice false v u = operate [v, u] (getItem v u) → wpAny (model X.prog X.w) X.A (subscriptTail value slice v u) (EP X pins σ Q) X.xe s
def MtR (X : Cx) (id : String) (r : V → List V → Hp → VK → Prop) : Prop :=
  ∀ (pins : List (Addr × Obj)) (s : Shared) (σ : St) (H : Hp) (x : V) (xs : List V) (v : Value) (us : List Value) (Q : VK), Inv X pins σ H s → RelV x v → Vals xs us → r x xs H Q →
    wpAny (model X.prog X.w) X.A (call (.builtin id) (v :: us)) (EP X pins σ Q) X.xe s
section
variable {X : Cx} {a b : Expr} {ta tb : TE} {pos : Pos}
theorem pe_ix {r : R2} (hr : IxR X r) (ha : PE X a ta) (hb : PE X b tb) (hs : PlainIx b) : PE X (.Subscript a b pos) (tOp r ta tb) := by
  intro pins s σ H Q I h
  exact Subscript_ (binT ha hb I h fun v u s2 x y H2 I2 rx ry q => hr a b pins s2 σ H2 x y v u Q I2 rx ry q (hs _ _))

def rIxL (K : PySem.W.Frag) : R2 := fun x y H Q => ∃ p xs i v, x = .ref p ∧ y = .int i ∧ SqL K H p xs ∧ atI xs i = some v ∧ Q v H
def rIxT (K : PySem.W.Frag) : R2 := fun x y H Q => ∃ p xs i v, x = .ref p ∧ y = .int i ∧ SqT K H p xs ∧ atI xs i = some v ∧ Q v H
theorem ix_list : IxR X (rIxL X.K) := by
  intro value slice pins s σ H x y v u Q I rx ry h hs
  obtain ⟨p, xs, i, z, rfl, rfl, hq, he, q⟩ := h
  cases rx
  obtain ⟨t, rfl⟩ := ry
  obtain ⟨its, r, pl, hz⟩ := I.list hq
  obtain ⟨j, h1, h2, h3, h4, h5⟩ := atI_get he
  obtain ⟨w, ew, rw'⟩ := r.get h2
  have hl := r.length
  have hn := line63
  have fin : EP X pins σ Q w s := ⟨z, H, I, rw', q⟩
  by_cases h0 : 0 ≤ i
  · have hj : i.toNat = j := by
      rw [seqIndex_of h0 h5] at h1
      exact Option.some.inj h1
    exact item_listR pl.isList h0 (by omega) (by rw [hj]; simpa using ew) fin hs
  · have hj : (i + (its.toArray.size : Int)).toNat = j := by
      rw [seqIndex_neg (by omega) h4] at h1
      rw [List.size_toArray, ← hl]
      exact Option.some.inj h1
    exact subscriptTail_builtinR (x := w) pl.isList.typeIs slot_list_getitem.lookup
      (wpAny_getItem_list_neg (Q := fun r s' => r = w ∧ EP X pins σ Q r s') pl.isList (by omega) (by rw [List.size_toArray] <;> omega) (by omega) (by rw [hj]; simpa using ew) ⟨rfl, fin⟩) hs
theorem ix_tup : IxR X (rIxT X.K) := by
  intro value slice pins s σ H x y v u Q I rx ry h hs
  obtain ⟨p, xs, i, z, rfl, rfl, hq, he, q⟩ := h
  cases rx
  obtain ⟨t, rfl⟩ := ry
  obtain ⟨its, r, pl, hz⟩ := I.tuple hq
  obtain ⟨j, h1, h2, h3, h4, h5⟩ := atI_get he
  obtain ⟨w, ew, rw'⟩ := r.get h2
  have hl := r.length
  have hn := line63
  have fin : EP X pins σ Q w s := ⟨z, H, I, rw', q⟩
  exact subscriptTail_builtinR (x := w) pl.typeIs slot_tuple_getitem.lookup
    (getItem_tuple (j := j) (Q := fun r s' => r = w ∧ EP X pins σ Q r s') pl (by omega) (by omega) (by rw [List.size_toArray, ← hl]; exact h1) (by simpa using ew) ⟨rfl, fin⟩) hs
theorem Inv.lst {pins : List (Addr × Obj)} {σ : St} {H : Hp} {s : Shared} {p : Addr} {xs : List V} (I : Inv X pins σ H s) (h : H p = some (.lst xs)) :
    ∃ (its : List Value) (n : Nat), Vals xs its ∧ s.heap.get? p = some { cls := .type "list", data := .seq its.toArray n } ∧ xs.length ≤ sizeLine := by
  obtain ⟨z, its, n, r, e⟩ := I.hok p _ h
  exact ⟨its, n, r, e, z⟩
theorem slice_bounds (lo hi : Option Int) (n : Nat) : (sliceBounds lo hi none n).1 = ((HT.sIx n 0 lo : Nat) : Int) ∧ (sliceBounds lo hi none n).2.1 = ((HT.sIx n n hi : Nat) : Int) ∧ (sliceBounds lo hi none n).2.2 = 1 := by
  refine ⟨?_, ?_, rfl⟩
  · cases lo with
    | none => simp [sliceBounds, HT.sIx]
    | some i =>
      simp only [sliceBounds, HT.sIx, Option.getD_none, show (1 : Int) > 0 by decide, if_true]
      by_cases h : i < 0
      · simp only [h, if_true] <;> omega
      · simp only [h, if_false] <;> omega
  · cases hi with
    | none => simp [sliceBounds, HT.sIx]
    | some i =>
      simp only [sliceBounds, HT.sIx, Option.getD_none, show (1 : Int) > 0 by decide, if_true]
      by_cases h : i < 0
      · simp only [h, if_true] <;> omega
      · simp only [h, if_false] <;> omega
theorem slicePick_cut (its : List Value) (lo hi : Option Int) : slicePick its.toArray lo hi none = ((its.drop (HT.sIx its.length 0 lo)).take (HT.sIx its.length its.length hi - HT.sIx its.length 0 lo)).toArray := by
  obtain ⟨h1, h2, h3⟩ := slice_bounds lo hi its.toArray.size
  unfold slicePick
  rw [h1, h2, h3]
  simp only [sliceRange_one, pick_run, List.size_toArray] <;> rfl
def rSlL (K : PySem.W.Frag) : V → Option Int → Option Int → Hp → VK → Prop := fun x lo hi H Q => ∃ a xs, x = .ref a ∧ SqL K H a xs ∧ ∀ p, H p = none → Q (.ref p) (upd H p (.lst (cutV xs lo hi)))
theorem sl_list : SlR X (rSlL X.K) := by
  intro pins s σ H x v vl vu lo hi sl Q I rx hs pl pu h
  obtain ⟨a, xs, rfl, hx, q⟩ := h
  cases rx
  obtain ⟨its, r, ht, hz⟩ := I.list hx
  have hlen := r.length
  refine ⟨"list", _, slot_list_getitem.lookup, ht.isList.typeIs, ?_⟩
  refine wpAny_getItem_list_slice ht.isList hs pl pu .none (by simp) ?_ (by rw [List.size_toArray] <;> omega)
  rw [slicePick_cut, ← hlen]
  refine ⟨.ref s.heap.objs.size, _, I.laid (t' := s.toks) (o := .lst (cutV xs lo hi)) (fun b ob q => Heap.get?_push_of_some _ q) (Nat.le_refl _) ?_, rfl, q _ (I.hok.fresh (Nat.le_refl _))⟩
  exact ⟨Nat.le_trans (cutV_length xs lo hi) hz, _, 0, (r.drop (HT.sIx xs.length 0 lo)).take (HT.sIx xs.length xs.length hi - HT.sIx xs.length 0 lo), Heap.get?_push_size _ rfl⟩

theorem call_len_seq : CallR X (.builtin "len") (fun xs H Q => ∃ p ys, xs = [.ref p] ∧ (SqL X.K H p ys ∨ SqT X.K H p ys) ∧ Q (.int ys.length) H) := by
  intro pins s σ H xs us Q I r h
  obtain ⟨p, ys, rfl, hq, q⟩ := h
  obtain ⟨u, rfl, rx⟩ := vals1 r
  cases rx
  have hn := line63
  rcases hq with hq | hq
  · obtain ⟨its, r', pl, hz⟩ := I.list hq
    have hlen := r'.length
    exact Calls.call_len_list pl.isList (by simp only [List.size_toArray] <;> omega) ⟨.int ys.length, H, I.tok _, ⟨s.toks + 1, by rw [List.size_toArray, hlen]⟩, q⟩
  · obtain ⟨its, r', pl, hz⟩ := I.tuple hq
    have hlen := r'.length
    exact len_tuple pl (by simp only [List.size_toArray] <;> omega) ⟨.int ys.length, H, I.tok _, ⟨s.toks + 1, by rw [List.size_toArray, hlen]⟩, q⟩
theorem call_list_of : CallR X (.type "list") (fun xs H Q => ∃ p ys, xs = [.ref p] ∧ (SqL X.K H p ys ∨ SqT X.K H p ys) ∧ ∀ l, H l = none → Q (.ref l) (upd H l (.lst ys))) := by
  intro pins s σ H xs us Q I r h
  obtain ⟨p, ys, rfl, hq, q⟩ := h
  obtain ⟨u, rfl, rx⟩ := vals1 r
  cases rx
  have fin : ∀ (its : List Value), Vals ys its → ys.length ≤ sizeLine → ∀ (h' : Heap) (c' : Nat), (∀ b o', s.heap.get? b = some o' → h'.get? b = some o') →
      h'.get? s.heap.objs.size = some { cls := .type "list", dict := none, data := .seq its.toArray c', slots := #[] } → EP X pins σ Q (.ref s.heap.objs.size) { s with heap := h' } := fun its r' hz h' c' kp e =>
    ⟨.ref s.heap.objs.size, _, I.laid (t' := s.toks) kp (Nat.le_refl _) (show ObjOk X.prog X.w _ h' _ (.lst ys) from ⟨hz, its, c', r', e⟩), rfl, q _ (I.hok.fresh (Nat.le_refl _))⟩
  rcases hq with hq | hq
  · obtain ⟨its, r', pl, hz⟩ := I.list hq
    have hlen := r'.length
    obtain ⟨o, ho, hc, n, hd⟩ := pl.isList
    exact call_list_seq p (.inl rfl) ho hc hd (fun h' c' kp e => fin its r' hz h' c' kp e) (by simp only [List.size_toArray] <;> omega)
  · obtain ⟨its, r', pl, hz⟩ := I.tuple hq
    have hlen := r'.length
    obtain ⟨o, ho, hc, n, hd⟩ := pl
    exact call_list_seq p (.inr rfl) ho hc hd (fun h' c' kp e => fin its r' hz h' c' kp e) (by simp only [List.size_toArray] <;> omega)
def tyV (K : PySem.W.Frag) (T : String) (x : V) (H : Hp) : Prop := match x with
  | .str _ => T = "str"
  | .int _ => T = "int"
  | .ref p => (T = "list" ∧ ∃ xs, SqL K H p xs) ∨ (T = "tuple" ∧ ∃ o, K.lookup p = some o ∧ o.cls = .type "tuple" ∧ o.dict = none) ∨
      (T = "dict" ∧ ((∃ kvs, H p = some (.dK kvs)) ∨ ∃ kvs, H p = some (.dT kvs))) ∨ (T = "set" ∧ ∃ S n, H p = some (.set S n))
  | _ => False
theorem tyV_is {pins : List (Addr × Obj)} {σ : St} {H : Hp} {s : Shared} {T : String} {x : V} {v : Value} (I : Inv X pins σ H s) (r : RelV x v) (ty : tyV X.K T x H) :
    s.TypeIs v T ∧ ∀ a, v = .ref a → ∃ ob, s.heap.get? a = some ob ∧ ob.dict = none := by
  cases x with
  | str z =>
    obtain ⟨t, rfl⟩ := r
    cases (show T = "str" from ty)
    exact ⟨typeIs_str s z t, fun _ e => nomatch e⟩
  | int i =>
    obtain ⟨t, rfl⟩ := r
    cases (show T = "int" from ty)
    exact ⟨typeIs_int s i t, fun _ e => nomatch e⟩
  | ref p =>
    cases r
    rcases ty with ⟨rfl, xs, hq⟩ | ⟨rfl, o, hk, hc, hd⟩ | ⟨rfl, hk⟩ | ⟨rfl, S, n, hk⟩
    · obtain ⟨its, _, pl, _⟩ := I.list hq
      refine ⟨pl.isList.typeIs, fun a e => ?_⟩
      cases e
      obtain ⟨o, n, e, c, hd, _⟩ := pl
      exact ⟨o, e, hd⟩
    · refine ⟨⟨o, I.kIn p o hk, hc⟩, fun a e => ?_⟩
      cases e
      exact ⟨o, I.kIn _ o hk, hd⟩
    · have z : ∃ o, s.heap.get? p = some o ∧ o.ExactDict := by
        rcases hk with ⟨kvs, hk⟩ | ⟨kvs, hk⟩
        · obtain ⟨_, _, _, _, o, _, _, e, ex, _⟩ := I.hok p _ hk
          exact ⟨o, e, ex⟩
        · obtain ⟨_, _, _, _, o, _, _, e, ex, _⟩ := I.hok p _ hk
          exact ⟨o, e, ex⟩
      obtain ⟨o, e, ex⟩ := z
      refine ⟨⟨o, e, ex.1⟩, fun a e2 => ?_⟩
      cases e2
      exact ⟨o, e, ex.2.1⟩
    · obtain ⟨o, _, _, _, e, ex, _⟩ := I.hok p _ hk
      refine ⟨⟨o, e, ex.1⟩, fun a e2 => ?_⟩
      cases e2
      exact ⟨o, e, ex.2.1⟩
  | _ => exact False.elim ty
def tBM0 (K : PySem.W.Frag) (T : String) (r : V → List V → Hp → VK → Prop) (to : TE) : TE := fun σ H Q => to σ H fun x H1 => tyV K T x H1 ∧ r x [] H1 Q
def tBM (K : PySem.W.Frag) (T : String) (r : V → List V → Hp → VK → Prop) (to : TE) (t : TA) : TE := fun σ H Q => to σ H fun x H1 => tyV K T x H1 ∧ t σ H1 fun xs H2 => r x xs H2 Q
variable {o e : Expr} {es : List Expr} {to : TE} {t : TA} {name : Str} {apos cpos : Pos} {T id : String} {r : V → List V → Hp → VK → Prop}
theorem pe_bm0 (pa : PlainAttrs T) (slot : Slot T name id) (hty : typeOf (.builtin id) = pure (.type "method_descriptor")) (hm : MtR X id r) (ho : PE X o to)
    (hbase : attributeBase o name X.env (eval o X.env) = eval o X.env := by rfl) (hline : (apos.endLine == cpos.line) = true := by rfl) : PE X (.Call (.Attribute o name apos) [] [] cpos) (tBM0 X.K T r to) := by
  intro pins s σ H Q I h
  refine wpAny_Call_method0_late hbase hline (thn (ho pins s σ H _ I h) fun v s1 ⟨x, H1, I1, r1, ty, q1⟩ => ?_)
  obtain ⟨h1, h2⟩ := tyV_is I1 r1 ty
  exact ⟨T, id, pa, slot, hty, h1, h2, Calls.callWith_builtin rfl (PySem.evalArgs_none (hm pins s1 σ H1 x [] v [] Q I1 r1 .nil q1))⟩
theorem pe_bm (pa : PlainAttrs T) (slot : Slot T name id) (hty : typeOf (.builtin id) = pure (.type "method_descriptor")) (hm : MtR X id r) (ho : PE X o to) (ha : PA X (e :: es) t)
    (hbase : attributeBase o name X.env (eval o X.env) = eval o X.env := by rfl)
    (hfew : ((backTo cpos (starEach (e :: es) X.env)).all (fun x => !x.1) && (backToKw cpos (keywordEach [] X.env)).all (fun x => x.1.isSome)
      && decide ((e :: es).length + ([] : List Keyword).length + (if ([] : List Keyword).isEmpty then 0 else 1) < 30)) = true := by rfl)
    (hline : (apos.endLine == cpos.line) = true := by rfl) (hs : starEach (e :: es) X.env = (false, eval e X.env) :: starEach es X.env := by rfl) (hplain : (backTo cpos (starEach es X.env)).any (·.1) = false := by rfl) :
    PE X (.Call (.Attribute o name apos) (e :: es) [] cpos) (tBM X.K T r to t) := by
  intro pins s σ H Q I h
  refine wpAny_Call_method_late hbase hfew hline rfl (thn (ho pins s σ H _ I h) fun v s1 ⟨x, H1, I1, r1, ty, q1⟩ => ?_)
  obtain ⟨h1, h2⟩ := tyV_is I1 r1 ty
  refine ⟨T, id, pa, slot, hty, h1, h2, ?_⟩
  have hA := ha cpos pins s1 σ H1 _ I1 q1
  rw [hs] at hA ⊢
  refine Calls.callWith_builtin (by show (false || (backTo cpos (starEach es X.env)).any (·.1)) = false; rw [hplain] <;> rfl) (Calls.evalArgs_plain ?_)
  exact thn hA fun us s2 ⟨vs, H2, I2, r2, q2⟩ => hm pins s2 σ H2 x vs v us Q I2 r1 r2 q2
end
end L2

namespace L2
open PySem PySem.Spec PyProof.Rows

def MtM (X : Cx) (id : String) (r : V → List V → Hp → VK → Prop) : Prop :=
  ∀ (pins : List (Addr × Obj)) (s : Shared) (σ : St) (H : Hp) (x : V) (xs : List V) (v : Value) (us : List Value) (Q : VK), Inv X pins σ H s → RelV x v → Vals xs us → r x xs H Q →
    wpAny (model X.prog X.w) X.A (call (.builtin id) (v :: us)) (EP X pins σ Q) X.xe s

theorem Vals.one : ∀ {x : V} {us : List Value}, Vals [x] us → ∃ u, us = [u] ∧ RelV x u
  | _, _, .cons r .nil => ⟨_, rfl, r⟩
theorem Vals.two : ∀ {x y : V} {us : List Value}, Vals [x, y] us → ∃ u v, us = [u, v] ∧ RelV x u ∧ RelV y v
  | _, _, _, .cons r (.cons q .nil) => ⟨_, _, rfl, r, q⟩
theorem Vals.zero : ∀ {us : List Value}, Vals [] us → us = []
  | _, .nil => rfl
theorem Vals.dropLast {xs : List V} {us : List Value} (h : Vals xs us) : Vals xs.dropLast us.dropLast := by
  induction h with
  | nil => exact .nil
  | cons r t ih =>
    cases t with
    | nil => exact .nil
    | cons q t' => exact .cons r ih
theorem Vals.eraseIdx : ∀ {xs : List V} {us : List Value} (i : Nat), Vals xs us → Vals (xs.eraseIdx i) (us.eraseIdx i)
  | _, _, _, .nil => .nil
  | _, _, 0, .cons _ t => t
  | _, _, i + 1, .cons r t => .cons r (Vals.eraseIdx i t)
theorem Vals.reverse {xs : List V} {us : List Value} (h : Vals xs us) : Vals xs.reverse us.reverse := by
  induction h with
  | nil => exact .nil
  | cons r t ih => rw [List.reverse_cons, List.reverse_cons]; exact Vals.append ih (.cons r .nil)
theorem erase_last {α : Type} (l : List α) : l.eraseIdx (l.length - 1) = l.dropLast := by
  induction l with
  | nil => rfl
  | cons a r ih =>
    cases r with
    | nil => rfl
    | cons b r =>
      have e : (a :: b :: r).length - 1 = ((b :: r).length - 1) + 1 := by
        have h1 : (a :: b :: r).length = r.length + 2 := rfl
        have h2 : (b :: r).length = r.length + 1 := rfl
        omega
      rw [e, List.eraseIdx_cons_succ, ih]
      all_goals rfl
section
variable {X : Cx} {pins : List (Addr × Obj)} {σ : St} {H : Hp} {s : Shared} {l b : Addr} {xs ys zs : List V}

theorem Inv.lset {its its' : List Value} {n : Nat} {f : Array Value → Array Value} {t' : Nat} (I : Inv X pins σ H s) (hH : H l = some (.lst xs))
    (e : s.heap.get? l = some { cls := .type "list", data := .seq its.toArray n }) (hf : f its.toArray = its'.toArray) (hv : Vals ys its') (hz : ys.length ≤ sizeLine) :
    Inv X pins σ (upd H l (.lst ys)) { s with heap := s.heap.update l (Obj.mapSeq f), toks := t' } := by
  have q := PySem.IsL.update e f
  rw [hf] at q
  refine I.write (x := l) (e := l) (by rw [hH]; exact trivial) (.inl rfl) (fun b' u hb hu => (Heap.get?_update_other s.heap (Obj.mapSeq f) (Ne.symm hb)).trans hu) ⟨_, q⟩ ?_
  exact ⟨hz, its', _, hv, q⟩
theorem Inv.lnew {its : List Value} {t' : Nat} (I : Inv X pins σ H s) (hv : Vals ys its) (hz : ys.length ≤ sizeLine) :
    Inv X pins σ (upd H s.heap.objs.size (.lst ys)) { s with heap := s.heap.push { cls := .type "list", data := .seq its.toArray }, toks := t' } :=
  I.laid (fun _ _ q => Heap.get?_push_of_some _ q) (Nat.le_refl _) ⟨hz, its, 0, hv, Heap.get?_push_size _ rfl⟩
theorem Inv.fresh (I : Inv X pins σ H s) : H s.heap.objs.size = none := I.hok.fresh (Nat.le_refl _)
theorem Inv.lstM (I : Inv X pins σ H s) (hH : H l = some (.lst xs)) : xs.length ≤ sizeLine ∧ ∃ (its : List Value) (n : Nat), Vals xs its ∧ xs.length = its.length ∧ s.heap.get? l = some { cls := .type "list", data := .seq its.toArray n } := by
  obtain ⟨z, its, n, r, e⟩ := I.hok l _ hH
  exact ⟨z, its, n, r, r.length, e⟩

theorem notLongL {n : Nat} (h : n ≤ sizeLine) : Builtin.List.listTooLong n = false := by
  unfold Builtin.List.listTooLong
  exact decide_eq_false (by omega)
end

section
variable {X : Cx}

def rAppend : V → List V → Hp → VK → Prop := fun x vs H Q => ∃ l xs y, x = .ref l ∧ vs = [y] ∧ H l = some (.lst xs) ∧ xs.length < sizeLine ∧ Q .non (upd H l (.lst (xs ++ [y])))
theorem mt_append : MtM X "list.append" rAppend := by
  intro pins s σ H x vs v us Q I rx rv h
  obtain ⟨l, xs, y, rfl, rfl, hH, hz, q⟩ := h
  cases rx
  obtain ⟨u, rfl, ru⟩ := rv.one
  obtain ⟨z, its, n, r, hl, e⟩ := I.lstM hH
  refine call_meets F.slot_list_append ⟨_, e, rfl⟩ F.entry_list_append (F.args_list_append_2 _ _) (PySem.list_append l its.toArray n u (by rw [List.size_toArray]; omega)) ⟨e, ?_⟩
  refine ⟨.non, _, I.lset (its' := its ++ [u]) hH e (by simp) (r.append (.cons ru .nil)) ?_, rfl, q⟩
  rw [List.length_append, List.length_singleton]
  omega

def rExtend : V → List V → Hp → VK → Prop := fun x vs H Q => ∃ l b xs zs, x = .ref l ∧ vs = [.ref b] ∧ H l = some (.lst xs) ∧ H b = some (.lst zs) ∧ xs.length + zs.length ≤ sizeLine ∧ Q .non (upd H l (.lst (xs ++ zs)))
theorem mt_extend : MtM X "list.extend" rExtend := by
  intro pins s σ H x vs v us Q I rx rv h
  obtain ⟨l, b, xs, zs, rfl, rfl, hH, hB, hz, q⟩ := h
  cases rx
  obtain ⟨u, rfl, ru⟩ := rv.one
  cases ru
  obtain ⟨z, its, n, r, hl, e⟩ := I.lstM hH
  obtain ⟨z2, its2, n2, r2, hl2, e2⟩ := I.lstM hB
  have hsz : its.toArray.size + its2.toArray.size ≤ sizeLine := by rw [List.size_toArray, List.size_toArray]; omega
  have hlong : ¬ (!its.toArray.isEmpty && Builtin.List.listTooLong (its.toArray.size + its2.toArray.size)) = true := by
    rw [notLongL hsz, Bool.and_false]
    exact Bool.false_ne_true
  refine call_meets F.slot_list_extend ⟨_, e, rfl⟩ F.entry_list_extend (F.args_list_extend_2 _ _)
    (AutoSeq1.list_extend_list_list_0 l its.toArray n b its2.toArray n2 hlong (by rw [List.size_toArray]; omega) (by omega)) ⟨e, e2, ?_⟩
  refine ⟨.non, _, I.lset (its' := its ++ its2) hH e (by simp) (r.append r2) ?_, rfl, q⟩
  rw [List.length_append]
  omega

def rPop : V → List V → Hp → VK → Prop := fun x vs H Q => ∃ l xs y, x = .ref l ∧ vs = [] ∧ H l = some (.lst xs) ∧ xs[xs.length - 1]? = some y ∧ Q y (upd H l (.lst xs.dropLast))
theorem mt_pop : MtM X "list.pop" rPop := by
  intro pins s σ H x vs v us Q I rx rv h
  obtain ⟨l, xs, y, rfl, rfl, hH, hy, q⟩ := h
  cases rx
  have hus := rv.zero
  subst hus
  obtain ⟨z, its, n, r, hl, e⟩ := I.lstM hH
  obtain ⟨u, hu, ru⟩ := r.get hy
  have hy' : its.toArray[its.toArray.size - 1]? = some u := by
    show its.toArray[its.length - 1]? = some u
    rw [← Array.getElem?_toList, ← hl]
    exact hu
  refine call_meets F.slot_list_pop ⟨_, e, rfl⟩ F.entry_list_pop (F.args_list_pop_1 _) (MeetsSeq.list_pop_last l its.toArray n u hy' (by rw [List.size_toArray]; omega)) ⟨e, ?_⟩
  refine ⟨y, _, I.lset (its' := its.dropLast) hH e ?_ r.dropLast ?_, ru, q⟩
  · show its.toArray.eraseIdxIfInBounds (its.toArray.size - 1) = its.dropLast.toArray
    rw [List.size_toArray, List.eraseIdxIfInBounds_toArray, erase_last]
  · rw [List.length_dropLast]
    omega

def rCat : R2 := fun x y H Q => ∃ l b xs zs, x = .ref l ∧ y = .ref b ∧ H l = some (.lst xs) ∧ H b = some (.lst zs) ∧ xs.length + zs.length ≤ sizeLine ∧ ∀ p, H p = none → Q (.ref p) (upd H p (.lst (xs ++ zs)))
theorem op_cat : OpR X (binaryOp .Add) rCat := by
  intro pins s σ H x y v u Q I rx ry h
  obtain ⟨l, b, xs, zs, rfl, rfl, hH, hB, hz, q⟩ := h
  cases rx
  cases ry
  obtain ⟨z, its, n, r, hl, e⟩ := I.lstM hH
  obtain ⟨z2, its2, n2, r2, hl2, e2⟩ := I.lstM hB
  refine PySem.P.add_list e e2 ?_ (by rw [List.size_toArray, List.size_toArray]; omega)
  have ea : its.toArray ++ its2.toArray = (its ++ its2).toArray := by simp
  rw [ea]
  exact ⟨.ref _, _, I.lnew (t' := s.toks) (r.append r2) (by rw [List.length_append]; omega), rfl, q _ I.fresh⟩
end


end L2

namespace L2
open PySem PySem.Spec PyProof.Rows

theorem Vals.ints : ∀ {ns : List Int} {us : List Value}, Vals (ns.map V.int) us → IntsAre us ns
  | [], us, h => by
    rw [List.map_nil] at h
    cases h
    exact IntsAre.nil
  | n :: ns, us, h => by
    rw [List.map_cons] at h
    cases h with
    | cons r t =>
      obtain ⟨k, rfl⟩ := r
      exact IntsAre.cons n k (Vals.ints t)
theorem vals_of_ints : ∀ {us : List Value} {ns : List Int}, IntsAre us ns → Vals (ns.map V.int) us
  | _, _, .nil => by rw [List.map_nil]; exact Paired.nil
  | _, _, .cons n t h => by rw [List.map_cons]; exact Paired.cons (show RelV (V.int n) (Value.int n t) from ⟨t, rfl⟩) (vals_of_ints h)
theorem Vals.bls : ∀ {bs : List Bool} {us : List Value}, Vals (bs.map V.bl) us → us = bs.map Value.bool
  | [], us, h => by
    rw [List.map_nil] at h
    cases h
    rfl
  | b :: bs, us, h => by
    rw [List.map_cons] at h
    cases h with
    | cons r t =>
      cases r
      rw [Vals.bls t, List.map_cons]
theorem Vals.ref1 {a : Addr} {us : List Value} (r : Vals [V.ref a] us) : us = [Value.ref a] := by
  cases r with
  | cons r t =>
    cases t
    cases r
    rfl
theorem Vals.int2 {i j : Int} {us : List Value} (r : Vals [V.int i, V.int j] us) : ∃ t u, us = [Value.int i t, Value.int j u] := by
  cases r with
  | cons r t =>
    cases t with
    | cons r2 t2 =>
      cases t2
      obtain ⟨t, rfl⟩ := r
      obtain ⟨u, rfl⟩ := r2
      exact ⟨t, u, rfl⟩





theorem iter_any {prog : Program} {w : World} {A : Around} {E : Value → Shared → Prop} {s : Shared} {l : Addr} {items : Array Value} {Q : Value → Shared → Prop} (hl : s.heap.IsList l items)
    (h : ∀ s₂ : Shared, s₂ = { s with heap := s.heap.push { cls := .type "list_iterator", data := .fields #[.ref l, .int 0 0] } } →
      (s₂.heap.IsListIter s.heap.objs.size l 0 ∧ s₂.heap.IsList l items) → l ≠ s.heap.objs.size → Q (.ref s.heap.objs.size) s₂) : wpAny (model prog w) A (pyIter (.ref l)) Q E s := by
  have hlt : l < s.heap.objs.size := by obtain ⟨_, e, _⟩ := hl; exact Heap.lt_size e
  exact wpAny_pyIter_list hl (h _ rfl ⟨⟨_, Heap.get?_push_size _ rfl, rfl, rfl⟩, hl.push _⟩ (Nat.ne_of_lt hlt))
theorem truth_bools {prog : Program} {w : World} {A : Around} {bs : List Bool} {its : List Value} (e : its = bs.map Value.bool) :
    TruthOf prog w A (fun i v => its.toArray[i]? = some v) (fun i => bs.getD i false) := fun i v s Q E hv hq => by
  have hv' : its[i]? = some v := by simpa using hv
  rw [e, List.getElem?_map] at hv'
  obtain ⟨b, hb, rfl⟩ := Option.map_eq_some_iff.mp hv'
  have hg : bs.getD i false = b := by rw [List.getD_eq_getElem?_getD, hb] <;> rfl
  have hq' : Q (bs.getD i false) s := hq
  rw [hg] at hq'
  exact wpAny_truthy_bool hq'
theorem any_range : ∀ bs : List Bool, (List.range bs.length).any (fun i => bs.getD i false) = bs.any id
  | [] => rfl
  | b :: bs => by
    rw [List.length_cons, List.range_succ_eq_map, List.any_cons, List.any_map, List.any_cons, ← any_range bs]
    all_goals rfl
theorem all_range : ∀ bs : List Bool, (List.range bs.length).all (fun i => bs.getD i false) = bs.all id
  | [] => rfl
  | b :: bs => by
    rw [List.length_cons, List.range_succ_eq_map, List.all_cons, List.all_map, List.all_cons, ← all_range bs]
    all_goals rfl
section
variable {X : Cx}
def rAny (K : PySem.W.Frag) : List V → Hp → VK → Prop := fun vs H Q => ∃ (a : Addr) (bs : List Bool), vs = [V.ref a] ∧ SqL K H a (bs.map V.bl) ∧ Q (.bl (bs.any id)) H
def rAll (K : PySem.W.Frag) : List V → Hp → VK → Prop := fun vs H Q => ∃ (a : Addr) (bs : List Bool), vs = [V.ref a] ∧ SqL K H a (bs.map V.bl) ∧ Q (.bl (bs.all id)) H
theorem cr_any (hc : X.calm = true) : CallR X (.builtin "any") (rAny X.K) := by
  intro pins s σ H vs us Q I r h
  obtain ⟨a, bs, rfl, hs, q⟩ := h
  obtain ⟨its, rv, hl, _⟩ := I.list hs
  rw [Vals.ref1 r]
  have hb := rv.bls
  refine call_any_walk (iter_any hl.isList fun s₂ e2 st hne => ?_)
  subst e2
  refine ⟨_, _, _, _, _, _, _, rfl, Walks.list (A := X.A.in1) (I.ok.hd hc) _ a hne its.toArray, st, truth_bools hb, fun h' tk hk => ?_⟩
  refine ⟨.bl _, H, I.kept fun b o eo => hk b o (fun hmem => ?_) (Heap.get?_push_of_some _ eo), ?_, q⟩
  · rcases List.mem_cons.mp hmem with e1 | hmem
    · exact absurd (e1 ▸ Heap.lt_size eo) (Nat.lt_irrefl _)
    · cases hmem
  · show Value.bool _ = Value.bool _
    rw [← any_range, hb, List.size_toArray, List.length_map]
theorem cr_all (hc : X.calm = true) : CallR X (.builtin "all") (rAll X.K) := by
  intro pins s σ H vs us Q I r h
  obtain ⟨a, bs, rfl, hs, q⟩ := h
  obtain ⟨its, rv, hl, _⟩ := I.list hs
  rw [Vals.ref1 r]
  have hb := rv.bls
  refine call_all_walk (iter_any hl.isList fun s₂ e2 st hne => ?_)
  subst e2
  refine ⟨_, _, _, _, _, _, _, rfl, Walks.list (A := X.A.in1) (I.ok.hd hc) _ a hne its.toArray, st, truth_bools hb, fun h' tk hk => ?_⟩
  refine ⟨.bl _, H, I.kept fun b o eo => hk b o (fun hmem => ?_) (Heap.get?_push_of_some _ eo), ?_, q⟩
  · rcases List.mem_cons.mp hmem with e1 | hmem
    · exact absurd (e1 ▸ Heap.lt_size eo) (Nat.lt_irrefl _)
    · cases hmem
  · show Value.bool _ = Value.bool _
    rw [← all_range, hb, List.size_toArray, List.length_map]
end

mutual
inductive Dp (K : PySem.W.Frag) (H : Hp) : V → PyData → Prop
  | non : Dp K H .non .none
  | bl (b : Bool) : Dp K H (.bl b) (.bool b)
  | int (i : Int) : Dp K H (.int i) (.int i)
  | str (x : Str) : Dp K H (.str x) (.str x)
  | lst {a : Addr} {xs : List V} {ds : List PyData} : SqL K H a xs → DpAll K H xs ds → Dp K H (.ref a) (.list ds)
  | tup {a : Addr} {xs : List V} {ds : List PyData} : SqT K H a xs → DpAll K H xs ds → Dp K H (.ref a) (.tuple ds)
inductive DpAll (K : PySem.W.Frag) (H : Hp) : List V → List PyData → Prop
  | nil : DpAll K H [] []
  | cons {v : V} {vs : List V} {d : PyData} {ds : List PyData} : Dp K H v d → DpAll K H vs ds → DpAll K H (v :: vs) (d :: ds)
end
section
variable {X : Cx} {pins : List (Addr × Obj)} {σ : St} {H : Hp} {s : Shared}
mutual
theorem Dp.reads (I : Inv X pins σ H s) : ∀ (d : PyData) (v : V) (u : Value), Dp X.K H v d → RelV v u → ∃ as, Reads s.heap u d as
  | .none, _, _, h, r => by
    cases h
    cases r
    exact ⟨_, Reads.none⟩
  | .bool b, _, _, h, r => by
    cases h
    cases r
    exact ⟨_, Reads.bool b⟩
  | .int i, _, _, h, r => by
    cases h
    obtain ⟨t, rfl⟩ := r
    exact ⟨_, Reads.int i t⟩
  | .str x, _, _, h, r => by
    cases h
    obtain ⟨t, rfl⟩ := r
    exact ⟨_, Reads.str x t⟩
  | .list ds, _, _, h, r => by
    cases h with
    | lst hs ha =>
      cases r
      obtain ⟨its, rv, ⟨o, n, ho, hc, _, hd⟩, _⟩ := I.list hs
      obtain ⟨as, hr⟩ := Dp.readsAll I ds _ its ha rv
      exact ⟨_, Reads.list ho hc hd hr⟩
  | .tuple ds, _, _, h, r => by
    cases h with
    | tup hs ha =>
      cases r
      obtain ⟨its, rv, ⟨o, ho, hc, n, hd⟩, _⟩ := I.tuple hs
      obtain ⟨as, hr⟩ := Dp.readsAll I ds _ its ha rv
      exact ⟨_, Reads.tuple ho hc hd hr⟩
  | .dict _, _, _, h, _ => by cases h
theorem Dp.readsAll (I : Inv X pins σ H s) : ∀ (ds : List PyData) (vs : List V) (us : List Value), DpAll X.K H vs ds → Vals vs us → ∃ as, ReadsAll s.heap us ds as
  | [], _, _, h, r => by
    cases h
    cases r
    exact ⟨_, ReadsAll.nil⟩
  | d :: ds, _, _, h, r => by
    cases h with
    | cons h1 h2 =>
      cases r with
      | cons r1 r2 =>
        obtain ⟨as, q1⟩ := Dp.reads I d _ _ h1 r1
        obtain ⟨bs, q2⟩ := Dp.readsAll I ds _ _ h2 r2
        exact ⟨_, ReadsAll.cons q1 q2⟩
end
end
section
variable {X : Cx}
def rEqD (K : PySem.W.Frag) : R2 := fun x y H Q => ∃ d e, Dp K H x d ∧ Dp K H y e ∧ SeqAt.shaped d = true ∧ SeqAt.shaped e = true ∧ Q (.bl (PyData.eqv d e)) H
theorem op_eqD (hu : X.A.units + 64 < cLine) : OpR X (compareOp .Eq) (rEqD X.K) := by
  intro pins s σ H x y v u Q I rx ry h
  obtain ⟨d, e, hd, he, sd, se, q⟩ := h
  obtain ⟨as, r1⟩ := Dp.reads I d x v hd rx
  obtain ⟨bs, r2⟩ := Dp.reads I e y u he ry
  exact SeqAt.compareEq_shaped r1 r2 sd se hu ⟨.bl _, H, I, rfl, q⟩
end
end L2

namespace L2
open PySem PySem.Spec PyProof.Rows
abbrev CellAt (h : Heap) (c : Addr) (v : Option Value) : Prop := h.IsCell c v
def relS (scope sc : Scope) : Scope :=
  { scope with names := scope.names.map fun (n, k) => if (k == .free && sc.kind == .function && sc.names.lookup n == some .cell) then (n, .cell) else (n, k) }

def cloFrom (cells : List (Str × Addr)) : List (Str × NameKind) → List (Str × Addr) → List (Str × Addr)
  | [], acc => acc
  | (n, k) :: r, acc => if k == .free then cloFrom cells r ((n, (cells.lookup n).getD 0) :: acc) else cloFrom cells r acc

theorem closure_loop (env : Env) (f : Str × NameKind → List (Str × Addr) → Sem (ForInStep (List (Str × Addr))))
    (hf : ∀ n k c, f (n, k) c = if k == .free then (do let a ← cellOf env n; pure (.yield ((n, a) :: c))) else pure (.yield c)) :
    ∀ (names : List (Str × NameKind)) (acc : List (Str × Addr)), (∀ y ∈ names, y.2 = .free → ∃ c, env.cells.lookup y.1 = some c) → forIn names acc f = pure (cloFrom env.cells names acc)
  | [], acc, _ => by rw [List.forIn_nil]; rfl
  | (n, k) :: r, acc, h => by
    rw [List.forIn_cons, hf]
    have ih := fun acc => closure_loop env f hf r acc fun y hy => h y (List.mem_cons_of_mem _ hy)
    unfold cloFrom
    by_cases hk : (k == NameKind.free) = true
    · rw [if_pos hk, if_pos hk]
      obtain ⟨c, hc⟩ := h (n, k) List.mem_cons_self (by simpa using hk)
      have e : cellOf env n = pure c := by unfold cellOf; rw [hc]
      rw [e]
      have e2 : (env.cells.lookup n).getD 0 = c := by rw [hc]; rfl
      rw [e2]
      exact ih _
    · rw [if_neg hk, if_neg hk]
      exact ih _
theorem closure_ok {scope : Scope} {env : Env} (h : ∀ y ∈ scope.names, y.2 = .free → ∃ c, env.cells.lookup y.1 = some c) : closureFor scope env = pure (cloFrom env.cells scope.names []) := by
  simp only [closureFor]
  rw [closure_loop env _ (fun n k c => rfl) scope.names [] h]
  rfl

theorem mem_lookup {α : Type} : ∀ {l : List (Str × α)} {n : Str} {c : α}, (n, c) ∈ l → ∃ c', l.lookup n = some c'
  | (k, v) :: r, n, c, h => by
    rw [List.lookup_cons]
    cases hb : n == k with
    | true => exact ⟨_, rfl⟩
    | false =>
      rcases List.mem_cons.mp h with e | h
      · cases e; simp at hb
      · exact mem_lookup h

theorem cloFrom_mem {cells : List (Str × Addr)} : ∀ {names : List (Str × NameKind)} {acc : List (Str × Addr)} {n : Str} {c : Addr}, (n, c) ∈ cloFrom cells names acc → (n, c) ∈ acc ∨ ((n, .free) ∈ names ∧ c = (cells.lookup n).getD 0)
  | [], _, _, _, h => .inl h
  | (m, k) :: r, acc, n, c, h => by
    unfold cloFrom at h
    split at h
    · rename_i hk
      have hk : k = .free := by simpa using hk
      rcases cloFrom_mem h with h | ⟨h1, h2⟩
      · rcases List.mem_cons.mp h with e | h
        · cases e; exact .inr ⟨hk ▸ List.mem_cons_self, rfl⟩
        · exact .inl h
      · exact .inr ⟨List.mem_cons_of_mem _ h1, h2⟩
    · rcases cloFrom_mem h with h | ⟨h1, h2⟩
      · exact .inl h
      · exact .inr ⟨List.mem_cons_of_mem _ h1, h2⟩
theorem cloFrom_acc {cells : List (Str × Addr)} : ∀ {names : List (Str × NameKind)} {acc : List (Str × Addr)} {p : Str × Addr}, p ∈ acc → p ∈ cloFrom cells names acc
  | [], _, _, h => h
  | (m, k) :: r, acc, p, h => by
    unfold cloFrom
    split
    · exact cloFrom_acc (List.mem_cons_of_mem _ h)
    · exact cloFrom_acc h
theorem cloFrom_has {cells : List (Str × Addr)} : ∀ {names : List (Str × NameKind)} {acc : List (Str × Addr)} {n : Str}, (n, .free) ∈ names → (n, (cells.lookup n).getD 0) ∈ cloFrom cells names acc
  | (m, k) :: r, acc, n, h => by
    unfold cloFrom
    rcases List.mem_cons.mp h with e | h
    · cases e
      exact cloFrom_acc List.mem_cons_self
    · split
      · exact cloFrom_has h
      · exact cloFrom_has h

theorem cells_mem : ∀ {names : List (Str × NameKind)} {h : Heap} {acc : List (Str × Addr)} {x : Str} {c : Addr}, (x, c) ∈ cellsFrom h.objs.size names acc →
    (x, c) ∈ acc ∨ ((x, .cell) ∈ names ∧ h.objs.size ≤ c ∧ CellAt (pushCells h names) c none)
  | [], _, _, _, _, h => .inl h
  | (n, k) :: r, h, acc, x, c, hm => by
    unfold cellsFrom at hm
    unfold pushCells
    split at hm
    · rename_i hk
      rw [if_pos hk]
      have hk : k = .cell := by simpa using hk
      rw [← Heap.size_push h { cls := .type "cell", data := .cell none }] at hm
      rcases cells_mem hm with hm | ⟨h1, h2, h3⟩
      · rcases List.mem_cons.mp hm with e | hm
        · cases e
          exact .inr ⟨hk ▸ List.mem_cons_self, Nat.le_refl _, _, pushCells_keeps r _ _ _ (Heap.get?_push_size _ rfl), rfl⟩
        · exact .inl hm
      · rw [Heap.size_push] at h2
        exact .inr ⟨List.mem_cons_of_mem _ h1, Nat.le_of_succ_le h2, h3⟩
    · rename_i hk
      rw [if_neg hk]
      rcases cells_mem hm with hm | ⟨h1, h2, h3⟩
      · exact .inl hm
      · exact .inr ⟨List.mem_cons_of_mem _ h1, h2, h3⟩
theorem cells_acc : ∀ {names : List (Str × NameKind)} {n : Nat} {acc : List (Str × Addr)} {p : Str × Addr}, p ∈ acc → p ∈ cellsFrom n names acc
  | [], _, _, _, h => h
  | (m, k) :: r, n, acc, p, h => by
    unfold cellsFrom
    split
    · exact cells_acc (List.mem_cons_of_mem _ h)
    · exact cells_acc h
theorem cells_has : ∀ {names : List (Str × NameKind)} {n : Nat} {acc : List (Str × Addr)} {x : Str}, (x, .cell) ∈ names → ∃ c, (x, c) ∈ cellsFrom n names acc
  | (m, k) :: r, n, acc, x, h => by
    unfold cellsFrom
    rcases List.mem_cons.mp h with e | h
    · cases e
      exact ⟨n, cells_acc List.mem_cons_self⟩
    · split
      · exact cells_has h
      · exact cells_has h
theorem cells_inj : ∀ {names : List (Str × NameKind)} {h : Heap} {acc : List (Str × Addr)} {x y : Str} {c : Addr}, (∀ p ∈ acc, p.2 < h.objs.size) → (∀ x y c, (x, c) ∈ acc → (y, c) ∈ acc → x = y) →
    (x, c) ∈ cellsFrom h.objs.size names acc → (y, c) ∈ cellsFrom h.objs.size names acc → x = y
  | [], _, _, _, _, _, _, hi, h1, h2 => hi _ _ _ h1 h2
  | (n, k) :: r, h, acc, x, y, c, hl, hi, h1, h2 => by
    unfold cellsFrom at h1 h2
    split at h1
    · rename_i hk
      rw [if_pos hk] at h2
      rw [← Heap.size_push h { cls := .type "cell", data := .cell none }] at h1 h2
      refine cells_inj (h := h.push _) (fun p hp => ?_) (fun x y c a b => ?_) h1 h2
      · rw [Heap.size_push]
        rcases List.mem_cons.mp hp with rfl | hp
        · exact Nat.lt_succ_self _
        · exact Nat.lt_succ_of_lt (hl p hp)
      · rcases List.mem_cons.mp a with e | a <;> rcases List.mem_cons.mp b with e' | b
        · cases e; cases e'; rfl
        · cases e; exact absurd (hl _ b) (Nat.lt_irrefl _)
        · cases e'; exact absurd (hl _ a) (Nat.lt_irrefl _)
        · exact hi _ _ _ a b
    · rename_i hk
      rw [if_neg hk] at h2
      exact cells_inj hl hi h1 h2

theorem newEnv_comp {M : Model} {A : Around} {E : Value → Shared → Prop} {s : Shared} {scope : Scope} {globals : Addr} {closure : List (Str × Addr)} {qual : Str} {func : Option Addr} {code : Value} {around : Env} {builtins : Addr} {Q : Env → Shared → Prop}
    (h : Q (newEnv scope s.heap.objs.size globals (cellsFrom (s.heap.objs.size + 1) scope.names closure) qual func code (some around) builtins)
      { s with heap := pushCells (s.heap.push { cls := .type "dict", data := .dict #[] }) scope.names }) :
    wpAny M A (newFunctionEnv scope globals closure [] qual func code (some around) builtins) Q E s := by
  simp only [newFunctionEnv, Option.isSome_some, if_true]
  refine wpAny_bind (wpAny_alloc ?_)
  refine wpAny_bind (wpAny_layCells _ (fun n k c => rfl) scope.names closure _ _ ?_)
  rw [show ({ s with heap := s.heap.push { cls := .type "dict", data := .dict #[] } } : Shared).heap.objs.size = s.heap.objs.size + 1 from Heap.size_push ..]
  rw [List.forIn_nil]
  exact wpAny_bind (wpAny_pure (wpAny_pure h))

theorem lookup_relS {sc : Scope} : ∀ {names : List (Str × NameKind)} {x : Str} {k : NameKind},
    (names.map fun (n, k) => if (k == NameKind.free && sc.kind == .function && sc.names.lookup n == some .cell) then (n, NameKind.cell) else (n, k)).lookup x = some k →
    ∃ k', names.lookup x = some k' ∧ (k = k' ∨ (k' = .free ∧ k = .cell))
  | [], _, _, h => by simp at h
  | (n, k₀) :: r, x, k, h => by
    have ih := @lookup_relS sc r x k
    have h' : List.lookup x ((if (k₀ == NameKind.free && sc.kind == .function && sc.names.lookup n == some .cell) = true then (n, NameKind.cell) else (n, k₀)) :: (r.map _)) = some k := h
    cases hx : x == n with
    | true =>
      simp only [List.lookup_cons, hx]
      by_cases hc : (k₀ == NameKind.free && sc.kind == .function && sc.names.lookup n == some .cell) = true
      · rw [if_pos hc] at h'
        simp only [List.lookup_cons, hx] at h'
        cases h'
        simp only [Bool.and_eq_true, beq_iff_eq] at hc
        exact ⟨k₀, rfl, .inr ⟨hc.1.1, rfl⟩⟩
      · rw [if_neg hc] at h'
        simp only [List.lookup_cons, hx] at h'
        cases h'
        exact ⟨_, rfl, .inl rfl⟩
    | false =>
      simp only [List.lookup_cons, hx]
      by_cases hc : (k₀ == NameKind.free && sc.kind == .function && sc.names.lookup n == some .cell) = true
      · rw [if_pos hc] at h'
        simp only [List.lookup_cons, hx] at h'
        exact ih h'
      · rw [if_neg hc] at h'
        simp only [List.lookup_cons, hx] at h'
        exact ih h'
structure BlkOk (N : List Str) (sc scope : Scope) (own : List (Str × Nat)) : Prop where
  kind : scope.kind = .function
  uniq : ∀ y ∈ scope.names, scope.names.lookup y.1 = some y.2
  ix : ∀ p ∈ own, N[p.2]? = some p.1
  free : ∀ y ∈ scope.names, y.2 = .free → sc.names.lookup y.1 = some .cell ∨ sc.names.lookup y.1 = some .free
  own : ∀ y ∈ scope.names, y.2 = .local ∨ y.2 = .cell → y.1 ∈ own.map (·.1) ∨ y.1 ∉ N
def wipe (σ : St) : List Nat → St
  | [] => σ
  | v :: vs => (wipe σ vs).set v none
theorem wipe_length (σ : St) : ∀ vs : List Nat, (wipe σ vs).length = σ.length
  | [] => rfl
  | v :: vs => by unfold wipe; rw [List.length_set, wipe_length σ vs]
theorem wipe_some {σ : St} {i : Nat} {x : V} : ∀ {vs : List Nat}, (wipe σ vs)[i]? = some (some x) → σ[i]? = some (some x) ∧ i ∉ vs
  | [], h => ⟨h, by simp⟩
  | v :: vs, h => by
    unfold wipe at h
    by_cases hi : v = i
    · subst hi
      by_cases hv : v < (wipe σ vs).length
      · rw [List.getElem?_set_self hv] at h; cases h
      · rw [List.getElem?_eq_none (by simpa using hv)] at h; cases h
    · rw [List.getElem?_set_ne hi] at h
      obtain ⟨h1, h2⟩ := wipe_some h
      exact ⟨h1, by simp only [List.mem_cons, not_or]; exact ⟨fun e => hi e.symm, h2⟩⟩

abbrev Cx.blk (X : Cx) (s : Shared) (H : Hp) (scope : Scope) (cenv : Env) (fp : List Addr) : Cx := { X with s_0 := s, H_0 := H, env := cenv, outer := X.stack, ex := fp, fn := fun x => scope.names.lookup x == some .cell, pn := [], xe := fun _ _ => False }
section
variable {X : Cx} {pins : List (Addr × Obj)} {σ : St} {H : Hp} {s : Shared}
theorem block_start {scope : Scope} {own : List (Str × Nat)} {fp : List Addr} (I : Inv X pins σ H s) (ok : BlkOk X.N X.env.scope scope own) (hN : X.N.Nodup) (hfp : ∀ b ∈ fp, FpOk X pins H b ∧ b < s.heap.objs.size) :
    Inv (X.blk s H scope (compEnvC scope (cellsFrom (s.heap.objs.size + 1) scope.names (cloFrom X.env.cells scope.names [])) s.heap.objs.size X.env) fp) [] (wipe σ (own.map (·.2))) H { s with heap := pushCells (s.heap.push { cls := .type "dict", data := .dict #[] }) scope.names } := by
  have hfree : ∀ y ∈ scope.names, y.2 = .free → ∃ c, X.env.cells.lookup y.1 = some c := fun y hy e => by
    rcases ok.free y hy e with k | k
    · exact I.ok.has _ (.inl k)
    · exact I.ok.has _ (.inr k)
  generalize hcenv : compEnvC scope (cellsFrom (s.heap.objs.size + 1) scope.names (cloFrom X.env.cells scope.names [])) s.heap.objs.size X.env = cenv
  have kp : ∀ b o, s.heap.get? b = some o → (pushCells (s.heap.push { cls := .type "dict", data := .dict #[] }) scope.names).get? b = some o := fun b o e => pushCells_keeps _ _ _ _ (Heap.get?_push_of_some _ e)
  have hL : cenv.locals = s.heap.objs.size := by rw [← hcenv]; rfl
  have hcl : cenv.cells = cellsFrom (s.heap.objs.size + 1) scope.names (cloFrom X.env.cells scope.names []) := by rw [← hcenv]; rfl
  have hsc : cenv.scope = relS scope X.env.scope := by rw [← hcenv]; rfl
  rw [← Heap.size_push s.heap { cls := .type "dict", data := .dict #[] }] at hcl
  have cm : ∀ {y c}, (y, c) ∈ cloFrom X.env.cells scope.names [] → X.env.cells.lookup y = some c ∧ c < s.heap.objs.size := fun {y c} hm => by
    rcases cloFrom_mem hm with hm | ⟨h1, rfl⟩
    · cases hm
    · obtain ⟨c, hc⟩ := hfree _ h1 rfl
      rw [hc]
      obtain ⟨w, z⟩ := I.cell _ _ hc
      exact ⟨rfl, z.lt⟩
  have mem : ∀ {y c}, cenv.cells.lookup y = some c → (X.env.cells.lookup y = some c ∧ c < s.heap.objs.size) ∨ (s.heap.objs.size + 1 ≤ c ∧ CellAt (pushCells (s.heap.push { cls := .type "dict", data := .dict #[] }) scope.names) c none) := fun {y c} e => by
    rw [hcl] at e
    rcases cells_mem (PySem.mem_of_lookup e) with hm | ⟨_, h2, h3⟩
    · exact .inl (cm hm)
    · rw [Heap.size_push] at h2; exact .inr ⟨h2, h3⟩
  have look : ∀ {y}, scope.names.lookup y = some .free → ∃ c, cenv.cells.lookup y = some c ∧ X.env.cells.lookup y = some c := fun {y} hl => by
    have hy : (y, NameKind.free) ∈ scope.names := PySem.mem_of_lookup hl
    obtain ⟨c', e'⟩ := mem_lookup (cells_acc (names := scope.names) (n := (s.heap.push { cls := .type "dict", data := .dict #[] }).objs.size) (cloFrom_has (cells := X.env.cells) (acc := []) hy))
    rw [← hcl] at e'
    refine ⟨c', e', ?_⟩
    rw [hcl] at e'
    rcases cells_mem (PySem.mem_of_lookup e') with hm | ⟨h1, _, _⟩
    · exact (cm hm).1
    · have := ok.uniq _ h1
      rw [hl] at this; cases this
  have okB : (X.blk s H scope cenv fp).Ok := by
    refine ⟨I.ok.mod, by show cenv.scope.kind = _; rw [hsc]; exact ok.kind, by show cenv.globals = _; rw [← hcenv]; exact I.ok.glob, by show cenv.builtins = _; rw [← hcenv]; exact I.ok.blt, by show s.heap.objs.size ≤ cenv.locals; rw [hL]; exact Nat.le_refl _,
      fun y z c e1 e2 => ?_, fun y hy => ?_, fun y c z e => ?_, I.ok.hd, I.ok.frames, .inl rfl, fun b hb => ⟨?_, fun y c e z => ?_⟩, I.bs, Nat.le_trans I.ok.bsz I.sz, fun b o e hb => ?_, fun b hb z => ?_, I.stack, I.stkFree⟩
    · have e1 : cenv.cells.lookup y = some c := e1
      have e2 : cenv.cells.lookup z = some c := e2
      rw [hcl] at e1 e2
      refine cells_inj (fun p hp => ?_) (fun y z c a b => I.ok.inj y z c (cm a).1 (cm b).1) (PySem.mem_of_lookup e1) (PySem.mem_of_lookup e2)
      rw [Heap.size_push]
      exact Nat.lt_succ_of_lt (cm (y := p.1) (c := p.2) hp).2
    · show ∃ c, cenv.cells.lookup y = some c
      have key : ∀ k, cenv.kindOf y = some k → (k = .cell ∨ k = .free) → ∃ c, cenv.cells.lookup y = some c := fun k hk hk' => by
        unfold Env.kindOf at hk
        rw [hsc] at hk
        obtain ⟨k', e, r⟩ := lookup_relS hk
        have : k' = .cell ∨ k' = .free := by
          rcases r with rfl | ⟨rfl, _⟩
          · exact hk'
          · exact .inr rfl
        rcases this with rfl | rfl
        · obtain ⟨c, hm⟩ := cells_has (n := (s.heap.push { cls := .type "dict", data := .dict #[] }).objs.size) (acc := cloFrom X.env.cells scope.names []) (PySem.mem_of_lookup e)
          obtain ⟨c', e'⟩ := mem_lookup hm
          exact ⟨c', by rw [hcl]; exact e'⟩
        · obtain ⟨c, h1, _⟩ := look e
          exact ⟨c, h1⟩
      rcases hy with hy | hy
      · exact key _ hy (.inl rfl)
      · exact key _ hy (.inr rfl)
    · have z : (scope.names.lookup y == some NameKind.cell) = true := z
      have z : scope.names.lookup y = some .cell := by simpa using z
      have e : cenv.cells.lookup y = some c := e
      rw [hcl] at e
      rcases cells_mem (PySem.mem_of_lookup e) with hm | ⟨_, h2, _⟩
      · rcases cloFrom_mem hm with hm | ⟨h1, _⟩
        · cases hm
        · have q := ok.uniq _ h1
          rw [z] at q; cases q
      · rw [Heap.size_push] at h2
        exact Nat.le_of_succ_le h2
    · show b ≠ cenv.locals
      rw [hL]; exact Nat.ne_of_lt (hfp b hb).2
    · have e : cenv.cells.lookup y = some c := e
      rcases mem e with ⟨h1, _⟩ | ⟨h1, _⟩
      · exact (hfp b hb).1.2.2.2.2.1 y c h1 z
      · have h2 : s.heap.objs.size + 1 ≤ b := by rw [← z]; exact h1
        exact absurd (Nat.lt_of_lt_of_le (hfp b hb).2 (Nat.le_of_succ_le h2)) (Nat.lt_irrefl _)
    · rcases (hfp b hb).1.2.2.2.1 with z | z
      · exact I.ok.noex b o e z
      · exact absurd (Nat.lt_of_lt_of_le (Heap.lt_size e) (Nat.le_trans I.ok.bsz z)) (Nat.lt_irrefl _)
    · rcases List.mem_cons.mp (I.stkSub b z) with z | z
      · exact (hfp b hb).1.2.1 z
      · exact (hfp b hb).1.2.2.1 z
  refine ⟨okB, rfl, I.bare, Un.kept kp, ⟨fun _ => none, ?_, fun i y av e1 e2 e3 => ?_⟩, fun y c e => ?_, ?_, fun y c e => ?_, fun p hp => ?_, I.hok.kept kp, by rw [wipe_length]; exact I.len⟩
  · show Heap.Ns _ cenv.locals _
    rw [hL]
    exact Heap.Ns.keeps (Heap.Ns.new ..) fun b o e => pushCells_keeps _ _ _ _ e
  · obtain ⟨e2, hne⟩ := wipe_some e2
    have hfr : scope.names.lookup y = some .free ∧ (cenv.kindOf y = some .cell ∨ cenv.kindOf y = some .free) := by
      have key : ∀ k, cenv.scope.names.lookup y = some k → k = .local ∨ k = .cell ∨ k = .free → scope.names.lookup y = some .free ∧ (cenv.kindOf y = some .cell ∨ cenv.kindOf y = some .free) := fun k hk hk' => by
        have hk0 := hk
        rw [hsc] at hk
        obtain ⟨k', e, r⟩ := lookup_relS hk
        have no : ¬ (k' = .local ∨ k' = .cell) := fun hh => by
          rcases ok.own _ (PySem.mem_of_lookup e) hh with e' | e'
          · obtain ⟨p, hp, hpy⟩ := List.mem_map.mp e'
            have e3 := ok.ix p hp
            have : p.1 = y := hpy
            rw [this] at e3
            exact hne (List.mem_map.mpr ⟨p, hp, nodup_ix hN e3 e1⟩)
          · exact e' (List.mem_of_getElem? e1)
        rcases r with rfl | ⟨rfl, rfl⟩
        · rcases hk' with rfl | rfl | rfl
          · exact absurd (.inl rfl) no
          · exact absurd (.inr rfl) no
          · exact ⟨e, .inr hk0⟩
        · exact ⟨e, .inl hk0⟩
      have e3 : Vis cenv.scope y := e3
      rcases e3 with e3 | e3 | e3
      · exact key _ e3 (.inl rfl)
      · exact key _ e3 (.inr (.inl rfl))
      · exact key _ e3 (.inr (.inr rfl))
    obtain ⟨m, hn, hl⟩ := I.loc
    have hvis : Vis X.env.scope y := (ok.free _ (PySem.mem_of_lookup hfr.1) rfl).elim (fun k => .inr (.inl k)) (fun k => .inr (.inr k))
    obtain ⟨w, r, q⟩ := hl i y av e1 e2 hvis
    refine ⟨w, r, .inr ⟨hfr.2, ?_⟩⟩
    obtain ⟨c, h1, h2⟩ := look hfr.1
    rcases q with ⟨k, _⟩ | ⟨_, c', e', z⟩
    · have k : X.env.scope.names.lookup y = some .local := k
      rcases ok.free _ (PySem.mem_of_lookup hfr.1) rfl with k' | k' <;> rw [show X.env.scope.names.lookup y = _ from k'] at k <;> cases k
    · rw [h2] at e'; cases e'
      exact ⟨c, h1, z.keeps kp⟩
  · have e : cenv.cells.lookup y = some c := e
    rcases mem e with ⟨h1, _⟩ | ⟨_, z⟩
    · obtain ⟨w, z⟩ := I.cell y c h1
      exact ⟨w, z.keeps kp⟩
    · exact ⟨_, z⟩
  · show H cenv.locals = none
    rw [hL]; exact I.hok.fresh (Nat.le_refl _)
  · have e : cenv.cells.lookup y = some c := e
    rcases mem e with ⟨h1, _⟩ | ⟨h1, _⟩
    · exact I.freeC y c h1
    · exact I.hok.fresh (Nat.le_of_succ_le h1)
  · exact absurd (show p ∈ ([] : List (Addr × Obj)) ++ [] from hp) (by simp)

theorem app_ok {E : Value → Shared → Prop} {D : Addr} {xs : List V} {y : V} {v : Value} {Q : Value → Shared → Prop} (I : Inv X pins σ H s) (hD : H D = some (.lst xs)) (hz : xs.length < sizeLine) (r : RelV y v)
    (h : ∀ s', Inv X pins σ (upd H D (.lst (xs ++ [y]))) s' → Q .none s') : wpAny (model X.prog X.w) X.A (call (.builtin "list.append") [.ref D, v]) Q E s := by
  obtain ⟨hz', its, n, ri, e⟩ := I.hok D _ hD
  have hl := ri.length
  refine append_at (hsz := by rw [List.size_toArray]; omega) e fun h' sb ho' => ?_
  refine h { s with heap := h' } (I.write (t' := s.toks) (by rw [hD]; trivial) (.inl rfl) (fun b u hb q => (sb.2 b hb).trans q) ⟨_, ho'⟩ ⟨by rw [List.length_append]; exact hz, its ++ [v], n + 1, ri.append (.cons r .nil), ?_⟩)
  rw [ho']
  simp

def PTs (X : Cx) (ifs : List Expr) (t : TT) : Prop :=
  ∀ (pins : List (Addr × Obj)) (s : Shared) (σ : St) (H : Hp) (Q : Bool → Hp → Prop), Inv X pins σ H s → t σ H Q →
    wpAny (model X.prog X.w) X.A (forIn ifs true fun c r => if r = true then do let ok ← isTrue c X.env (eval c X.env); pure (ForInStep.yield ok) else pure (ForInStep.yield r)) (TP X pins σ Q) X.xe s
def tYes : TT := fun _ H Q => Q true H
theorem pts_nil : PTs X [] tYes := fun _ _ _ H _ I h => wpAny_tests_nil ⟨H, I, h⟩
theorem pts_one {c : Expr} {t : TT} (h : PT X c t) : PTs X [c] t := fun pins s σ H Q I hw => wpAny_tests_one (h pins s σ H Q I hw)
end

theorem thnF {α : Type} {t : Sem α} {Q Q' : α → Shared → Prop} {M : Model} {A : Around} {E : Value → Shared → Prop} {s : Shared} (h : wpAny M A t Q (fun _ _ => False) s) (hQ : ∀ a s, Q a s → Q' a s) : wpAny M A t Q' E s := wpAny_mono h hQ fun _ _ z => False.elim z

theorem compLoop_any {prog : Program} {w : World} {A : Around} {R : Result → Shared → Prop} {s : Shared} {elt target iter : Expr} {ifs : List Expr} {scope : Scope} {pos : Pos} {it acc : Value} {env : Env} (I : Nat → Shared → Prop)
    (turn : ∀ n s, I n s → wpAny (model prog w) A (pyNext it) (fun r s₁ => match r with
      | none => R (.ok .next) s₁
      | some v => wpAny (model prog w) A (letOwnedTupleGo target it v) (fun _ s₁' => wpAny (model prog w) A (assign target env v) (fun _ s₂ =>
          wpAny (model prog w) A (forIn ifs true fun c r => if r = true then do let ok ← isTrue c env (eval c env); pure (ForInStep.yield ok) else pure (ForInStep.yield r)) (fun ok s₃ =>
            if ok = true then wpAny (model prog w) A (eval elt env) (fun x s₄ =>
              wpAny (model prog w) A (call (.builtin "list.append") [acc, x]) (fun _ s₅ => ∃ m, m < n ∧ I m s₅) (notedBy (model prog w) A env fun e s' => R (.error e) s') s₄) (notedBy (model prog w) A env fun e s' => R (.error e) s') s₃
            else ∃ m, m < n ∧ I m s₃) (notedBy (model prog w) A env fun e s' => R (.error e) s') s₂) (notedBy (model prog w) A env fun e s' => R (.error e) s') s₁') (notedBy (model prog w) A env fun e s' => R (.error e) s') s₁) (notedBy (model prog w) A env fun e s' => R (.error e) s') s)
    (n : Nat) (h : I n s) :
    codeAny (model prog w) A (.compLoop (.ListComp elt [⟨target, iter, ifs, 0⟩] scope pos) 0 it acc env) R s := by
  refine codeAny_loop rfl I (fun n s hI => ?_) n h
  show wpAny _ A ((compTurn (.ListComp elt [⟨target, iter, ifs, 0⟩] scope pos) 0 it acc env).onRaise (fun x => do noteFrame x env; theTreesLotGoes x)) _ _ s
  refine wpAny_noted ?_
  rw [compTurn_list]
  refine wpAny_bind (wpAny_standAt (wpAny_bind (wpAny_mono (turn n s hI) (fun r s₁ h₁ => ?_) fun _ _ h' => h')))
  cases r with
  | none => exact wpAny_pure h₁
  | some v =>
    refine wpAny_bind (wpAny_mono h₁ (fun _ s₁' h₁' => ?_) fun _ _ h' => h')
    refine wpAny_bind (wpAny_mono h₁' (fun _ s₂ h₂ => wpAny_bind (wpAny_mono h₂ (fun ok s₃ h₃ => ?_) fun _ _ h' => h')) fun _ _ h' => h')
    cases ok with
    | false => exact wpAny_pure ⟨rfl, h₃⟩
    | true =>
      exact wpAny_bind (wpAny_bind (wpAny_mono h₃ (fun x s₄ h₄ => wpAny_bind (wpAny_mono h₄ (fun _ s₅ h₅ => wpAny_pure (wpAny_pure ⟨rfl, h₅⟩)) fun _ _ h' => h')) fun _ _ h' => h'))

section
variable {X : Cx}
def tLc (wi : TI) (g : TG) (tt : TT) (te : TE) (vs : List Nat) : TE := fun σ H Q => wi σ H fun J H1 => ∀ D, H1 D = none → ∃ W : Nat → Nat → Hp → Prop, (∃ m, W 0 m (upd H1 D (.lst []))) ∧ ∀ i m H, W i m H →
  (J.stop i H ∧ Q (.ref D) H) ∨ (J.go i H ∧ ∃ Nx : Hp → Prop, (∀ H', Nx H' → ∃ m', m' < m ∧ W (i + 1) m' H') ∧ ∀ x H', J.yld i H x H' → g x (wipe σ vs) H' fun σ2 H2 => wipe σ2 vs = wipe σ vs ∧ tt σ2 H2 fun b H3 =>
    if b = true then te σ2 H3 fun y H4 => ∃ acc, H4 D = some (.lst acc) ∧ acc.length < sizeLine ∧ Nx (upd H4 D (.lst (acc ++ [y]))) else Nx H3)
theorem lc_core {pins : List (Addr × Obj)} {s : Shared} {σ : St} {H : Hp} {Q : VK} {elt tg iter : Expr} {ifs : List Expr} {scope : Scope} {own : List (Str × Nat)} {pos pos' : Pos} {wi : TI} {g : TG} {tt : TT} {te : TE} {use : Option (Value → Sem Unit)} {Qf : Value → Shared → Prop}
    (hc : X.calm = true) (hN : X.N.Nodup) (I : Inv X pins σ H s) (hi : PI X tg iter wi) (ok : BlkOk X.N X.env.scope scope own)
    (hg : ∀ (s : Shared) (H : Hp) (C : Addr) (cl : List (Str × Addr)) (fp : List Addr), PG (X.blk s H scope (compEnvC scope cl C X.env) fp) tg g) (ht : ∀ (s : Shared) (H : Hp) (C : Addr) (cl : List (Str × Addr)) (fp : List Addr), PTs (X.blk s H scope (compEnvC scope cl C X.env) fp) ifs tt)
    (he : ∀ (s : Shared) (H : Hp) (C : Addr) (cl : List (Str × Addr)) (fp : List Addr), PE (X.blk s H scope (compEnvC scope cl C X.env) fp) elt te) (hs : ∀ x, foldedSetIterable iter X.env x = pure x)
    (h : tLc wi g tt te (own.map (·.2)) σ H Q)
    (hRR : ∀ D C s' m H', Inv X pins σ H' s' → Q (.ref D) H' → s'.heap.Ns C m → FpOk X pins H' C → compPost (model X.prog X.w) X.A X.xe use Qf (.ref D) C (.ok .next) s') :
    wpAny (model X.prog X.w) X.A (comprehension (.ListComp elt [⟨tg, iter, ifs, 0⟩] scope pos) scope X.env pos' (newList []) false (eval iter X.env) use) Qf X.xe s := by
  have hfree : ∀ y ∈ scope.names, y.2 = .free → ∃ c, X.env.cells.lookup y.1 = some c := fun y hy e => by
    rcases ok.free y hy e with k | k
    · exact I.ok.has _ (.inl k)
    · exact I.ok.has _ (.inr k)
  refine wpAny_comprehension_free (use := use) rfl hs (closure_ok hfree) ok.kind (fun y hy e => by rw [ok.uniq y hy, e])
    (thn (hi pins s σ H _ I h) fun xv s1 hx => thn hx fun itv s2 h2 => ?_)
  obtain ⟨it, fp, tn, J, H2, e, I2, T, st2, f2, q⟩ := h2
  subst e
  refine wpAny_newObj_type (newEnv_comp ?_) (by show 0 ≤ sizeLine; decide)
  generalize hD : s2.heap.objs.size = D
  have hDn : H2 D = none := I2.hok.fresh (Nat.le_of_eq hD)
  obtain ⟨W, ⟨m0, w0⟩, turn⟩ := q D hDn
  generalize hs3 : ({ s2 with heap := s2.heap.push { cls := .type "list", data := .seq ([] : List Value).toArray } } : Shared) = s3
  have I3 : Inv X pins σ (upd H2 D (.lst [])) s3 := by
    rw [← hs3]
    refine I2.laid (t' := s2.toks) (fun b o e => Heap.get?_push_of_some _ e) (Nat.le_of_eq hD) ⟨Nat.zero_le _, [], 0, .nil, ?_⟩
    rw [← hD]
    exact Heap.get?_push_size _ rfl
  have h3 : s3.heap = s2.heap.push { cls := .type "list", data := .seq ([] : List Value).toArray } := by rw [← hs3]
  have sz : ∀ b ∈ fp, b < s2.heap.objs.size := fun b hb => by
    obtain ⟨o, e, _⟩ := T.obj _ _ st2 b hb
    exact Heap.lt_size e
  have f3 : ∀ b ∈ fp, FpOk X pins (upd H2 D (.lst [])) b ∧ b < s3.heap.objs.size := fun b hb => by
    have hlt := sz b hb
    refine ⟨⟨?_, (f2 b hb).2⟩, by rw [h3, Heap.size_push]; exact Nat.lt_succ_of_lt hlt⟩
    rw [upd_ne (by rw [← hD]; exact Nat.ne_of_lt hlt)]
    exact (f2 b hb).1
  have st3 : tn 0 s3.heap := T.keep _ _ _ st2 fun b _ o e => by rw [h3]; exact Heap.get?_push_of_some _ e
  have I4 := block_start I3 ok hN f3
  have pg := hg s3 (upd H2 D (.lst [])) s3.heap.objs.size (cellsFrom (s3.heap.objs.size + 1) scope.names (cloFrom X.env.cells scope.names [])) fp
  have pt := ht s3 (upd H2 D (.lst [])) s3.heap.objs.size (cellsFrom (s3.heap.objs.size + 1) scope.names (cloFrom X.env.cells scope.names [])) fp
  have pe := he s3 (upd H2 D (.lst [])) s3.heap.objs.size (cellsFrom (s3.heap.objs.size + 1) scope.names (cloFrom X.env.cells scope.names [])) fp
  show codeAny _ _ (.compStart (.ListComp elt [⟨tg, iter, ifs, 0⟩] scope pos) 0 (.ref it) (.ref D) (compEnvC scope (cellsFrom (s3.heap.objs.size + 1) scope.names (cloFrom X.env.cells scope.names [])) s3.heap.objs.size X.env)) (compPost (model X.prog X.w) X.A X.xe use Qf (.ref D) s3.heap.objs.size) { s3 with heap := pushCells (s3.heap.push { cls := .type "dict", data := .dict #[] }) scope.names }
  have nfp : ∀ b ∈ fp, (upd H2 D (.lst [])) b = none := fun b hb => (f3 b hb).1.1
  generalize hce : compEnvC scope (cellsFrom (s3.heap.objs.size + 1) scope.names (cloFrom X.env.cells scope.names [])) s3.heap.objs.size X.env = ce at I4 pg pt pe ⊢
  have cL : ce.locals = s3.heap.objs.size := by subst hce; rfl
  generalize hH3 : upd H2 D (.lst []) = H3 at I3 I4 pg pt pe w0 nfp f3
  generalize hs4 : ({ s3 with heap := pushCells (s3.heap.push { cls := .type "dict", data := .dict #[] }) scope.names } : Shared) = s4 at I4 ⊢
  have st4 : tn 0 s4.heap := T.keep _ _ _ st3 fun b _ o e => by rw [← hs4]; exact pushCells_keeps _ _ _ _ (Heap.get?_push_of_some _ e)
  have stat : ∀ {σ' : St} {H' : Hp} {s' : Shared}, Inv (X.blk s3 H3 scope ce fp) [] σ' H' s' → (∀ b ∈ fp, H' b = none) → ∀ b ∈ fp, FpOk (X.blk s3 H3 scope ce fp) [] H' b := fun {σ' H' s'} I' hn b hb =>
    ⟨hn b hb, (I'.ok.exf b hb).1, I'.ok.exfs b hb, .inl hb, fun x c e => (I'.ok.exf b hb).2 x c e, fun p hp => absurd (show p ∈ ([] : List (Addr × Obj)) ++ [] from hp) (by simp)⟩
  have loop : codeAny (model X.prog X.w) X.A (.compLoop (.ListComp elt [⟨tg, iter, ifs, 0⟩] scope pos) 0 (.ref it) (.ref D) ce) (compPost (model X.prog X.w) X.A X.xe use Qf (.ref D) s3.heap.objs.size) s4 := by
    refine compLoop_any (fun n s' => ∃ i H', Inv (X.blk s3 H3 scope ce fp) [] (wipe σ (own.map (·.2))) H' s' ∧ tn i s'.heap ∧ (∀ b ∈ fp, H' b = none) ∧ W i n H') ?_ m0 ⟨0, H3, I4, st4, nfp, w0⟩
    rintro n s5 ⟨i, H5, I5, st5, n5, w5⟩
    rcases turn i n H5 w5 with ⟨stop, qq⟩ | ⟨go, Nx, hNx, step⟩
    · have td := T.done (X.blk s3 H3 scope ce fp) rfl rfl rfl hc i [] s5 _ H5 (fun _ _ => False) I5 (stat I5 n5) st5 stop
      refine thnF td fun r s6 ⟨hr, I6⟩ => ?_
      subst hr
      have I7 : Inv X pins σ H5 s6 := I3.call' (ch := fp) I6.os I6.base I6.hok I6.bare fun b hb => ⟨(f3 b hb).1.2.2.2.1, (f3 b hb).1.2.1, (f3 b hb).1.2.2.2.2.1, (f3 b hb).1.2.2.2.2.2⟩
      have nC : H5 s3.heap.objs.size = none := by
        have z : H5 ce.locals = none := I6.free
        rw [cL] at z
        exact z
      obtain ⟨m, hn, _⟩ := I6.loc
      have hn : s6.heap.Ns ce.locals m := hn
      rw [cL] at hn
      exact hRR D s3.heap.objs.size s6 m H5 I7 qq hn (I3.fpOk (Nat.le_refl _) nC)
    · have ti := T.item (X.blk s3 H3 scope ce fp) rfl rfl rfl hc i [] s5 _ H5 (fun _ _ => False) I5 (stat I5 n5) st5 go
      refine thnF ti fun r s6 ⟨u, hr, h6⟩ => ?_
      subst hr
      refine thnF h6 fun _ s7 ⟨x, H7, I7, r7, y7, st7, n7⟩ => ?_
      have I7' := I7.pinned (stat I7 n7) (T.obj _ _ st7)
      refine thnF (pg _ s7 _ H7 x u _ I7' r7 (step x H7 y7)) fun _ s8 ⟨σ8, H8, I8, hw8, q8⟩ => ?_
      refine thnF (pt _ s8 σ8 H8 _ I8 q8) fun b s9 ⟨H9, I9, q9⟩ => ?_
      have fin : ∀ {s' : Shared} {H' : Hp}, Inv (X.blk s3 H3 scope ce fp) ([] ++ pinsAt fp s7.heap) σ8 H' s' → Nx H' → ∃ m, m < n ∧ ∃ i H', Inv (X.blk s3 H3 scope ce fp) [] (wipe σ (own.map (·.2))) H' s' ∧ tn i s'.heap ∧ (∀ b ∈ fp, H' b = none) ∧ W i m H' := fun {s' H'} I' nx => by
        obtain ⟨m', hm, w'⟩ := hNx H' nx
        have pin' : ∀ b ∈ fp, ∀ o, s7.heap.get? b = some o → s'.heap.get? b = some o ∧ H' b = none := fun b hb o e =>
          let z := I'.pin (b, o) (List.mem_append_right _ (List.mem_append_right _ (mem_pinsAt hb e)))
          ⟨z.1, z.2.1⟩
        have hl : (wipe σ (own.map (·.2))).length = σ8.length := by rw [← hw8, wipe_length]
        refine ⟨m', hm, i + 1, H', (I'.unpinned (pins := [])).weak hl (fun j v e => ?_), T.keep _ _ _ st7 fun b hb o e => (pin' b hb o e).1, fun b hb => ?_, w'⟩
        · rw [← hw8] at e
          exact (wipe_some e).1
        · obtain ⟨o, e, _⟩ := T.obj _ _ st7 b hb
          exact (pin' b hb o e).2
      cases b with
      | false =>
        simp only [Bool.false_eq_true, if_false] at q9 ⊢
        exact fin I9 q9
      | true =>
        simp only [if_true] at q9 ⊢
        refine thnF (pe _ s9 σ8 H9 _ I9 q9) fun z s10 ⟨yv, H10, I10, r10, acc, hD10, hz10, nx⟩ => ?_
        exact app_ok (X := X.blk s3 H3 scope ce fp) I10 hD10 hz10 r10 fun s11 I11 => fin I11 nx
  exact codeAny_compStart_list loop (T.self X.A 0 _ _ _ st4 loop)
theorem pe_lc {elt tg iter : Expr} {ifs : List Expr} {scope : Scope} {own : List (Str × Nat)} {pos : Pos} {wi : TI} {g : TG} {tt : TT} {te : TE} (hc : X.calm = true) (hN : X.N.Nodup) (hi : PI X tg iter wi) (ok : BlkOk X.N X.env.scope scope own)
    (hg : ∀ (s : Shared) (H : Hp) (C : Addr) (cl : List (Str × Addr)) (fp : List Addr), PG (X.blk s H scope (compEnvC scope cl C X.env) fp) tg g) (ht : ∀ (s : Shared) (H : Hp) (C : Addr) (cl : List (Str × Addr)) (fp : List Addr), PTs (X.blk s H scope (compEnvC scope cl C X.env) fp) ifs tt)
    (he : ∀ (s : Shared) (H : Hp) (C : Addr) (cl : List (Str × Addr)) (fp : List Addr), PE (X.blk s H scope (compEnvC scope cl C X.env) fp) elt te) (hs : ∀ x, foldedSetIterable iter X.env x = pure x := by intro _; rfl) :
    PE X (.ListComp elt [⟨tg, iter, ifs, 0⟩] scope pos) (tLc wi g tt te (own.map (·.2))) := by
  intro pins s σ H Q I h
  rw [eval_ListComp]
  refine lc_core hc hN I hi ok hg ht he hs h fun D C s' m H' I' q hn f => ⟨m, hn, fun h'' sb => ?_⟩
  obtain ⟨f0, f1, f2, f3, f4, f5⟩ := f
  exact ⟨.ref D, H', I'.turned (t' := s'.toks) (fun b o hb e => (sb.2 b hb).trans e) f0 f1 f3 f4 f5, rfl, q⟩
theorem ps_setLc {i : Nat} {y : Str} {py : Pos} {elt tg iter : Expr} {ifs : List Expr} {scope : Scope} {own : List (Str × Nat)} {pos spos : Pos} {wi : TI} {g : TG} {tt : TT} {te : TE} (hc : X.calm = true) (hN : X.N.Nodup) (hy : X.N[i]? = some y) (hyl : X.env.scope.names.lookup y = some .local)
    (hsw : swapsWith (.ListComp elt [⟨tg, iter, ifs, 0⟩] scope pos) (some (.Name y py)) spos.line X.env = pure true) (hi : PI X tg iter wi) (ok : BlkOk X.N X.env.scope scope own)
    (hg : ∀ (s : Shared) (H : Hp) (C : Addr) (cl : List (Str × Addr)) (fp : List Addr), PG (X.blk s H scope (compEnvC scope cl C X.env) fp) tg g) (ht : ∀ (s : Shared) (H : Hp) (C : Addr) (cl : List (Str × Addr)) (fp : List Addr), PTs (X.blk s H scope (compEnvC scope cl C X.env) fp) ifs tt)
    (he : ∀ (s : Shared) (H : Hp) (C : Addr) (cl : List (Str × Addr)) (fp : List Addr), PE (X.blk s H scope (compEnvC scope cl C X.env) fp) elt te) (hs : ∀ x, foldedSetIterable iter X.env x = pure x := by intro _; rfl) :
    PS X (.Assign [.Name y py] (.ListComp elt [⟨tg, iter, ifs, 0⟩] scope pos) spos) (tAsg (tLc wi g tt te (own.map (·.2))) (gName i)) := by
  intro pins s σ H D I h
  rw [exec_Assign_Name_used _ _ _ _ hsw]
  refine wpAny_bind (wpAny_standAt (wpAny_bind ?_))
  show wpAny _ X.A (do let _ ← comprehension (.ListComp elt [⟨tg, iter, ifs, 0⟩] scope pos) scope X.env (firstIterPos [⟨tg, iter, ifs, 0⟩] pos) (newList []) false (eval iter X.env) (some (assign (.Name y py) X.env))) _ _ s
  have h : tLc wi g tt te (own.map (·.2)) σ H (fun x H1 => gName i x σ H1 D.nx) := h
  refine wpAny_bind (thn (lc_core (Qf := fun _ s' => SP X pins D .next s') hc hN I hi ok hg ht he hs h fun L C s' m H' I' q hn f => ?_) fun _ s' hq => wpAny_pure (wpAny_pure hq))
  show wpAny _ _ (assign (.Name y py) X.env (.ref L)) _ _ _
  refine wpAny_assign_Name (store_ok2 (v := V.ref L) I' hN hy (.inl hyl) rfl (fun s2 I2 ⟨a, sb, ha⟩ => ?_) (.inr hyl))
  obtain ⟨f0, f1, f2, f3, f4, f5⟩ := f
  have haC : C ≠ a := by
    rcases ha with z | z
    · rw [z]; exact f1
    · exact fun e => f4 y a z e.symm
  refine ⟨m, hn.sameBut sb haC, fun h3 sb3 => ?_⟩
  exact ⟨_, H', I2.turned (t' := s2.toks) (fun b o hb e => (sb3.2 b hb).trans e) f0 f1 f3 f4 f5, q⟩
end

def blkC (N : List Str) (sc scope : Scope) (own : List (Str × Nat)) : Bool :=
  (match scope.kind with | .function => true | _ => false) && (scope.names.all fun y => decide (scope.names.lookup y.1 = some y.2)) && (own.all fun p => decide (N[p.2]? = some p.1)) &&
    (scope.names.all fun y => match y.2 with
      | .free => (match sc.names.lookup y.1 with | some .cell => true | some .free => true | _ => false)
      | .local => decide (y.1 ∈ own.map (·.1)) || decide (y.1 ∉ N)
      | .cell => decide (y.1 ∈ own.map (·.1)) || decide (y.1 ∉ N)
      | _ => true)
theorem blkOk_by {N : List Str} {sc scope : Scope} {own : List (Str × Nat)} (h : blkC N sc scope own = true) : BlkOk N sc scope own := by
  unfold blkC at h
  simp only [Bool.and_eq_true, List.all_eq_true, decide_eq_true_eq] at h
  obtain ⟨⟨⟨h1, h2⟩, h3⟩, h4⟩ := h
  refine ⟨?_, h2, h3, fun y hy e => ?_, fun y hy e => ?_⟩
  · split at h1
    · assumption
    · cases h1
  · have q := h4 y hy
    simp only [e] at q
    split at q <;> first | exact .inl (by assumption) | exact .inr (by assumption) | cases q
  · have q := h4 y hy
    rcases e with e | e <;> (simp only [e, Bool.or_eq_true, decide_eq_true_eq] at q; exact q)
end L2


namespace L2
open PySem PySem.Spec PyProof.Rows

section
variable {κ : Type} [DecidableEq κ]
def valV (kvs : List (κ × V)) (k : κ) : Option V := (kvs.find? fun kv => decide (kv.1 = k)).map (·.2)
def putK (kvs : List (κ × V)) (k : κ) (v : V) : List (κ × V) :=
  if (kvs.any fun kv => decide (kv.1 = k)) = true then kvs.map (fun kv => if kv.1 = k then (kv.1, v) else kv) else kvs ++ [(k, v)]
def dropK (kvs : List (κ × V)) (k : κ) : List (κ × V) := kvs.filter fun kv => decide (kv.1 ≠ k)

theorem valV_pos {p : κ × V} {r : List (κ × V)} {k : κ} (e : p.1 = k) : valV (p :: r) k = some p.2 := by simp [valV, List.find?_cons, e]
theorem valV_neg {p : κ × V} {r : List (κ × V)} {k : κ} (e : ¬ p.1 = k) : valV (p :: r) k = valV r k := by simp [valV, List.find?_cons, e]
theorem valV_any (k : κ) : ∀ kvs : List (κ × V), (kvs.any fun kv => decide (kv.1 = k)) = (valV kvs k).isSome
  | [] => rfl
  | p :: r => by
    rw [List.any_cons]
    by_cases e : p.1 = k
    · simp only [valV_pos e, decide_eq_true e, Bool.true_or, Option.isSome_some]
    · rw [valV_neg e, decide_eq_false e, Bool.false_or]; exact valV_any k r
theorem RelO.isSome_eq {o : Option V} {u : Option Value} (r : RelO o u) : o.isSome = u.isSome := by
  cases o with
  | none => cases u with
    | none => rfl
    | some _ => exact (show False from r).elim
  | some _ => cases u with
    | none => exact (show False from r).elim
    | some _ => rfl
theorem RelO.getD {o : Option V} {u : Option Value} {d : V} {d' : Value} (r : RelO o u) (rd : RelV d d') : RelV (o.getD d) (u.getD d') := by
  cases o with
  | none => cases u with
    | none => exact rd
    | some _ => exact (show False from r).elim
  | some _ => cases u with
    | none => exact (show False from r).elim
    | some _ => exact r

theorem KV.val {kvs : List (κ × V)} {vs : List (κ × Value)} (r : KV kvs vs) (k : κ) : RelO (valV kvs k) (valueAt vs k) := by
  unfold KV at r
  induction r with
  | nil => exact True.intro
  | @cons p q ps qs h t ih =>
    obtain ⟨h1, h2⟩ := h
    by_cases e : p.1 = k
    · have e' : q.1 = k := h1.symm.trans e
      have b : valueAt (q :: qs) k = some q.2 := by simp [valueAt, List.find?_cons, e']
      rw [valV_pos e, b]; exact h2
    · have e' : ¬ q.1 = k := fun z => e (h1.trans z)
      have b : valueAt (q :: qs) k = valueAt qs k := by simp [valueAt, List.find?_cons, e']
      rw [valV_neg e, b]; exact ih
theorem KV.any {kvs : List (κ × V)} {vs : List (κ × Value)} (r : KV kvs vs) (k : κ) : (kvs.any fun kv => decide (kv.1 = k)) = vs.any fun kv => decide (kv.1 = k) := by
  unfold KV at r
  induction r with
  | nil => rfl
  | cons h t ih => rw [List.any_cons, List.any_cons, ih, h.1]
theorem KV.repl {kvs : List (κ × V)} {vs : List (κ × Value)} (r : KV kvs vs) (k : κ) {y : V} {u : Value} (ry : RelV y u) :
    KV (kvs.map fun kv => if kv.1 = k then (kv.1, y) else kv) (vs.map fun kv => if kv.1 = k then (kv.1, u) else kv) := by
  unfold KV at r ⊢
  induction r with
  | nil => exact .nil
  | @cons p q ps qs h t ih =>
    rw [List.map_cons, List.map_cons]
    refine .cons ?_ ih
    obtain ⟨h1, h2⟩ := h
    by_cases e : p.1 = k
    · rw [if_pos e, if_pos (h1.symm.trans e)]; exact ⟨h1, ry⟩
    · rw [if_neg e, if_neg (fun z => e (h1.trans z))]; exact ⟨h1, h2⟩
theorem KV.put {kvs : List (κ × V)} {vs : List (κ × Value)} (r : KV kvs vs) (k : κ) {y : V} {u : Value} (ry : RelV y u) : KV (putK kvs k y) (stored vs k u) := by
  unfold putK stored
  rw [r.any k]
  by_cases e : (vs.any fun kv => decide (kv.1 = k)) = true
  · rw [if_pos e, if_pos e]; exact r.repl k ry
  · rw [if_neg e, if_neg e]; exact Paired.snoc r ⟨rfl, ry⟩
theorem KV.drop {kvs : List (κ × V)} {vs : List (κ × Value)} (r : KV kvs vs) (k : κ) : KV (dropK kvs k) (without vs k) := by
  unfold KV at r ⊢
  unfold dropK without
  induction r with
  | nil => exact .nil
  | @cons p q ps qs h t ih =>
    obtain ⟨h1, h2⟩ := h
    rw [List.filter_cons, List.filter_cons]
    by_cases e : p.1 = k
    · have a : ¬ decide (p.1 ≠ k) = true := by simp [e]
      have b : ¬ decide (q.1 ≠ k) = true := by simp [h1.symm.trans e]
      rw [if_neg a, if_neg b]; exact ih
    · have e' : ¬ q.1 = k := fun z => e (h1.trans z)
      have a : decide (p.1 ≠ k) = true := by simp [e]
      have b : decide (q.1 ≠ k) = true := by simp [e']
      rw [if_pos a, if_pos b]; exact .cons ⟨h1, h2⟩ ih
theorem KV.keys {kvs : List (κ × V)} {vs : List (κ × Value)} (r : KV kvs vs) : kvs.map (·.1) = vs.map (·.1) := by
  unfold KV at r
  induction r with
  | nil => rfl
  | cons h t ih => rw [List.map_cons, List.map_cons, ih, h.1]
theorem KV.length {kvs : List (κ × V)} {vs : List (κ × Value)} (r : KV kvs vs) : kvs.length = vs.length := Paired.length r
end


abbrev KT (H : Hp) : List (List Key × V) → List (List Key × Addr × Value) → Prop := Paired fun p q => p.1 = q.1 ∧ H q.2.1 = some (.tup (p.1.map kV)) ∧ RelV p.2 q.2.2
theorem KT.val {H : Hp} {kvs : List (List Key × V)} {xs : List (List Key × Addr × Value)} (r : KT H kvs xs) (k : List Key) : RelO (valV kvs k) ((atKey xs k).map (·.2)) := by
  induction r with
  | nil => exact True.intro
  | @cons p q ps qs h t ih =>
    obtain ⟨h1, _, h2⟩ := h
    by_cases e : p.1 = k
    · have e' : q.1 = k := h1.symm.trans e
      have b : atKey (q :: qs) k = some q.2 := by simp [atKey, List.find?_cons, e']
      rw [valV_pos e, b]; exact h2
    · have e' : ¬ q.1 = k := fun z => e (h1.trans z)
      have b : atKey (q :: qs) k = atKey qs k := by simp [atKey, List.find?_cons, e']
      rw [valV_neg e, b]; exact ih
theorem KT.repl {H : Hp} {kvs : List (List Key × V)} {xs : List (List Key × Addr × Value)} (r : KT H kvs xs) (k : List Key) {y : V} {u : Value} (ry : RelV y u) :
    KT H (kvs.map fun kv => if kv.1 = k then (kv.1, y) else kv) (xs.map (putAt k u)) := by
  induction r with
  | nil => exact .nil
  | @cons p q ps qs h t ih =>
    rw [List.map_cons, List.map_cons]
    refine .cons ?_ ih
    obtain ⟨h1, h2, h3⟩ := h
    unfold putAt
    by_cases e : p.1 = k
    · rw [if_pos e, if_pos (h1.symm.trans e)]; exact ⟨h1, h2, ry⟩
    · rw [if_neg e, if_neg (fun z => e (h1.trans z))]; exact ⟨h1, h2, h3⟩
theorem KT.put {H : Hp} {kvs : List (List Key × V)} {xs : List (List Key × Addr × Value)} (r : KT H kvs xs) (k : List Key) {b : Addr} {y : V} {u : Value} (hb : H b = some (.tup (k.map kV))) (ry : RelV y u) :
    KT H (putK kvs k y) (storedH xs k b u) := by
  have e : (kvs.any fun kv => decide (kv.1 = k)) = (atKey xs k).isSome := by
    rw [valV_any, (r.val k).isSome_eq, Option.isSome_map]
  unfold putK storedH
  rw [e]
  by_cases q : (atKey xs k).isSome = true
  · rw [if_pos q, if_pos q]; exact r.repl k ry
  · rw [if_neg q, if_neg q]; exact Paired.snoc r ⟨rfl, hb, ry⟩
theorem KT.keeps {H H' : Hp} {kvs : List (List Key × V)} {xs : List (List Key × Addr × Value)} (r : KT H kvs xs) (ht : ∀ b ys, H b = some (.tup ys) → H' b = some (.tup ys)) : KT H' kvs xs :=
  Paired.mapP r fun _ _ z => ⟨z.1, ht _ _ z.2.1, z.2.2⟩


def DGet (H : Hp) (a : Addr) (y : V) (r : Option V) : Prop :=
  (∃ kvs k, Rd H a (.dK kvs) ∧ y = kV k ∧ r = valV kvs k) ∨ ∃ kvs k b, Rd H a (.dT kvs) ∧ y = .ref b ∧ H b = some (.tup (k.map kV)) ∧ r = valV kvs k
def DPut (H : Hp) (a : Addr) (y v : V) (H' : Hp) : Prop :=
  (∃ kvs k, H a = some (.dK kvs) ∧ y = kV k ∧ kvs.length < sizeLine ∧ H' = upd H a (.dK (putK kvs k v))) ∨
  ∃ kvs k b, H a = some (.dT kvs) ∧ y = .ref b ∧ H b = some (.tup (k.map kV)) ∧ kvs.length < sizeLine ∧ H' = upd H a (.dT (putK kvs k v))
theorem DGet.k {H : Hp} {a : Addr} {kvs : List (Key × V)} {k : Key} (e : H a = some (.dK kvs)) : DGet H a (kV k) (valV kvs k) := .inl ⟨kvs, k, .inl e, rfl, rfl⟩
theorem DGet.t {H : Hp} {a b : Addr} {kvs : List (List Key × V)} {k : List Key} (e : H a = some (.dT kvs)) (eb : H b = some (.tup (k.map kV))) : DGet H a (.ref b) (valV kvs k) := .inr ⟨kvs, k, b, .inl e, rfl, eb, rfl⟩
theorem DPut.k {H : Hp} {a : Addr} {kvs : List (Key × V)} {k : Key} {v : V} (e : H a = some (.dK kvs)) (hl : kvs.length < sizeLine) : DPut H a (kV k) v (upd H a (.dK (putK kvs k v))) := .inl ⟨kvs, k, e, rfl, hl, rfl⟩
theorem DPut.t {H : Hp} {a b : Addr} {kvs : List (List Key × V)} {k : List Key} {v : V} (e : H a = some (.dT kvs)) (eb : H b = some (.tup (k.map kV))) (hl : kvs.length < sizeLine) :
    DPut H a (.ref b) v (upd H a (.dT (putK kvs k v))) := .inr ⟨kvs, k, b, e, rfl, eb, hl, rfl⟩


section
variable {X : Cx} {pins : List (Addr × Obj)} {σ : St} {H : Hp} {s : Shared} {a : Addr} {y v : V} {u r : Value} {o : Option V} {A : Around} {E : Value → Shared → Prop}

theorem Inv.big (I : Inv X pins σ H s) : sysModules < s.heap.objs.size := by
  have h : mainGlobals < s.heap.objs.size := (I.mod.glob.keeps I.bk).lt
  exact Nat.lt_trans (by decide) h

end






def tPairs : List (TE × TE) → St → Hp → (List (V × V) → Hp → Prop) → Prop
  | [], _, H, Q => Q [] H
  | (tk, tv) :: r, σ, H, Q => tk σ H fun x H1 => tv σ H1 fun y H2 => tPairs r σ H2 fun ps H3 => Q ((x, y) :: ps) H3
abbrev VV : List (V × V) → List (Value × Value) → Prop := Paired fun p q => RelV p.1 q.1 ∧ RelV p.2 q.2
def PPs (X : Cx) (pos : Pos) (keys : List (Option Expr)) (values : List Expr) (trs : List (TE × TE)) : Prop :=
  ∀ (pins : List (Addr × Obj)) (s : Shared) (σ : St) (H : Hp) (Q : List (V × V) → Hp → Prop), Inv X pins σ H s → tPairs trs σ H Q →
    wpAny (model X.prog X.w) X.A (evalPairs (pairTrees keys values X.env pos)) (fun vs s' => ∃ ps H', Inv X pins σ H' s' ∧ VV ps vs ∧ Q ps H') X.xe s
theorem pps_nil {X : Cx} {pos : Pos} : PPs X pos [] [] [] := fun pins s σ H Q I h => pairTrees_nil_walk ⟨[], H, I, .nil, h⟩
structure M1 (X : Cx) (o : Expr) (m : Str) (apos : Pos) (e : Expr) (cpos : Pos) : Prop where
  base : attributeBase o m X.env (eval o X.env) = eval o X.env
  few : ((backTo cpos (starEach [e] X.env)).all (fun x => !x.1) && (backToKw cpos (keywordEach [] X.env)).all (fun x => x.1.isSome)
    && decide (([e] : List Expr).length + ([] : List Keyword).length + (if ([] : List Keyword).isEmpty then 0 else 1) < 30)) = true
  line : (apos.endLine == cpos.line) = true
  trees : backTo cpos (starEach [e] X.env) = [(false, eval e X.env)]
structure M2 (X : Cx) (o : Expr) (m : Str) (apos : Pos) (e f : Expr) (cpos : Pos) : Prop where
  base : attributeBase o m X.env (eval o X.env) = eval o X.env
  few : ((backTo cpos (starEach [e, f] X.env)).all (fun x => !x.1) && (backToKw cpos (keywordEach [] X.env)).all (fun x => x.1.isSome)
    && decide (([e, f] : List Expr).length + ([] : List Keyword).length + (if ([] : List Keyword).isEmpty then 0 else 1) < 30)) = true
  line : (apos.endLine == cpos.line) = true
  trees : backTo cpos (starEach [e, f] X.env) = [(false, eval e X.env), (false, eval f X.env)]





end L2


namespace L2
open PySem PySem.Spec PyProof.Rows

section
variable {X : Cx} {pins : List (Addr × Obj)} {σ : St} {H : Hp} {s : Shared} {h' : Heap}
theorem Inv.turnedNew {t' : Nat} {ch : List Addr} {T : Addr} {ob : HO} (I : Inv X pins σ H s) (k : ∀ b o, b ∉ ch → s.heap.get? b = some o → h'.get? b = some o) (hf : ∀ b ∈ ch, FpOk X pins H b) (hT : s.heap.objs.size ≤ T)
    (new : ObjOk X.prog X.w (upd H T ob) h' T ob) : Inv X pins σ (upd H T ob) { s with heap := h', toks := t' } := by
  have hn : H T = none := I.hok.fresh hT
  have nit : ∀ b u, H b = some u → b ∉ ch := fun b u e z => by
    have q := (hf b z).1
    rw [q] at e; cases e
  refine I.step (g' := s.gens) (d' := s.drawn) (ch := ch) (fun b hb => ⟨(hf b hb).2.2.2.1, (hf b hb).2.1, (hf b hb).2.2.2.2.1, (hf b hb).2.2.2.2.2⟩) (fun b o _ _ hc e _ => k b o hc e) (fun b o _ _ hc e _ => ⟨o.slots, k b o hc e⟩)
    (fun b o _ e n => ?_) (fun b o hc e => ⟨o, k b o hc e⟩) (fun b xs e => ?_) (fun b o u e => ?_) (fun b ps e => ⟨#[], ?_⟩) (fun m hm => ?_) (fun b u e => ?_) I.bare
  · rw [upd_ne (Nat.ne_of_lt (Nat.lt_of_lt_of_le (Heap.lt_size e) hT))]; exact n
  · rw [upd_ne (ne_of_none e hn)]; exact e
  · rw [upd_ne (ne_of_none e hn)]; exact e
  · rw [upd_ne (ne_of_none e hn), e]; simp
  · obtain ⟨o, es, ep, ho, r⟩ := hm
    exact ⟨o, es, ep, k _ o (fun z => (hf _ z).2.1 rfl) ho, r⟩
  · by_cases hb : b = T
    · subst hb
      rw [upd_same] at e
      cases e
      exact new
    · rw [upd_ne hb] at e
      refine (I.hok b u e).stay (fun c v hc q => k c v ?_ q) (fun c q => by rw [upd_ne (ne_of_none q hn)]; exact q) fun c xs q => by rw [upd_ne (ne_of_none q hn)]; exact q
      rcases hc with z | z
      · rw [z]; exact nit b u e
      · exact nit c _ z

end
section
variable {X : Cx}
theorem pi_one {tg : Expr} {pins : List (Addr × Obj)} {σ : St} {H : Hp} {s : Shared} {R : It → Hp → Prop} {J : It} {tn : Nat → Heap → Prop} {tk : Nat} (I : Inv X pins σ H s) (o : Obj)
    (T : Turn X.prog X.w X.K tg J [s.heap.objs.size] s.heap.objs.size tn) (st : tn 0 (s.heap.push o)) (q : R J H) : PIE X pins σ tg R (.ref s.heap.objs.size) { s with heap := s.heap.push o, toks := tk } := by
  refine ⟨s.heap.objs.size, [s.heap.objs.size], tn, J, H, rfl, I.kept fun b ob e => Heap.get?_push_of_some _ e, T, st, fun b hb => ?_, q⟩
  have e : b = s.heap.objs.size := by simpa using hb
  subst e
  exact I.fpOk (Nat.le_refl _) (I.hok.fresh (Nat.le_refl _))
end

def RgC (i j c : Int) (n : Nat) : Prop := c ≠ 0 ∧ c.natAbs < 1073741824 ∧ Builtin.Range.small i j c = true ∧ Builtin.Range.rangeSize i j c = n
theorem RgC.neg {i j : Int} (ha : -(2 ^ 62) ≤ i) (ha' : i < 2 ^ 62) (hb : -(2 ^ 62) ≤ j) (hb' : j < 2 ^ 62) : RgC i j (-1) (i - j).toNat :=
  ⟨by decide, by decide, PySem.W.small_down ha ha' hb hb', PySem.W.rangeSize_downNat i j⟩

def Its (x : Str) : It := ⟨fun i _ => i < x.cps.size, fun i H v H' => H' = H ∧ ∃ c, x.cps[i]? = some c ∧ v = .str ⟨#[c]⟩, fun i _ => x.cps.size ≤ i⟩
theorem turn_str {P : Program} {w : World} {K : PySem.W.Frag} {tg : Expr} (it : Addr) (x : Str) (t : Tok) (ty : String) (hty : ty = "str_ascii_iterator" ∨ ty = "str_iterator") :
    Turn P w K tg (Its x) [it] it (fun i h => h.IsStrIter it ty x t i) where
  mem := by simp
  obj := fun i h st b hb => by
    have e : b = it := by simpa using hb
    subst e
    obtain ⟨o, e, c, d⟩ := st
    exact ⟨o, e, fun v z => by rw [d] at z; cases z⟩
  keep := fun i h h' st k => let ⟨o, ho, r⟩ := st; ⟨o, k it (by simp) o ho, r⟩
  item := by
    intro X hP hw hK hc i pins s σ H E I hf st hg
    subst hP hw hK
    obtain ⟨f0, f1, f2, f3, f4, f5⟩ := hf it (by simp)
    have W : Walks X.prog X.w X.A it [it] [it] x.cps.size (SignAt x) (fun i h => h.IsStrIter it ty x t i) := by
      rcases hty with e | e
      · rw [e]; exact Walks.strAscii (I.ok.hd hc) it x t
      · rw [e]; exact Walks.strWide (I.ok.hd hc) it x t
    have hno : ["enumerate", "zip", "dict_itemiterator", "dict_reverseitemiterator", "odict_iterator", "itertools.zip_longest", "itertools.pairwise"].contains ty = false := by
      rcases hty with e | e
      · rw [e]; decide
      · rw [e]; decide
    refine W.item i s _ _ hg st fun v h' tk hv st' kk => ?_
    obtain ⟨c, u, hcx, rfl⟩ := hv
    have I1 : Inv X pins σ H { s with heap := h', toks := tk } := I.turned (fun b o hb e => kk b o (by simpa using hb) e) f0 f1 f3 f4 f5
    obtain ⟨oi, e, cc, dd⟩ := id st'
    exact ⟨_, rfl, go_of (s := { s with heap := h', toks := tk }) e cc dd hno ⟨.str ⟨#[c]⟩, H, I1, ⟨u, rfl⟩, ⟨rfl, c, hcx, rfl⟩, st', fun b hb => (hf b hb).1⟩⟩
  done := by
    intro X hP hw hK hc i pins s σ H E I hf st hg
    subst hP hw hK
    obtain ⟨f0, f1, f2, f3, f4, f5⟩ := hf it (by simp)
    have hx : x.cps[i]? = none := Array.getElem?_eq_none hg
    rcases hty with e | e
    · rw [e] at st
      exact wpAny_pyNext_ascii_end (I.ok.hd hc) st hx fun h' eb => ⟨rfl, I.turned (t' := s.toks) (fun b o hb e => eb b o hb e) f0 f1 f3 f4 f5⟩
    · rw [e] at st
      exact wpAny_pyNext_wide_end (I.ok.hd hc) st hx fun h' eb => ⟨rfl, I.turned (t' := s.toks) (fun b o hb e => eb b o hb e) f0 f1 f3 f4 f5⟩
  self := fun A i s Q E st h => by
    rcases hty with e | e
    · rw [e] at st; exact wpAny_pyIter_striter_ascii st h
    · rw [e] at st; exact wpAny_pyIter_striter_wide st h
def iStr (te : TE) : TI := fun σ H R => te σ H fun v H1 => ∃ x, v = .str x ∧ R (Its x) H1
theorem pi_str {X : Cx} {tg e : Expr} {te : TE} (he : PE X e te) : PI X tg e (iStr te) := by
  intro pins s σ H R I h
  refine thn (he pins s σ H _ I h) fun v s1 ⟨y, H1, I1, r1, x, ex, q⟩ => ?_
  subst ex
  obtain ⟨t, rfl⟩ := r1
  cases ha : x.cps.all (· < 128)
  · exact wpAny_pyIter_wide ha (pi_one (tk := s1.toks) I1 _ (turn_str _ x t "str_iterator" (.inr rfl)) ⟨_, Heap.get?_push_size _ rfl, rfl, rfl⟩ q)
  · exact wpAny_pyIter_ascii ha (pi_one (tk := s1.toks) I1 _ (turn_str _ x t "str_ascii_iterator" (.inl rfl)) ⟨_, Heap.get?_push_size _ rfl, rfl, rfl⟩ q)





def Ite (K : PySem.W.Frag) (a : Addr) : It :=
  ⟨fun i H => ∃ (xs : List V) (x : V), SqL K H a xs ∧ xs[i]? = some x, fun i H v H' => ∃ T x, v = .ref T ∧ H T = none ∧ H' = upd H T (.tup [.int (i : Nat), x]) ∧ ∀ xs, SqL K H a xs → xs[i]? = some x, fun i H => ∃ xs : List V, SqL K H a xs ∧ xs.length ≤ i⟩
theorem turn_enum {P : Program} {w : World} {K : PySem.W.Frag} {elts : List Expr} {kk : Nat} {tpos : Pos} (a e it : Addr) :
    Turn P w K (.Tuple elts kk tpos) (Ite K a) [e, it] e (fun i h => (∃ old, IsEnum h e it ((i : Nat) : Int) old) ∧ h.IsListIter it a i ∧ e ≠ it) where
  mem := by simp
  obj := fun i h st b hb => by
    obtain ⟨⟨old, he⟩, ⟨o, ho, hc, hd⟩, _⟩ := st
    have e' : b = e ∨ b = it := by simpa using hb
    rcases e' with z | z
    · rw [z]; exact ⟨_, he, fun v q => nomatch q⟩
    · rw [z]; exact ⟨o, ho, fun v q => by rw [hd] at q; cases q⟩
  keep := fun i h h' st k => let ⟨⟨old, he⟩, hi, hne⟩ := st; ⟨⟨old, k e (by simp) _ he⟩, hi.at fun o q => k it (by simp) o q, hne⟩
  item := by
    intro X hP hw hK hc i pins s σ H E I hf st hg
    subst hP hw hK
    obtain ⟨⟨old, he⟩, hit, hne⟩ := st
    obtain ⟨xs, x, hq, hx⟩ := hg
    obtain ⟨its, rv, p, hz⟩ := I.list hq
    obtain ⟨u, hu, ru⟩ := rv.get hx
    have hel : e < s.heap.objs.size := Heap.lt_size he
    have hil : it < s.heap.objs.size := by obtain ⟨_, q, _⟩ := hit; exact Heap.lt_size q
    refine wpAny_pyNext_enum_item he hit p.isList (x := u) (by simpa using hu) hne fun h' ho hit' hT hsz hk => ?_
    refine ⟨_, rfl, wpAny_letOwnedTupleGo_enum (s := { s with heap := h', toks := s.toks + 1 }) ho fun h'' he' sb => ?_⟩
    have hT2 : h''.get? s.heap.objs.size = some { cls := .type "tuple", data := .seq #[.int i s.toks, u] } := (sb.2 _ (Nat.ne_of_gt hel)).trans hT
    have new : ObjOk X.prog X.w (upd H s.heap.objs.size (.tup [.int (i : Nat), x])) h'' s.heap.objs.size (.tup [.int (i : Nat), x]) :=
      ⟨by show 2 ≤ sizeLine; decide, [.int i s.toks, u], .cons ⟨_, rfl⟩ (.cons ru .nil), ⟨_, hT2, rfl, _, rfl⟩⟩
    have I1 : Inv X pins σ (upd H s.heap.objs.size (.tup [.int (i : Nat), x])) { s with heap := h'', toks := s.toks + 1 } :=
      I.turnedNew (ch := [e, it]) (fun b ob hb q => (sb.2 b (fun z => hb (by simp [z]))).trans (hk b ob (fun z => hb (by simp [z])) (fun z => hb (by simp [z])) q)) hf (Nat.le_refl _) new
    refine ⟨.ref s.heap.objs.size, _, I1, rfl, ⟨_, x, rfl, I.hok.fresh (Nat.le_refl _), rfl, fun ys hy => by rw [I.list_inj hy hq]; exact hx⟩, ⟨⟨u, ?_⟩, hit'.at fun o q => (sb.2 it (Ne.symm hne)).trans q, hne⟩, fun b hb => ?_⟩
    · have e1 : ((i + 1 : Nat) : Int) = (i : Int) + 1 := by omega
      rw [e1]; exact he'
    · have hb' : b < s.heap.objs.size := by
        have e' : b = e ∨ b = it := by simpa using hb
        rcases e' with z | z
        · rw [z]; exact hel
        · rw [z]; exact hil
      rw [upd_ne (Nat.ne_of_lt hb')]
      exact (hf b hb).1
  done := by
    intro X hP hw hK hc i pins s σ H E I hf st hg
    subst hP hw hK
    obtain ⟨⟨old, he⟩, hit, hne⟩ := st
    obtain ⟨xs, hq, hx⟩ := hg
    obtain ⟨its, rv, p, hz⟩ := I.list hq
    obtain ⟨f0, f1, f2, f3, f4, f5⟩ := hf it (by simp)
    have hl := rv.length
    exact wpAny_pyNext_enum_end (I.ok.hd hc) he hit p.isList (by simp; omega) fun h' eb => ⟨rfl, I.turned (t' := s.toks) (fun b o hb q => eb b o hb q) f0 f1 f3 f4 f5⟩
  self := fun A i s Q E st h => let ⟨⟨_, he⟩, _⟩ := st; wpAny_pyIter_enum he h
def iEnum (K : PySem.W.Frag) (ta : TA) : TI := fun σ H R => ta σ H fun vs H1 => ∃ a xs, vs = [.ref a] ∧ SqL K H1 a xs ∧ R (Ite K a) H1
theorem pi_enum {X : Cx} {e : Expr} {ta : TA} {p pos tpos : Pos} {elts : List Expr} {kk : Nat} (hg : Gl X "enumerate") (hm : X.mg "enumerate" = none) (ha : PA X [e] ta) (hs : starEach [e] X.env = [(false, eval e X.env)] := by rfl) :
    PI X (.Tuple elts kk tpos) (.Call (.Name "enumerate" p) [e] [] pos) (iEnum X.K ta) := by
  intro pins s σ H R I h
  refine Call_ (ld_blt I hg hm boot_enumerate (PyProof.Rows.callWith_type1 (thn (ha pos pins s σ H _ I h) fun us s1 ⟨vs, H1, I1, r1, q1⟩ => ?_) hs rfl))
  obtain ⟨a, xs, ex, hq, q⟩ := q1
  subst ex
  cases r1 with
  | cons r rr =>
    cases rr
    cases r
    obtain ⟨its, rv, p', hz⟩ := I1.list hq
    refine call_enumerate_list p'.isList fun h' he hit hsz hk => wpAny_pyIter_enum he ?_
    have I2 : Inv X pins σ H1 { s1 with heap := h' } := I1.kept (t' := s1.toks) hk
    refine ⟨s1.heap.objs.size + 1, [s1.heap.objs.size + 1, s1.heap.objs.size], _, _, H1, rfl, I2, turn_enum a (s1.heap.objs.size + 1) s1.heap.objs.size, ⟨⟨.none, he⟩, hit, Nat.succ_ne_self _⟩, fun b hb => ?_, q⟩
    have e' : b = s1.heap.objs.size + 1 ∨ b = s1.heap.objs.size := by simpa using hb
    have hle : s1.heap.objs.size ≤ b := by
      rcases e' with z | z
      · rw [z]; exact Nat.le_add_right _ _
      · rw [z]; exact Nat.le_refl _
    exact I1.fpOk hle (I1.hok.fresh hle)
end L2

section 
end 

section 
namespace TL
open PySem PySem.Builtin PySem.Builtin.Str PySem.StrLaws

abbrev tl (x : Str) : List Nat := x.cps.toList
def pre (S l : List Nat) : Bool := l.take S.length == S
def par (S : List Nat) : List Nat → List Nat → Option (List Nat × List Nat)
  | _, [] => none
  | acc, c :: r => if pre S (c :: r) = true then some (acc, (c :: r).drop S.length) else par S (acc ++ [c]) r

end TL
end 







namespace L2
open PySem PySem.Spec PyProof.Rows

def defArgs (s : Stmt) : Arguments := match s with
  | .FunctionDef _ a _ _ _ _ _ _ _ _ => a
  | _ => { posonlyargs := [], args := [], vararg := none, kwonlyargs := [], kw_defaults := [], kwarg := none, defaults := [] }
def defBody (s : Stmt) : List Stmt := match s with
  | .FunctionDef _ _ b _ _ _ _ _ _ _ => b
  | _ => []
def defScope (s : Stmt) : Scope := match s with
  | .FunctionDef _ _ _ _ _ _ sc _ _ _ => sc
  | _ => { kind := .function, names := [], isGenerator := false, isCoroutine := false }

abbrev CX0 : CXT := fun _ _ _ _ _ _ => False
abbrev E0 : XK := fun _ _ _ => False
theorem pass0 {X : Cx} : Passes CX0 X E0 := fun _ _ _ _ _ _ _ h => h.elim

structure Fun (K : PySem.W.Frag) (x qual : Str) (st : Stmt) (f : Addr) (fd : FuncData) : Prop where
  ex : ∃ (oc : Value) (od : Option Addr) (kV doc pm : Value) (an : Option Addr) (cdv ct : Value) (osl : Array (Option Value)),
    fd = PySem.W.fnOf x qual (defArgs st) (defBody st) (defScope st) .none kV doc pm an cdv ct ∧ K.lookup f = some ⟨oc, od, .func fd, osl⟩ ∧ PySem.W.codeIn K cdv qual = true
  kp : PySem.W.keepIn K (.ref f) = true
section
variable {P : Program} {w : World} {K : PySem.W.Frag} {mg : Str → Option Value} {base : Heap}
theorem Fun.ok {x qual : Str} {st : Stmt} {f : Addr} {fd : FuncData} {N ps : List Str} {k : Nat} {sp : Sp} (F : Fun K x qual st f fd) (S : FnScope N ps (defScope st)) (len : ∀ vs H Q E, sp vs H Q E → vs.length = ps.length)
    (hbody : ∀ (cdv : Value) (A : Around) (outer : List Env) (s : Shared) (H : Hp) (vs : List V) (Q : VK) (E : XK), Room k (A.deeper (envOfC qual (defScope st) s.heap.objs.size f cdv)) → sp vs H Q E →
      ∃ t, PSs (cxOf CX0 P w K mg base N qual (defScope st) f cdv A outer s H E).nox (defBody st) t ∧ t { nx := fun _ H' => Q .non H', rt := Q } (start N vs) H) : FnOk P w K mg base CX0 (k + 1) f fd ps sp := by
  obtain ⟨oc, od, kV, doc, pm, an, cdv, ct, osl, rfl, lk, hcd⟩ := F.ex
  refine fn_of lk hcd S len fun A outer s H vs Q E hr hsp => ?_
  obtain ⟨t, h, q⟩ := hbody cdv A outer s H vs Q E hr hsp
  exact ⟨t, h.nox, q⟩
theorem Fun.binds {x qual : Str} {st : Stmt} {f : Addr} {fd : FuncData} {ps : List Str} (F : Fun K x qual st f fd)
    (h : ∀ (kV doc pm : Value) (an : Option Addr) (cdv ct : Value) (us : List Value), us.length = ps.length → bindArgs (PySem.W.fnOf x qual (defArgs st) (defBody st) (defScope st) .none kV doc pm an cdv ct) ⟨us, []⟩ = pure (ps.zip us)) : Binds K fd ps [] := by
  obtain ⟨oc, od, kV, doc, pm, an, cdv, ct, osl, rfl, lk, hcd⟩ := F.ex
  exact .all (h kV doc pm an cdv ct)
theorem fun_mk {x qual : Str} {st : Stmt} {f : Addr} {oc : Value} {od an : Option Addr} {osl : Array (Option Value)} {kV doc pm cdv ct : Value} (l : K.lookup f = some ⟨oc, od, .func (PySem.W.fnOf x qual (defArgs st) (defBody st) (defScope st) .none kV doc pm an cdv ct), osl⟩)
    (c : PySem.W.codeIn K cdv qual = true) (k : PySem.W.keepIn K (.ref f) = true) : Fun K x qual st f (PySem.W.fnOf x qual (defArgs st) (defBody st) (defScope st) .none kV doc pm an cdv ct) := ⟨⟨oc, od, kV, doc, pm, an, cdv, ct, osl, rfl, l, c⟩, k⟩
end

theorem iteF {A B : Prop} (h : B) : if false = true then A else B := by
  rw [if_neg Bool.false_ne_true]
  exact h
theorem iteT {A B : Prop} (h : A) : if true = true then A else B := by
  rw [if_pos rfl]
  exact h
def Same (H H' : Hp) : Prop := ∀ b o, H b = some o → H' b = some o
theorem Same.refl (H : Hp) : Same H H := fun _ _ h => h
theorem Same.trans {H H1 H2 : Hp} (a : Same H H1) (b : Same H1 H2) : Same H H2 := fun c o h => b c o (a c o h)
theorem Same.free {H H' : Hp} (e : Same H H') {l : Addr} (h : H' l = Option.none) : H l = Option.none := by
  cases q : H l with
  | none => rfl
  | some o =>
    rw [e l o q] at h
    cases h
theorem Same.seq {K : PySem.W.Frag} {H H' : Hp} {a : Addr} {xs : List V} (e : Same H H') (h : SqL K H a xs) : SqL K H' a xs := by
  rcases h with (h | ⟨o, h⟩) | h
  · exact .inl (.inl (e _ _ h))
  · exact .inl (.inr ⟨o, e _ _ h⟩)
  · exact .inr h

theorem Same.made {H H1 : Hp} {x dx C : Addr} (nx : H x = Option.none) (nd : H dx = Option.none) (k : ∀ b o, (upd (upd H dx (.own x)) x (.ins C dx [])) b = some o → b ≠ x → H1 b = some o) : Same H H1 := fun b o e =>
  k b o (by rw [upd_ne (ne_of_none e nx), upd_ne (ne_of_none e nd)]; exact e) (ne_of_none e nx)
end L2

section
set_option Elab.async false
set_option linter.all false
set_option maxRecDepth 100000
set_option maxHeartbeats 2000000
namespace L2
open PySem PySem.Spec PyProof.Rows
open PySem.W (WData Codec OpenSpec Well WellAll ReadsW ReadsAllW)
mutual
inductive Dw (K : PySem.W.Frag) (H : Hp) : V → WData → Prop
  | non : Dw K H .non .none
  | bl (b : Bool) : Dw K H (.bl b) (.bool b)
  | int (i : Int) : Dw K H (.int i) (.int i)
  | str (x : Str) : Dw K H (.str x) (.str x)
  | byt (b : Array UInt8) : Dw K H (.byt b) (.bytes b.toList)
  | lst {a : Addr} {xs : List V} {ds : List WData} : SqL K H a xs → DwAll K H xs ds → Dw K H (.ref a) (.list ds)
  | tup {a : Addr} {xs : List V} {ds : List WData} : SqT K H a xs → DwAll K H xs ds → Dw K H (.ref a) (.tuple ds)
inductive DwAll (K : PySem.W.Frag) (H : Hp) : List V → List WData → Prop
  | nil : DwAll K H [] []
  | cons {v : V} {vs : List V} {d : WData} {ds : List WData} : Dw K H v d → DwAll K H vs ds → DwAll K H (v :: vs) (d :: ds)
end
theorem dw_ints {K : PySem.W.Frag} {H : Hp} : ∀ ns : List Int, DwAll K H (ns.map V.int) (ns.map WData.int)
  | [] => .nil
  | n :: r => .cons (.int n) (dw_ints r)
theorem ints_dw {K : PySem.W.Frag} {H : Hp} : ∀ (ns : List Int) (xs : List V), DwAll K H xs (ns.map WData.int) → xs = ns.map V.int
  | [], xs, h => by
    cases h
    rfl
  | n :: r, xs, h => by
    cases h with
    | cons h1 h2 =>
      cases h1
      rw [ints_dw r _ h2] <;> rfl
section
variable {P : Program} {w : World} {K : PySem.W.Frag} {H : Hp} {h : Heap} {R : PySem.W.WRecords} {cl : Str → Option Addr}
theorem sqL_at {a : Addr} {xs : List V} (hok : HOk P w H h) (KX : K.In h) (q : SqL K H a xs) : ∃ (its : List Value) (o : Obj) (n : Nat), Vals xs its ∧ h.get? a = some o ∧ o.cls = .type "list" ∧ o.data = .seq its.toArray n := by
  rcases q with q | ⟨o, its, n, e, hc, _, hd, _, hv⟩
  · obtain ⟨_, its, n, hv, e⟩ := (show ObjOk P w H h a (.lst xs) from q.ok hok)
    exact ⟨its, _, n, hv, e, rfl, rfl⟩
  · exact ⟨its.toList, o, n, hv, KX _ _ e, hc, by simp [hd]⟩
theorem sqT_at {a : Addr} {xs : List V} (hok : HOk P w H h) (KX : K.In h) (q : SqT K H a xs) : ∃ (its : List Value) (o : Obj) (n : Nat), Vals xs its ∧ h.get? a = some o ∧ o.cls = .type "tuple" ∧ o.data = .seq its.toArray n := by
  rcases q with q | ⟨o, its, n, e, hc, hd, _, hv⟩
  · obtain ⟨_, its, hv, o, e, hc, n, hd⟩ := (show ObjOk P w H h a (.tup xs) from q.ok hok)
    exact ⟨its, o, n, hv, e, hc, hd⟩
  · exact ⟨its.toList, o, n, hv, KX _ _ e, hc, by simp [hd]⟩
mutual
theorem Dw.reads (hok : HOk P w H h) (KX : K.In h) : ∀ (d : WData) (v : V) (u : Value), Dw K H v d → RelV v u → ∃ as, ReadsW R cl h u d as
  | .none, _, _, x, r => by
    cases x
    cases r
    exact ⟨_, ReadsW.none⟩
  | .bool b, _, _, x, r => by
    cases x
    cases r
    exact ⟨_, ReadsW.bool b⟩
  | .int i, _, _, x, r => by
    cases x
    obtain ⟨t, rfl⟩ := r
    exact ⟨_, ReadsW.int i t⟩
  | .str s, _, _, x, r => by
    cases x
    obtain ⟨t, rfl⟩ := r
    exact ⟨_, ReadsW.str s t⟩
  | .bytes b, _, _, x, r => by
    cases x
    obtain ⟨t, rfl⟩ := r
    exact ⟨_, ReadsW.bytes _ t⟩
  | .list ds, _, _, x, r => by
    cases x with
    | lst hs ha =>
      cases r
      obtain ⟨its, o, n, rv, ho, hc, hd⟩ := sqL_at hok KX hs
      obtain ⟨as, hr⟩ := Dw.readsAll hok KX ds _ its ha rv
      exact ⟨_, ReadsW.list ho hc hd hr⟩
  | .tuple ds, _, _, x, r => by
    cases x with
    | tup hs ha =>
      cases r
      obtain ⟨its, o, n, rv, ho, hc, hd⟩ := sqT_at hok KX hs
      obtain ⟨as, hr⟩ := Dw.readsAll hok KX ds _ its ha rv
      exact ⟨_, ReadsW.tuple ho hc hd hr⟩
  | .float _, _, _, x, _ => by cases x
  | .dict _, _, _, x, _ => by cases x
  | .bytearray _, _, _, x, _ => by cases x
  | .set _, _, _, x, _ => by cases x
  | .frozenset _, _, _, x, _ => by cases x
  | .obj _ _, _, _, x, _ => by cases x
theorem Dw.readsAll (hok : HOk P w H h) (KX : K.In h) : ∀ (ds : List WData) (vs : List V) (us : List Value), DwAll K H vs ds → Vals vs us → ∃ as, ReadsAllW R cl h us ds as
  | [], _, _, x, r => by
    cases x
    cases r
    exact ⟨_, ReadsAllW.nil⟩
  | d :: ds, _, _, x, r => by
    cases x with
    | cons h1 h2 =>
      cases r with
      | cons r1 r2 =>
        obtain ⟨as, q1⟩ := Dw.reads hok KX d _ _ h1 r1
        obtain ⟨bs, q2⟩ := Dw.readsAll hok KX ds _ _ h2 r2
        exact ⟨_, ReadsAllW.cons q1 q2⟩
end
end
mutual
def plW : WData → Bool
  | .none => true
  | .bool _ => true
  | .int _ => true
  | .str _ => true
  | .bytes _ => true
  | .list xs => plWs xs
  | .tuple xs => plWs xs
  | _ => false
def plWs : List WData → Bool
  | [] => true
  | x :: r => plW x && plWs r
end
theorem plWs_map {α : Type} {f : α → WData} (h : ∀ a, plW (f a) = true) : ∀ l : List α, plWs (l.map f) = true
  | [] => rfl
  | x :: r => by
    show (plW (f x) && plWs (r.map f)) = true
    rw [h x, plWs_map h r] <;> rfl
theorem pl_enc : ∀ (c : Codec) (a : c.denote), plW (c.enc a) = true
  | .unit, _ => rfl
  | .bool, _ => rfl
  | .int _ _, _ => rfl
  | .nat _ _, _ => rfl
  | .u8, _ => rfl
  | .bytes _ _, _ => rfl
  | .text _ _ _ _, _ => rfl
  | .list _ _ c, a => plWs_map (fun x => pl_enc c x) a
  | .pair c d, a => by
    show (plW (c.enc a.1) && (plW (d.enc a.2) && true)) = true
    rw [pl_enc c a.1, pl_enc d a.2] <;> rfl
  | .triple c d e, a => by
    show (plW (c.enc a.1) && (plW (d.enc a.2.1) && (plW (e.enc a.2.2) && true))) = true
    rw [pl_enc c a.1, pl_enc d a.2.1, pl_enc e a.2.2] <;> rfl
  | .option c, none => rfl
  | .option c, some x => pl_enc c x
theorem pl_encAll : ∀ (cs : List Codec) (a : Codec.denoteAll cs), plWs (Codec.encAll cs a) = true
  | [], _ => rfl
  | c :: cs, a => by
    show (plW (c.enc a.1) && plWs (Codec.encAll cs a.2)) = true
    rw [pl_enc c a.1, pl_encAll cs a.2] <;> rfl
theorem weight_mem : ∀ {xs : List WData} {d : WData}, d ∈ xs → d.weight ≤ WData.weightAll xs
  | [], d, h => absurd h (by simp)
  | x :: r, d, h => by
    show d.weight ≤ x.weight + 1 + WData.weightAll r
    rcases List.mem_cons.mp h with e | m
    · rw [e]
      omega
    · have z := weight_mem m
      omega
def toV : Value → V
  | .none => .non
  | .bool b => .bl b
  | .int i _ => .int i
  | .str x _ => .str x
  | .bytes b _ => .byt b
  | .ref a => .ref a
  | _ => .non
def OkU (A : List Addr) : Value → Prop
  | .none => True
  | .bool _ => True
  | .int _ _ => True
  | .str _ _ => True
  | .bytes _ _ => True
  | .ref a => a ∈ A
  | _ => False
theorem OkU.mono {A B : List Addr} (h : ∀ a ∈ A, a ∈ B) : ∀ {u : Value}, OkU A u → OkU B u := fun {u} x => by
  cases u with
  | ref a => exact h a x
  | none => trivial
  | bool b => trivial
  | int i t => trivial
  | str s t => trivial
  | bytes b t => trivial
  | _ => exact False.elim x
theorem relV_toV {A : List Addr} {u : Value} (x : OkU A u) : RelV (toV u) u := by
  cases u with
  | ref a => rfl
  | none => rfl
  | bool b => rfl
  | int i t => exact ⟨t, rfl⟩
  | str s t => exact ⟨t, rfl⟩
  | bytes b t => exact ⟨t, rfl⟩
  | _ => exact False.elim x
theorem vals_toV {A : List Addr} : ∀ {vs : List Value}, (∀ u ∈ vs, OkU A u) → Vals (vs.map toV) vs
  | [], _ => .nil
  | u :: r, h => .cons (relV_toV (h u (List.mem_cons_self ..))) (vals_toV fun x hx => h x (List.mem_cons_of_mem _ hx))
def ArgOb (h : Heap) (A : List Addr) (a : Addr) : Prop := ∃ vs : List Value, vs.length ≤ sizeLine ∧ (∀ u ∈ vs, OkU A u) ∧
  (h.get? a = some { cls := .type "list", data := .seq vs.toArray } ∨ h.get? a = some { cls := .type "tuple", data := .seq vs.toArray })
theorem ArgOb.mono {h : Heap} {A B : List Addr} {a : Addr} (k : ∀ a ∈ A, a ∈ B) (x : ArgOb h A a) : ArgOb h B a := by
  obtain ⟨vs, h1, h2, h3⟩ := x
  exact ⟨vs, h1, fun u hu => (h2 u hu).mono k, h3⟩
theorem wellAll_len {P : Params} {h : Heap} : ∀ {vs : List Value} {ds : List WData}, WellAll P h vs ds → vs.length = ds.length
  | _, _, .nil => rfl
  | _, _, .cons _ b => by
    show _ + 1 = _ + 1
    rw [wellAll_len b]
theorem well_list {P : Params} {h : Heap} {v : Value} {ds : List WData} (x : Well P h v (.list ds)) : ∃ (a : Addr) (vs : List Value), v = .ref a ∧ h.get? a = some { cls := .type "list", data := .seq vs.toArray } ∧ WellAll P h vs ds := by
  cases x with
  | list ho hall => exact ⟨_, _, rfl, ho, hall⟩
theorem well_tuple {P : Params} {h : Heap} {v : Value} {ds : List WData} (x : Well P h v (.tuple ds)) : ∃ (a : Addr) (vs : List Value), v = .ref a ∧ h.get? a = some { cls := .type "tuple", data := .seq vs.toArray } ∧ WellAll P h vs ds := by
  cases x with
  | tuple ho hall => exact ⟨_, _, rfl, ho, hall⟩
theorem well_cons {P : Params} {h : Heap} {us : List Value} {d : WData} {ds : List WData} (x : WellAll P h us (d :: ds)) : ∃ (v : Value) (vs : List Value), us = v :: vs ∧ Well P h v d ∧ WellAll P h vs ds := by
  cases x with
  | cons a b => exact ⟨_, _, rfl, a, b⟩
theorem line_of {n : Nat} (h : n ≤ 1048576) : n ≤ sizeLine := Nat.le_trans h (by decide)
section
variable {P : Params} {h : Heap}
mutual
theorem area_one : ∀ (d : WData) (v : Value), Well P h v d → plW d = true → d.weight ≤ 1048576 → ∃ A : List Addr, OkU A v ∧ ∀ a ∈ A, ArgOb h A a
  | .none, _, x, _, _ => by
    cases x
    exact ⟨[], trivial, fun a m => absurd m (by simp)⟩
  | .bool b, _, x, _, _ => by
    cases x
    exact ⟨[], trivial, fun a m => absurd m (by simp)⟩
  | .int i, _, x, _, _ => by
    cases x
    exact ⟨[], trivial, fun a m => absurd m (by simp)⟩
  | .str s, _, x, _, _ => by
    cases x
    exact ⟨[], trivial, fun a m => absurd m (by simp)⟩
  | .bytes b, _, x, _, _ => by
    cases x
    exact ⟨[], trivial, fun a m => absurd m (by simp)⟩
  | .list ds, _, x, p, z => by
    obtain ⟨a, vs, rfl, ho, hall⟩ := well_list x
    have z2 : WData.weightAll ds ≤ 1048576 := z
    obtain ⟨A, h1, h2⟩ := area_all ds _ hall p fun d hd => Nat.le_trans (weight_mem hd) z2
    have k : ∀ b ∈ A, b ∈ a :: A := fun b hb => List.mem_cons_of_mem _ hb
    refine ⟨a :: A, List.mem_cons_self .., fun b hb => ?_⟩
    rcases List.mem_cons.mp hb with e | m
    · rw [e]
      exact ⟨vs, line_of (by rw [wellAll_len hall]; exact Nat.le_trans (PySem.W.length_le_weightAllW ds) z2), fun u hu => (h1 u hu).mono k, .inl ho⟩
    · exact (h2 b m).mono k
  | .tuple ds, _, x, p, z => by
    obtain ⟨a, vs, rfl, ho, hall⟩ := well_tuple x
    have z2 : WData.weightAll ds ≤ 1048576 := z
    obtain ⟨A, h1, h2⟩ := area_all ds _ hall p fun d hd => Nat.le_trans (weight_mem hd) z2
    have k : ∀ b ∈ A, b ∈ a :: A := fun b hb => List.mem_cons_of_mem _ hb
    refine ⟨a :: A, List.mem_cons_self .., fun b hb => ?_⟩
    rcases List.mem_cons.mp hb with e | m
    · rw [e]
      exact ⟨vs, line_of (by rw [wellAll_len hall]; exact Nat.le_trans (PySem.W.length_le_weightAllW ds) z2), fun u hu => (h1 u hu).mono k, .inr ho⟩
    · exact (h2 b m).mono k
  | .float _, _, _, p, _ => Bool.noConfusion (show false = true from p)
  | .dict _, _, _, p, _ => Bool.noConfusion (show false = true from p)
  | .bytearray _, _, _, p, _ => Bool.noConfusion (show false = true from p)
  | .set _, _, _, p, _ => Bool.noConfusion (show false = true from p)
  | .frozenset _, _, _, p, _ => Bool.noConfusion (show false = true from p)
  | .obj _ _, _, _, p, _ => Bool.noConfusion (show false = true from p)
theorem area_all : ∀ (ds : List WData) (vs : List Value), WellAll P h vs ds → plWs ds = true → (∀ d ∈ ds, d.weight ≤ 1048576) → ∃ A : List Addr, (∀ u ∈ vs, OkU A u) ∧ ∀ a ∈ A, ArgOb h A a
  | [], _, x, _, _ => by
    cases x
    exact ⟨[], fun u m => absurd m (by simp), fun a m => absurd m (by simp)⟩
  | d :: ds, _, x, p, z => by
    obtain ⟨v, vs, rfl, x1, x2⟩ := well_cons x
    have q : plW d = true ∧ plWs ds = true := Bool.and_eq_true_iff.mp p
    obtain ⟨A, a1, a2⟩ := area_one d v x1 q.1 (z d (List.mem_cons_self ..))
    obtain ⟨B, b1, b2⟩ := area_all ds vs x2 q.2 fun e he => z e (List.mem_cons_of_mem _ he)
    have kA : ∀ b ∈ A, b ∈ A ++ B := fun b hb => List.mem_append.mpr (.inl hb)
    have kB : ∀ b ∈ B, b ∈ A ++ B := fun b hb => List.mem_append.mpr (.inr hb)
    refine ⟨A ++ B, fun u hu => ?_, fun b hb => ?_⟩
    · rcases List.mem_cons.mp hu with e | m
      · rw [e]
        exact a1.mono kA
      · exact (b1 u m).mono kB
    · rcases List.mem_append.mp hb with m | m
      · exact (a2 b m).mono kA
      · exact (b2 b m).mono kB
end
end
def hoOf (o : Obj) : Option HO := match o.data with
  | .seq vs _ => if (o.cls == Value.type "list") = true then some (.frz o (.lst (vs.toList.map toV))) else some (.frz o (.tup (vs.toList.map toV)))
  | _ => none
def argH (K : PySem.W.Frag) (h : Heap) (A : List Addr) : Hp := fun b => if b ∈ A then (if (K.lookup b).isNone = true then (h.get? b).bind hoOf else none) else none
def OnlyF (H : Hp) : Prop := ∀ b, H b = none ∨ ∃ o u, H b = some (.frz o u)
theorem hoOf_lst (vs : List Value) : hoOf { cls := .type "list", data := .seq vs.toArray } = some (.frz { cls := .type "list", data := .seq vs.toArray } (.lst (vs.map toV))) := by
  show (if (Value.type "list" == Value.type "list") = true then some (HO.frz { cls := .type "list", data := .seq vs.toArray } (.lst (vs.toArray.toList.map toV))) else some (HO.frz { cls := .type "list", data := .seq vs.toArray } (.tup (vs.toArray.toList.map toV)))) = _
  rw [if_pos (beq_self_eq_true _)]
theorem hoOf_tup (vs : List Value) : hoOf { cls := .type "tuple", data := .seq vs.toArray } = some (.frz { cls := .type "tuple", data := .seq vs.toArray } (.tup (vs.map toV))) := by
  show (if (Value.type "tuple" == Value.type "list") = true then some (HO.frz { cls := .type "tuple", data := .seq vs.toArray } (.lst (vs.toArray.toList.map toV))) else some (HO.frz { cls := .type "tuple", data := .seq vs.toArray } (.tup (vs.toArray.toList.map toV)))) = _
  rw [if_neg (by decide)]
section
variable {P : Program} {w : World} {K : PySem.W.Frag} {h : Heap} {A : List Addr}
theorem argH_at {b : Addr} {o : Obj} (hb : b ∈ A) (hk : K.lookup b = none) (e : h.get? b = some o) : argH K h A b = hoOf o := by
  unfold argH
  rw [if_pos hb, hk, if_pos (show (none : Option Obj).isNone = true from rfl), e] <;> rfl
theorem of_argH {b : Addr} {u : HO} (q : argH K h A b = some u) : b ∈ A ∧ K.lookup b = none := by
  unfold argH at q
  by_cases hb : b ∈ A
  · rw [if_pos hb] at q
    cases hk : K.lookup b with
    | none => exact ⟨hb, rfl⟩
    | some o =>
      rw [hk, if_neg (by simp)] at q
      cases q
  · rw [if_neg hb] at q
    cases q
theorem argH_is (ar : ∀ a ∈ A, ArgOb h A a) {b : Addr} {u : HO} (q : argH K h A b = some u) : K.lookup b = none ∧ ∃ vs : List Value, vs.length ≤ sizeLine ∧ (∀ u ∈ vs, OkU A u) ∧
    ((h.get? b = some { cls := .type "list", data := .seq vs.toArray } ∧ u = .frz { cls := .type "list", data := .seq vs.toArray } (.lst (vs.map toV))) ∨
     (h.get? b = some { cls := .type "tuple", data := .seq vs.toArray } ∧ u = .frz { cls := .type "tuple", data := .seq vs.toArray } (.tup (vs.map toV)))) := by
  obtain ⟨hb, hk⟩ := of_argH q
  obtain ⟨vs, h1, h2, h3⟩ := ar b hb
  refine ⟨hk, vs, h1, h2, ?_⟩
  rcases h3 with e | e
  · rw [argH_at hb hk e, hoOf_lst] at q
    exact .inl ⟨e, (Option.some.inj q).symm⟩
  · rw [argH_at hb hk e, hoOf_tup] at q
    exact .inr ⟨e, (Option.some.inj q).symm⟩
theorem argH_only (ar : ∀ a ∈ A, ArgOb h A a) : OnlyF (argH K h A) := fun b => by
  cases q : argH K h A b with
  | none => exact .inl rfl
  | some u =>
    obtain ⟨_, vs, _, _, ⟨_, e⟩ | ⟨_, e⟩⟩ := argH_is ar q
    · exact .inr ⟨_, _, by rw [e]⟩
    · exact .inr ⟨_, _, by rw [e]⟩
theorem argH_ok (ar : ∀ a ∈ A, ArgOb h A a) : HOk P w (argH K h A) h := fun b u q => by
  obtain ⟨_, vs, h1, h2, ⟨e, rfl⟩ | ⟨e, rfl⟩⟩ := argH_is ar q
  · exact ⟨e, by rw [List.length_map]; exact h1, vs, _, vals_toV h2, e⟩
  · exact ⟨e, by rw [List.length_map]; exact h1, vs, vals_toV h2, _, e, rfl, _, rfl⟩
theorem seq_inj {c c' : Value} {vs us : List Value} (e : (some { cls := c, data := .seq vs.toArray } : Option Obj) = some { cls := c', data := .seq us.toArray }) : c = c' ∧ vs = us := by
  have e1 := Option.some.inj e
  have e2 : c = c' := congrArg Obj.cls e1
  have e3 : Data.seq vs.toArray = Data.seq us.toArray := congrArg Obj.data e1
  injection e3 with e4
  refine ⟨e2, ?_⟩
  have e5 := congrArg Array.toList e4
  simpa using e5
theorem argL (KX : K.In h) (ar : ∀ a ∈ A, ArgOb h A a) {a : Addr} {vs : List Value} (ha : a ∈ A) (e : h.get? a = some { cls := .type "list", data := .seq vs.toArray }) : (∀ u ∈ vs, OkU A u) ∧ SqL K (argH K h A) a (vs.map toV) := by
  obtain ⟨us, h1, h2, h3⟩ := ar a ha
  have hu : us = vs := by
    rcases h3 with q | q
    · rw [e] at q
      exact (seq_inj q).2.symm
    · rw [e] at q
      exact absurd (Value.type.inj (seq_inj q).1) (by decide)
  subst hu
  refine ⟨h2, ?_⟩
  cases hk : K.lookup a with
  | none => exact .inl (.inr ⟨_, by rw [argH_at ha hk e, hoOf_lst]⟩)
  | some o =>
    have e2 := KX a o hk
    rw [e] at e2
    obtain rfl := Option.some.inj e2
    exact .inr ⟨_, us.toArray, _, hk, rfl, rfl, rfl, by rw [List.size_toArray]; exact h1, by simpa using vals_toV h2⟩
theorem argT (KX : K.In h) (ar : ∀ a ∈ A, ArgOb h A a) {a : Addr} {vs : List Value} (ha : a ∈ A) (e : h.get? a = some { cls := .type "tuple", data := .seq vs.toArray }) : (∀ u ∈ vs, OkU A u) ∧ SqT K (argH K h A) a (vs.map toV) := by
  obtain ⟨us, h1, h2, h3⟩ := ar a ha
  have hu : us = vs := by
    rcases h3 with q | q
    · rw [e] at q
      exact absurd (Value.type.inj (seq_inj q).1) (by decide)
    · rw [e] at q
      exact (seq_inj q).2.symm
  subst hu
  refine ⟨h2, ?_⟩
  cases hk : K.lookup a with
  | none => exact .inl (.inr ⟨_, by rw [argH_at ha hk e, hoOf_tup]⟩)
  | some o =>
    have e2 := KX a o hk
    rw [e] at e2
    obtain rfl := Option.some.inj e2
    exact .inr ⟨_, us.toArray, _, hk, rfl, rfl, by rw [List.size_toArray]; exact h1, by simpa using vals_toV h2⟩
mutual
theorem dw_one {Pm : Params} (KX : K.In h) (ar : ∀ a ∈ A, ArgOb h A a) : ∀ (d : WData) (v : Value), Well Pm h v d → plW d = true → OkU A v → Dw K (argH K h A) (toV v) d
  | .none, _, x, _, _ => by
    cases x
    exact .non
  | .bool b, _, x, _, _ => by
    cases x
    exact .bl b
  | .int i, _, x, _, _ => by
    cases x
    exact .int i
  | .str s, _, x, _, _ => by
    cases x
    exact .str s
  | .bytes b, _, x, _, _ => by
    cases x
    have z := Dw.byt (K := K) (H := argH K h A) b.toArray
    exact z
  | .list ds, _, x, p, hu => by
    obtain ⟨a, vs, rfl, ho, hall⟩ := well_list x
    obtain ⟨h2, hs⟩ := argL KX ar hu ho
    exact .lst hs (dw_all KX ar ds _ hall p h2)
  | .tuple ds, _, x, p, hu => by
    obtain ⟨a, vs, rfl, ho, hall⟩ := well_tuple x
    obtain ⟨h2, hs⟩ := argT KX ar hu ho
    exact .tup hs (dw_all KX ar ds _ hall p h2)
  | .float _, _, _, p, _ => Bool.noConfusion (show false = true from p)
  | .dict _, _, _, p, _ => Bool.noConfusion (show false = true from p)
  | .bytearray _, _, _, p, _ => Bool.noConfusion (show false = true from p)
  | .set _, _, _, p, _ => Bool.noConfusion (show false = true from p)
  | .frozenset _, _, _, p, _ => Bool.noConfusion (show false = true from p)
  | .obj _ _, _, _, p, _ => Bool.noConfusion (show false = true from p)
theorem dw_all {Pm : Params} (KX : K.In h) (ar : ∀ a ∈ A, ArgOb h A a) : ∀ (ds : List WData) (vs : List Value), WellAll Pm h vs ds → plWs ds = true → (∀ u ∈ vs, OkU A u) → DwAll K (argH K h A) (vs.map toV) ds
  | [], _, x, _, _ => by
    cases x
    exact .nil
  | d :: ds, _, x, p, hu => by
    obtain ⟨v, vs, rfl, x1, x2⟩ := well_cons x
    have q : plW d = true ∧ plWs ds = true := Bool.and_eq_true_iff.mp p
    exact .cons (dw_one KX ar d v x1 q.1 (hu _ (List.mem_cons_self ..))) (dw_all KX ar ds vs x2 q.2 fun u m => hu u (List.mem_cons_of_mem _ m))
end
end
theorem spec_call {P : Program} {w : World} {K : PySem.W.Frag} {mg mb : Str → Option Value} {CX : CXT} {k : Nat} {fa : Addr} {fd : FuncData} {ps : List Str} {sp : Sp} {s₁ : Shared} {vals : List Value} {ds : List WData} {R : PySem.W.WRecords} {cl : Str → Option Addr} {d0 : WData}
    (KX : K.In s₁.heap) (hns : s₁.heap.Ns mainGlobals mg) (hb : s₁.heap.Ns builtinsNs mb) (hbb : ∀ x : Str, x ≠ "__name__" → mb x = bootBuiltins x) (hlim : s₁.heap.NoLimit) (hg : s₁.gens = #[])
    (hwl : WellAll w.params s₁.heap vals ds) (hpl : plWs ds = true) (hwt : ∀ d ∈ ds, d.weight ≤ 1048576) (hr : Room k callerA)
    (F : ∀ base : Heap, K.In base → base.Ns mainGlobals mg → FnOk P w K mg base CX k fa fd ps sp) (hbind : ∀ (s : Shared) (us : List Value), us.length = ps.length → BindsTo s fd ⟨us, []⟩ (ps.zip us)) (hlen : ds.length = ps.length)
    (hsp : ∀ (H : Hp) (xs : List V), OnlyF H → DwAll K H xs ds → sp xs H (fun v H' => Dw K H' v d0) fun _ _ _ => False)
    (hCX : ∀ H e s', CX [] H s₁ (fun _ _ _ => False) e s' → False) :
    codeAny (model P w) callerA (.call (.ref fa) ⟨vals, []⟩) (fun r s' => ∃ u as, r = .ok (.ret u) ∧ ReadsW R cl s'.heap u d0 as ∧ OldK s₁.heap s'.heap ∧ s'.os = s₁.os ∧ AllBare s'.gens) s₁ := by
  obtain ⟨A, ho, ar⟩ := area_all ds vals hwl hpl hwt
  have hO : OnlyF (argH K s₁.heap A) := argH_only ar
  have hok : HOk P w (argH K s₁.heap A) s₁.heap := argH_ok ar
  have hS := dw_all KX ar ds vals hwl hpl ho
  have hV := vals_toV ho
  have hK : ∀ b u, argH K s₁.heap A b = some u → K.lookup b = none := fun b u q => (argH_is ar q).1
  have noA : ∀ {b : Addr} {o : Obj} {es : Array DictEntry} {ep : Nat}, s₁.heap.get? b = some o → o.data = .dict es ep → argH K s₁.heap A b = none := fun {b o es ep} e d => by
    cases q : argH K s₁.heap A b with
    | none => rfl
    | some u =>
      obtain ⟨_, vs, _, _, ⟨e2, _⟩ | ⟨e2, _⟩⟩ := argH_is ar q
      · rw [e2] at e
        cases e
        have d' : Data.seq vs.toArray _ = Data.dict es ep := d
        cases d'
      · rw [e2] at e
        cases e
        have d' : Data.seq vs.toArray _ = Data.dict es ep := d
        cases d'
  generalize argH K s₁.heap A = H at hO hok hS hK noA
  have base_of : ∀ {b : Addr} {o : Obj}, s₁.heap.get? b = some o → H b = none → (hidT s₁.heap H).get? b = some o := fun e n => hidT_get e n
  have nsK : ∀ {b : Addr} {m : Str → Option Value}, s₁.heap.Ns b m → (hidT s₁.heap H).Ns b m := fun {b m} ⟨o, es, ep, e, d, r⟩ => ⟨o, es, ep, base_of e (noA e d), d, r⟩
  have nK : ∀ b o, K.lookup b = some o → H b = none := fun b o e => by
    cases q : H b with
    | none => rfl
    | some u =>
      rw [hK b u q] at e
      cases e
  have hKb : K.In (hidT s₁.heap H) := fun b o e => base_of (KX b o e) (nK b o e)
  have hM : Mod K mg (hidT s₁.heap H) := ⟨hKb, nsK hns, ⟨mb, nsK hb, hbb⟩, let ⟨mc, h1, h2⟩ := hlim; ⟨mc, nsK h1, h2⟩⟩
  have e0 : Env0 P w K mg (hidT s₁.heap H) callerA [] s₁ H := ⟨rfl, hM, fun b o e => of_hidT e, Nat.le_of_eq (hidT_size _ _), trivial, fun b hb => absurd (show b ∈ ([] : List Addr) from hb) (by simp), hok, .of_eq hg⟩
  have hl : vals.length = ps.length := by rw [wellAll_len hwl]; exact hlen
  refine codeAny_mono ((F _ hKb (nsK hns)).run callerA [] s₁ H ⟨vals, []⟩ vals (vals.map toV) _ _ hr e0 (hbind s₁ vals hl) hV (hsp H _ hO hS)) fun r s' x => ?_
  cases r with
  | error e => exact (hCX H e s' x).elim
  | ok fl =>
    cases fl with
    | next => exact False.elim x
    | brk => exact False.elim x
    | cont => exact False.elim x
    | ret u =>
      obtain ⟨v, H', os, bare, un, hok', r', q⟩ := x
      have kept : ∀ b o, s₁.heap.get? b = some o → s'.heap.get? b = some o := fun b o e => by
        cases q2 : H b with
        | none => exact un.keep b o e q2 (by intro z; exact absurd (show b ∈ ([] : List Addr) from z) (by simp)) (by simp)
        | some u2 =>
          rcases hO b with z | ⟨ob, u3, z⟩
          · rw [q2] at z
            cases z
          · have z2 := un.frzs b ob _ z
            obtain ⟨e1, _⟩ := hok b _ z
            obtain ⟨e2, _⟩ := hok' b _ z2
            rw [e] at e1
            cases e1
            exact e2
      have KX' : K.In s'.heap := fun b o e => kept b o (KX b o e)
      obtain ⟨as, hrd⟩ := Dw.reads (R := R) (cl := cl) hok' KX' d0 v u q r'
      exact ⟨u, as, rfl, hrd, OldK.of_keep kept, os, bare⟩
theorem layable_weight {ds : List WData} (h : WData.layableAll ds = true) : ∀ d ∈ ds, d.weight ≤ 1048576 := fun d hd =>
  (PySem.W.layableW_iff.mp (List.all_eq_true.mp h d hd)).2.2
theorem encAll_len : ∀ (cs : List Codec) (a : Codec.denoteAll cs), (Codec.encAll cs a).length = cs.length
  | [], _ => rfl
  | c :: cs, a => by
    show (Codec.encAll cs a.2).length + 1 = cs.length + 1
    rw [encAll_len cs a.2]
theorem walk_spec {r : OpenSpec} {k : Nat} {q : Program} {loose : List Str} {XP : (Str → Option Value) → Heap → Prop} {YP : World → Heap → Prop} {d : DefRec} {K : Params → PySem.W.Frag} {CX : World → CXT} {ps : List Str} {sp : World → Sp}
    (hwell : r.wellSaid = true) (hdf : d.params.defaults = []) (hlen : r.args.length = ps.length) (hr : Room k callerA)
    (hY : ∀ (w : World) (h : Heap), YP w h → (K w.params).In h)
    (F : ∀ (w : World) (mg : Str → Option Value) (fa : Addr) (h : Heap), YP w h → (K w.params).In h → h.Ns mainGlobals mg → mg d.name = some (.ref fa) →
      ∃ fd : FuncData, (∀ (s : Shared) (us : List Value), us.length = ps.length → BindsTo s fd ⟨us, []⟩ (ps.zip us)) ∧
        ∀ base : Heap, (K w.params).In base → base.Ns mainGlobals mg → FnOk r.prog w (K w.params) mg base (CX w) k fa fd ps (sp w))
    (hsp : ∀ (w : World) (H : Hp) (xs : List V) (a : Codec.denoteAll r.args), OnlyF H → Codec.withinAll r.args a = true → Codec.app r.args r.asked a = true → DwAll (K w.params) H xs (Codec.encAll r.args a) →
      sp w xs H (fun v H' => Dw (K w.params) H' v (r.ret.enc (Codec.app r.args r.f a))) fun _ _ _ => False)
    (hCX : ∀ (w : World) (H : Hp) (s : Shared) (e : Value) (s' : Shared), CX w [] H s (fun _ _ _ => False) e s' → False) :
    PySem.W.WalkOS q loose XP YP r d [] (fun f vs => PySem.call f vs) := by
  intro w s_0 s₁ mg mb G Y fa o pm cd doc dV kV ho hd hcd hD hmg hg args vals as hpre hlay hrd hwl hlo
  obtain ⟨a, e1, e2⟩ := PySem.W.os_pre_some hpre
  obtain ⟨e3, hwi⟩ := Codec.encAll_of_decAll r.args args a e1
  subst e3
  have KX := hY w _ Y
  obtain ⟨fd, hb, hF⟩ := F w mg fa _ Y KX G.T.g hmg
  refine PySem.W.enter_call (codeAny_mono (spec_call (R := []) (cl := classAt s_0.heap) (d0 := r.ret.enc (Codec.app r.args r.f a)) KX G.T.g G.T.b G.T.builtins G.T.nolimit hg hwl (pl_encAll _ _) (layable_weight hlay) hr hF hb (by rw [encAll_len]; exact hlen)
    (fun H xs hO hS => hsp w H xs a hO hwi e2 hS) fun H e s' => hCX w H s₁ e s') fun r' s' hq => ?_)
  obtain ⟨u, as', rfl, h1, h2, h3, h4⟩ := hq
  exact ⟨.inl ⟨u, _, as', rfl, fun _ => rfl, h1, (OpenSpec.post_iff hwell hwi _ _).mpr rfl, fun z => Bool.noConfusion (show false = true from z)⟩, h2, h3, h4⟩
theorem walk_specK {r : OpenSpec} {k : Nat} {q : Program} {loose : List Str} {XP : (Str → Option Value) → Heap → Prop} {YP : World → Heap → Prop} {d : DefRec} {K : Params → PySem.W.Frag} {CX : CXT} {ps : List Str} {sp : PySem.W.Frag → Sp}
    (hwell : r.wellSaid = true) (hdf : d.params.defaults = []) (hlen : r.args.length = ps.length) (hr : Room k callerA)
    (hY : ∀ (w : World) (h : Heap), YP w h → (K w.params).In h)
    (F : ∀ (w : World) (mg : Str → Option Value) (fa : Addr) (h : Heap), YP w h → (K w.params).In h → h.Ns mainGlobals mg → mg d.name = some (.ref fa) →
      ∃ fd : FuncData, (∀ (s : Shared) (us : List Value), us.length = ps.length → BindsTo s fd ⟨us, []⟩ (ps.zip us)) ∧
        ∀ base : Heap, (K w.params).In base → base.Ns mainGlobals mg → FnOk r.prog w (K w.params) mg base CX k fa fd ps (sp (K w.params)))
    (hsp : ∀ (K : PySem.W.Frag) (H : Hp) (xs : List V) (a : Codec.denoteAll r.args), OnlyF H → Codec.withinAll r.args a = true → Codec.app r.args r.asked a = true → DwAll K H xs (Codec.encAll r.args a) →
      sp K xs H (fun v H' => Dw K H' v (r.ret.enc (Codec.app r.args r.f a))) fun _ _ _ => False)
    (hCX : ∀ (H : Hp) (s : Shared) (e : Value) (s' : Shared), CX [] H s (fun _ _ _ => False) e s' → False) :
    PySem.W.WalkOS q loose XP YP r d [] (fun f vs => PySem.call f vs) :=
  walk_spec (K := K) (CX := fun _ => CX) (sp := fun w => sp (K w.params)) hwell hdf hlen hr hY F (fun w H xs a h1 h2 h3 h4 => hsp (K w.params) H xs a h1 h2 h3 h4) fun _ H s e s' => hCX H s e s'
end L2
end

end

section
set_option Elab.async false
set_option linter.all false
set_option maxRecDepth 100000
namespace DR
open PySem
open Sem (wp)
section
variable {prog : Program} {w : World} {A : Around} {E : Value → Shared → Prop} {s : Shared} {l : Addr} {xs : Array (Int × Tok)}
theorem max_intTup {Q : Value → Shared → Prop} (hh : A.handled = none) (hT : s.heap.IsTuple l (intItems xs)) (hne : 0 < xs.size)
    (h : ∀ v h' tk, (intItems xs)[argBest (fun i j => decide (numAt xs i > numAt xs j)) (xs.size - 1)]? = some v → (∀ b o, s.heap.get? b = some o → h'.get? b = some o) → Q v { s with heap := h', toks := tk }) :
    wpAny (model prog w) A (call (.builtin "max") [.ref l]) Q E s := by
  have hlt : l < s.heap.objs.size := by obtain ⟨_, e, _⟩ := hT; exact Heap.lt_size e
  refine call_max_walk (wpAny_pyIter_tuple hT ?_)
  refine ⟨_, [_, l], [_], _, _, _, _, rfl, Walks.tuple (A := A.in1) hh _ l (Nat.ne_of_lt hlt) (intItems xs), ⟨⟨_, Heap.get?_push_size _ rfl, rfl, rfl⟩, hT.push _⟩, fun c hc => ?_, by simpa [intItems] using hne, CmpOf.ints_gt (numAt xs) (fun _ _ => intItems_at), fun v h' tk hP hk => ?_⟩
  · show c < (s.heap.push _).objs.size
    rw [Heap.size_push]
    rcases List.mem_cons.mp hc with rfl | hc
    · exact Nat.lt_succ_self _
    · rcases List.mem_cons.mp hc with rfl | hc
      · exact Nat.lt_succ_of_lt hlt
      · cases hc
  · refine h v h' tk (by simpa [intItems] using hP) fun c o e => ?_
    refine hk c o (fun hm => ?_) (Heap.get?_push_of_some _ e)
    rcases List.mem_cons.mp hm with e1 | hm
    · exact absurd (e1 ▸ Heap.lt_size e) (Nat.lt_irrefl _)
    · cases hm
end
end DR

end

section
set_option Elab.async false
set_option linter.all false
set_option maxRecDepth 100000
namespace ZL
open PySem
open Sem (wp)
abbrev IsZipB (h : Heap) (z TI TO : Addr) (f0 : Value) (b : Bool) : Prop :=
  h.get? z = some { cls := .type "zip", dict := none, data := .fields #[f0, .bool b, .bool false, .ref TI, .ref TO], slots := #[] }
section
variable {prog : Program} {w : World} {A : Around} {E : Value → Shared → Prop} {s : Shared}
theorem wpAny_alive {a : Addr} {o : Obj} {Q : Option Obj → Shared → Prop} (ho : s.heap.get? a = some o) (h : Q (some o) s) : wpAny (model prog w) A (loadIfAlive a) Q E s := fun Γ p hp => by
  unfold loadIfAlive
  rw [Sem.wp_loadIfAlive, ho]
  exact wpAny_pure (M := model prog w) (A := A) (E := E) h Γ p hp
theorem not_free {z TI TO T : Addr} {b : Bool} {o : Obj} {Q : Bool → Shared → Prop} (hz : IsZipB s.heap z TI TO (rawInt T) b) (hT : s.heap.get? T = some o)
    (hQ : ∀ h', IsZipB h' z TI TO (rawInt T) true → Heap.SameBut z s.heap h' → Q false { s with heap := h' }) : wpAny (model prog w) A (Builtin.SmallTypes.ownedTupleIsFree (.ref z)) Q E s := by
  unfold Builtin.SmallTypes.ownedTupleIsFree
  refine wpAny_bind (wpAny_field hz rfl (x := rawInt T) rfl ?_)
  show wpAny _ _ (loadIfAlive (Int.toNat (T : Int)) >>= _) _ _ _
  rw [Int.toNat_natCast]
  refine wpAny_bind (wpAny_alive hT ?_)
  show wpAny _ _ (field (.ref z) 1 >>= _) _ _ _
  refine wpAny_bind (wpAny_field hz rfl (x := .bool b) rfl ?_)
  cases b with
  | true => exact wpAny_pure (hQ s.heap hz ⟨rfl, fun _ _ => rfl⟩)
  | false =>
    show wpAny _ _ (setField (.ref z) 1 (.bool true) >>= _) _ _ _
    exact wpAny_bind (wpAny_setField_rec hz (by simp) fun h' hz' hs' => wpAny_pure (hQ h' hz' hs'))
theorem next_more {z TI TO i1 i2 l1 l2 T : Addr} {bb : Bool} {ot : Obj} {k1 k2 : Nat} {xs ys : Array Value} {x y : Value} {Q : Value → Shared → Prop} (D : ZipApart z TI TO i1 i2 l1 l2)
    (hz : IsZipB s.heap z TI TO (rawInt T) bb) (hT : s.heap.get? T = some ot) (hTI : IsPair s.heap TI (.ref i1) (.ref i2))
    (h1 : s.heap.IsListIter i1 l1 k1) (h2 : s.heap.IsListIter i2 l2 k2) (hl1 : s.heap.IsList l1 xs) (hl2 : s.heap.IsList l2 ys) (hx : xs[k1]? = some x) (hy : ys[k2]? = some y)
    (hQ : ∀ h', IsZipB h' z TI TO (rawInt T) true → h'.IsListIter i1 l1 (k1 + 1) → h'.IsListIter i2 l2 (k2 + 1) → IsPair h' s.heap.objs.size x y → h'.objs.size = s.heap.objs.size + 1 →
      (∀ c o, c ≠ z → c ≠ i1 → c ≠ i2 → s.heap.get? c = some o → h'.get? c = some o) → Q (.ref s.heap.objs.size) { s with heap := h' }) :
    wpAny (model prog w) A (Builtin.«zip.__next__» ⟨[.ref z], []⟩) (fun fin s' => ∃ v, fin = .done (.ret v) ∧ Q v s') E s := by
  show wpAny _ _ (field (.ref z) 2 >>= _) _ _ _
  refine wpAny_bind (wpAny_field hz rfl (x := .bool false) rfl ?_)
  show wpAny _ _ (field (.ref z) 3 >>= _) _ _ _
  refine wpAny_bind (wpAny_field hz rfl (x := .ref TI) rfl ?_)
  refine wpAny_bind (wpAny_seqItems hTI rfl ?_)
  show wpAny _ _ (Builtin.SmallTypes.ownedTupleIsFree (.ref z) >>= _) _ _ _
  refine wpAny_bind (not_free hz hT fun h₁ hz₁ hs₁ => ?_)
  simp only [Bool.false_eq_true, if_false]
  refine wpAny_bind ?_
  simp only [List.forIn_toArray, List.forIn_cons, List.forIn_nil]
  refine wpAny_bind (wpAny_bind (wpAny_holding ?_))
  show wpAny _ _ (Builtin.SmallTypes.nextOf (.ref i1) >>= _) _ _ _
  refine wpAny_bind (wpAny_nextOf_list_item (h1.extBut hs₁.extBut D.i1z) (hl1.extBut hs₁.extBut D.l1z) hx fun h₂ h1₂ hs₂ => wpAny_pure (wpAny_pure ?_))
  refine wpAny_bind (wpAny_bind (wpAny_holding ?_))
  show wpAny _ _ (Builtin.SmallTypes.nextOf (.ref i2) >>= _) _ _ _
  refine wpAny_bind (wpAny_nextOf_list_item ((h2.extBut hs₁.extBut D.i2z).extBut hs₂.extBut D.i12.symm) ((hl2.extBut hs₁.extBut D.l2z).extBut hs₂.extBut D.l2i1) hy fun h₃ h2₃ hs₃ => wpAny_pure (wpAny_pure (wpAny_pure ?_)))
  refine wpAny_bind (wpAny_newTuple (hsz := by show (2 : Nat) ≤ sizeLine; decide) ?_)
  have hsz : h₃.objs.size = s.heap.objs.size := by rw [hs₃.1, hs₂.1, hs₁.1]
  have hz₃ : IsZipB h₃ z TI TO (rawInt T) true := hs₃.extBut _ _ D.i2z.symm (hs₂.extBut _ _ D.i1z.symm hz₁)
  have hk₃ : ∀ c o, c ≠ z → c ≠ i1 → c ≠ i2 → s.heap.get? c = some o → h₃.get? c = some o := fun c o c1 c3 c4 e => hs₃.extBut _ _ c4 (hs₂.extBut _ _ c3 (hs₁.extBut _ _ c1 e))
  have h1₃ : h₃.IsListIter i1 l1 (k1 + 1) := h1₂.extBut hs₃.extBut D.i12
  refine wpAny_pure ⟨_, rfl, ?_⟩
  show Q (.ref h₃.objs.size) _
  rw [hsz]
  refine hQ _ (Heap.get?_push_of_some _ hz₃) (h1₃.at fun o e => Heap.get?_push_of_some _ e) (h2₃.at fun o e => Heap.get?_push_of_some _ e) ?_ (by rw [Heap.size_push, hsz]) fun c o c1 c2 c3 e => Heap.get?_push_of_some _ (hk₃ c o c1 c2 c3 e)
  rw [← hsz]
  exact Heap.get?_push_size _ rfl
theorem next_stop {z TI TO i1 i2 l1 l2 T : Addr} {bb : Bool} {ot : Obj} {k1 k2 : Nat} {xs ys : Array Value} {Q : Fin → Shared → Prop} (hh : A.handled = none) (D : ZipApart z TI TO i1 i2 l1 l2)
    (hz : IsZipB s.heap z TI TO (rawInt T) bb) (hT : s.heap.get? T = some ot) (hTI : IsPair s.heap TI (.ref i1) (.ref i2))
    (h1 : s.heap.IsListIter i1 l1 k1) (h2 : s.heap.IsListIter i2 l2 k2) (hl1 : s.heap.IsList l1 xs) (hl2 : s.heap.IsList l2 ys) (hend : xs[k1]? = none ∨ ys[k2]? = none)
    (hE : ∀ h' e, (∀ c o, c ≠ z → c ≠ i1 → c ≠ i2 → s.heap.get? c = some o → h'.get? c = some o) → (∃ o, h'.get? e = some o ∧ o.cls = .type "StopIteration") → E (.ref e) { s with heap := h' }) :
    wpAny (model prog w) A (Builtin.«zip.__next__» ⟨[.ref z], []⟩) Q E s := by
  show wpAny _ _ (field (.ref z) 2 >>= _) _ _ _
  refine wpAny_bind (wpAny_field hz rfl (x := .bool false) rfl ?_)
  show wpAny _ _ (field (.ref z) 3 >>= _) _ _ _
  refine wpAny_bind (wpAny_field hz rfl (x := .ref TI) rfl ?_)
  refine wpAny_bind (wpAny_seqItems hTI rfl ?_)
  show wpAny _ _ (Builtin.SmallTypes.ownedTupleIsFree (.ref z) >>= _) _ _ _
  refine wpAny_bind (not_free hz hT fun h₁ hz₁ hs₁ => ?_)
  simp only [Bool.false_eq_true, if_false]
  refine wpAny_bind ?_
  simp only [List.forIn_toArray, List.forIn_cons, List.forIn_nil]
  refine wpAny_bind (wpAny_bind (wpAny_holding ?_))
  show wpAny _ _ (Builtin.SmallTypes.nextOf (.ref i1) >>= _) _ _ _
  cases hx : xs[k1]? with
  | none =>
    refine wpAny_bind (wpAny_nextOf_list_end hh (h1.extBut hs₁.extBut D.i1z) (hl1.extBut hs₁.extBut D.l1z) hx fun h₂ e hs₂ he => ?_)
    exact hE h₂ e (fun c o c1 c3 _ x => hs₂ _ _ c3 (hs₁.extBut _ _ c1 x)) he
  | some x =>
    have hy : ys[k2]? = none := by rcases hend with h | h; rw [hx] at h; cases h; exact h
    refine wpAny_bind (wpAny_nextOf_list_item (h1.extBut hs₁.extBut D.i1z) (hl1.extBut hs₁.extBut D.l1z) hx fun h₂ h1₂ hs₂ => wpAny_pure (wpAny_pure ?_))
    refine wpAny_bind (wpAny_bind (wpAny_holding ?_))
    show wpAny _ _ (Builtin.SmallTypes.nextOf (.ref i2) >>= _) _ _ _
    refine wpAny_bind (wpAny_nextOf_list_end hh ((h2.extBut hs₁.extBut D.i2z).extBut hs₂.extBut D.i12.symm) ((hl2.extBut hs₁.extBut D.l2z).extBut hs₂.extBut D.l2i1) hy fun h₃ e hs₃ he => ?_)
    exact hE h₃ e (fun c o c1 c3 c4 x => hs₃ _ _ c4 (hs₂.extBut _ _ c3 (hs₁.extBut _ _ c1 x))) he
theorem pyNext_more {z TI TO i1 i2 l1 l2 T : Addr} {bb : Bool} {ot : Obj} {k1 k2 : Nat} {xs ys : Array Value} {x y : Value} {Q : Option Value → Shared → Prop} (D : ZipApart z TI TO i1 i2 l1 l2)
    (hz : IsZipB s.heap z TI TO (rawInt T) bb) (hT : s.heap.get? T = some ot) (hTI : IsPair s.heap TI (.ref i1) (.ref i2))
    (h1 : s.heap.IsListIter i1 l1 k1) (h2 : s.heap.IsListIter i2 l2 k2) (hl1 : s.heap.IsList l1 xs) (hl2 : s.heap.IsList l2 ys) (hx : xs[k1]? = some x) (hy : ys[k2]? = some y)
    (hQ : ∀ h', IsZipB h' z TI TO (rawInt T) true → h'.IsListIter i1 l1 (k1 + 1) → h'.IsListIter i2 l2 (k2 + 1) → IsPair h' s.heap.objs.size x y → h'.objs.size = s.heap.objs.size + 1 →
      (∀ c o, c ≠ z → c ≠ i1 → c ≠ i2 → s.heap.get? c = some o → h'.get? c = some o) → Q (some (.ref s.heap.objs.size)) { s with heap := h' }) :
    wpAny (model prog w) A (pyNext (.ref z)) Q E s := by
  have hT' : s.TypeIs (.ref z) "zip" := ⟨_, hz, rfl⟩
  unfold pyNext
  exact wpAny_bind (wpAny_attempt (wpAny_callSpecial?_slot (name := Str.ofString "__next__") hT' F.slot_zip_next
    (wpAny_call_entry F.slot_zip_next hT' F.entry_zip_next
      (next_more D hz hT hTI h1 h2 hl1 hl2 hx hy fun h' a1 a2 a3 a4 a5 a6 => wpAny_pure (hQ h' a1 a2 a3 a4 a5 a6)) (F.args_zip_next_1 _))))
theorem pyNext_stop {z TI TO i1 i2 l1 l2 T : Addr} {bb : Bool} {ot : Obj} {k1 k2 : Nat} {xs ys : Array Value} {Q : Option Value → Shared → Prop} (hh : A.handled = none) (D : ZipApart z TI TO i1 i2 l1 l2)
    (hz : IsZipB s.heap z TI TO (rawInt T) bb) (hT : s.heap.get? T = some ot) (hTI : IsPair s.heap TI (.ref i1) (.ref i2))
    (h1 : s.heap.IsListIter i1 l1 k1) (h2 : s.heap.IsListIter i2 l2 k2) (hl1 : s.heap.IsList l1 xs) (hl2 : s.heap.IsList l2 ys) (hend : xs[k1]? = none ∨ ys[k2]? = none)
    (hQ : ∀ h', (∀ c o, c ≠ z → c ≠ i1 → c ≠ i2 → s.heap.get? c = some o → h'.get? c = some o) → Q none { s with heap := h' }) : wpAny (model prog w) A (pyNext (.ref z)) Q E s := by
  have hT' : s.TypeIs (.ref z) "zip" := ⟨_, hz, rfl⟩
  unfold pyNext
  refine wpAny_bind (wpAny_attempt (wpAny_callSpecial?_slot (name := Str.ofString "__next__") hT' F.slot_zip_next
    (wpAny_call_entry F.slot_zip_next hT' F.entry_zip_next (next_stop hh D hz hT hTI h1 h2 hl1 hl2 hend fun h' e hk he => ?_) (F.args_zip_next_1 _))))
  obtain ⟨o, ho, hc⟩ := he
  refine wpAny_bind (wpAny_isInstance (T := "StopIteration") (b := true) ⟨o, ho, hc⟩ isSubtype_stop ?_)
  exact wpAny_pure (hQ _ hk)
end
end ZL

end

section
set_option Elab.async false
set_option linter.all false
set_option maxRecDepth 100000
namespace ZL
open PySem
open Sem (wp)
theorem zip_no_len : typeLookup (.type "zip") "__len__" = pure none := by rw [typeLookup_type, builtinLookup_eq_fast]; kernel_rfl
theorem zip_no_hint : typeLookup (.type "zip") "__length_hint__" = pure none := by rw [typeLookup_type, builtinLookup_eq_fast]; kernel_rfl
def ZipSt (h : Heap) (z TI TO i1 i2 l1 l2 : Addr) (xs ys : Array Value) (i : Nat) : Prop :=
  ((i = 0 ∧ IsZip h z TI TO .none ∧ IsPair h TO .none .none) ∨ ∃ (T : Addr) (bb : Bool) (ot : Obj), IsZipB h z TI TO (rawInt T) bb ∧ h.get? T = some ot ∧ T ≠ z ∧ T ≠ i1 ∧ T ≠ i2) ∧
  IsPair h TI (.ref i1) (.ref i2) ∧ h.IsListIter i1 l1 i ∧ h.IsListIter i2 l2 i ∧ h.IsList l1 xs ∧ h.IsList l2 ys ∧ ∃ o, h.get? TO = some o
section
variable {prog : Program} {w : World} {A : Around} {E : Value → Shared → Prop} {s : Shared} {z TI TO i1 i2 l1 l2 : Addr} {xs ys : Array Value}
theorem ZipSt.keep {h h' : Heap} {i : Nat} {S : Addr} (Z : ZipSt h z TI TO i1 i2 l1 l2 xs ys i) (n1 : z ≠ S) (n2 : TI ≠ S) (n3 : TO ≠ S) (n4 : i1 ≠ S) (n5 : i2 ≠ S) (n6 : l1 ≠ S) (n7 : l2 ≠ S) {c0 : Obj} (hS : h.get? S = some c0)
    (hk : ∀ c o, c ≠ S → h.get? c = some o → h'.get? c = some o) (hS' : ∃ o, h'.get? S = some o) : ZipSt h' z TI TO i1 i2 l1 l2 xs ys i := by
  obtain ⟨Z0, hTI, h1, h2, hl1, hl2, oT, hoT⟩ := Z
  refine ⟨?_, hk _ _ n2 hTI, h1.at fun o e => hk _ o n4 e, h2.at fun o e => hk _ o n5 e, hl1.at fun o e => hk _ o n6 e, hl2.at fun o e => hk _ o n7 e, oT, hk _ _ n3 hoT⟩
  rcases Z0 with ⟨e, hz, hTO⟩ | ⟨T, bb, ot, hz, hT, t⟩
  · exact .inl ⟨e, hk _ _ n1 hz, hk _ _ n3 hTO⟩
  · by_cases e : T = S
    · obtain ⟨o, ho⟩ := hS'
      exact .inr ⟨T, bb, o, hk _ _ n1 hz, by rw [e]; exact ho, t⟩
    · exact .inr ⟨T, bb, ot, hk _ _ n1 hz, hk _ _ e hT, t⟩
theorem step {i : Nat} {x y : Value} {Q : Option Value → Shared → Prop} (D : ZipApart z TI TO i1 i2 l1 l2) (Z : ZipSt s.heap z TI TO i1 i2 l1 l2 xs ys i) (hx : xs[i]? = some x) (hy : ys[i]? = some y)
    (hQ : ∀ h', ZipSt h' z TI TO i1 i2 l1 l2 xs ys (i + 1) → IsPair h' s.heap.objs.size x y → h'.objs.size = s.heap.objs.size + 1 →
      (∀ c o, c ≠ z → c ≠ TO → c ≠ i1 → c ≠ i2 → s.heap.get? c = some o → h'.get? c = some o) → Q (some (.ref s.heap.objs.size)) { s with heap := h' }) :
    wpAny (model prog w) A (pyNext (.ref z)) Q E s := by
  obtain ⟨Z0, hTI, h1, h2, hl1, hl2, oT, hoT⟩ := Z
  have lt : ∀ {c o}, s.heap.get? c = some o → s.heap.objs.size ≠ c := fun e => Nat.ne_of_gt (Heap.lt_size e)
  have li1 : s.heap.objs.size ≠ i1 := by obtain ⟨_, e, _⟩ := h1; exact lt e
  have li2 : s.heap.objs.size ≠ i2 := by obtain ⟨_, e, _⟩ := h2; exact lt e
  rcases Z0 with ⟨rfl, hz, hTO⟩ | ⟨T, bb, ot, hz, hT, t1, t2, t3⟩
  · refine wpAny_pyNext_zip_item D hz hTI hTO h1 h2 hl1 hl2 hx hy fun h' a1 a2 a3 a4 a5 a6 hk => ?_
    exact hQ h' ⟨.inr ⟨_, false, _, a1, a5, lt hz, li1, li2⟩, hk _ _ D.TIz D.TITO D.TIi1 D.TIi2 hTI, a3, a4, hl1.at fun o e => hk _ o D.l1z D.l1TO D.l1i1 D.l1i2 e, hl2.at fun o e => hk _ o D.l2z D.l2TO D.l2i1 D.l2i2 e, _, a2⟩ a5 a6 hk
  · refine pyNext_more D hz hT hTI h1 h2 hl1 hl2 hx hy fun h' a1 a2 a3 a4 a5 hk => ?_
    exact hQ h' ⟨.inr ⟨T, true, ot, a1, hk _ _ t1 t2 t3 hT, t1, t2, t3⟩, hk _ _ D.TIz D.TIi1 D.TIi2 hTI, a2, a3, hl1.at fun o e => hk _ o D.l1z D.l1i1 D.l1i2 e, hl2.at fun o e => hk _ o D.l2z D.l2i1 D.l2i2 e, oT, hk _ _ D.TOz D.TOi1 D.TOi2 hoT⟩ a4 a5 fun c o c1 _ c3 c4 e => hk c o c1 c3 c4 e
theorem halt {i : Nat} {Q : Option Value → Shared → Prop} (hh : A.handled = none) (D : ZipApart z TI TO i1 i2 l1 l2) (Z : ZipSt s.heap z TI TO i1 i2 l1 l2 xs ys i) (hend : xs[i]? = none ∨ ys[i]? = none)
    (hQ : ∀ h', (∀ c o, c ≠ z → c ≠ TO → c ≠ i1 → c ≠ i2 → s.heap.get? c = some o → h'.get? c = some o) → Q none { s with heap := h' }) : wpAny (model prog w) A (pyNext (.ref z)) Q E s := by
  obtain ⟨Z0, hTI, h1, h2, hl1, hl2, oT, hoT⟩ := Z
  rcases Z0 with ⟨rfl, hz, hTO⟩ | ⟨T, bb, ot, hz, hT, t1, t2, t3⟩
  · exact wpAny_pyNext_zip_end hh D hz hTI hTO h1 h2 hl1 hl2 hend hQ
  · exact pyNext_stop hh D hz hT hTI h1 h2 hl1 hl2 hend fun h' hk => hQ h' fun c o c1 _ c3 c4 e => hk c o c1 c3 c4 e
structure Pairs (h : Heap) (m : Nat) (xs ys acc : Array Value) (i : Nat) : Prop where
  len : acc.size = i
  at_ : ∀ j, j < i → ∃ (x y : Value), acc[j]? = some (.ref (m + j)) ∧ xs[j]? = some x ∧ ys[j]? = some y ∧ IsPair h (m + j) x y
theorem Pairs.keep {h h' : Heap} {m : Nat} {acc : Array Value} {i : Nat} (p : Pairs h m xs ys acc i) (hk : ∀ c o, m ≤ c → h.get? c = some o → h'.get? c = some o) : Pairs h' m xs ys acc i :=
  ⟨p.len, fun j hj => by
    obtain ⟨x, y, e1, e2, e3, e4⟩ := p.at_ j hj
    exact ⟨x, y, e1, e2, e3, hk _ _ (Nat.le_add_right _ _) e4⟩⟩
theorem loop {R : Result → Shared → Prop} {S : Addr} {n m : Nat} (hh : A.handled = none) (D : ZipApart z TI TO i1 i2 l1 l2) (n1 : z ≠ S) (n2 : TI ≠ S) (n3 : TO ≠ S) (n4 : i1 ≠ S) (n5 : i2 ≠ S) (n6 : l1 ≠ S) (n7 : l2 ≠ S) (res : Value)
    (mS : S < m) (mz : z < m) (mTO : TO < m) (m1 : i1 < m) (m2 : i2 < m)
    (hn : n = min xs.size ys.size) (hsz : n ≤ sizeLine) : ∀ (k i : Nat) (s : Shared) (acc : Array Value) (c : Nat), n - i = k → i ≤ n → s.heap.objs.size = m + i → ZipSt s.heap z TI TO i1 i2 l1 l2 xs ys i →
    s.heap.get? S = some { cls := .type "list", dict := none, data := .seq acc c, slots := #[] } → Pairs s.heap m xs ys acc i →
    (∀ h' acc' c', (∀ b o, b ≠ S → b ≠ z → b ≠ TO → b ≠ i1 → b ≠ i2 → s.heap.get? b = some o → h'.get? b = some o) → h'.get? S = some { cls := .type "list", dict := none, data := .seq acc' c', slots := #[] } →
      Pairs h' m xs ys acc' n → R (.ok (.ret res)) { s with heap := h' }) →
    codeAny (model prog w) A (.builtin "list.extend.loop" ⟨[.ref S, .ref z, res], []⟩) R s := by
  have far : ∀ c, m ≤ c → c ≠ S ∧ c ≠ z ∧ c ≠ TO ∧ c ≠ i1 ∧ c ≠ i2 := fun c hc => ⟨Nat.ne_of_gt (Nat.lt_of_lt_of_le mS hc), Nat.ne_of_gt (Nat.lt_of_lt_of_le mz hc), Nat.ne_of_gt (Nat.lt_of_lt_of_le mTO hc), Nat.ne_of_gt (Nat.lt_of_lt_of_le m1 hc), Nat.ne_of_gt (Nat.lt_of_lt_of_le m2 hc)⟩
  intro k
  induction k with
  | zero =>
    intro i s acc c hk hi hm Z hS P hR
    have hin : i = n := by omega
    subst hin
    have hend : xs[i]? = none ∨ ys[i]? = none := by
      rw [Array.getElem?_eq_none_iff, Array.getElem?_eq_none_iff]
      omega
    refine codeAny_builtin F.entry_extend_loop ?_
    rw [Around.under_plainId F.plain_extend_loop _]
    show wpAny _ A.in1 (pyNext (.ref z) >>= _) _ _ s
    refine wpAny_bind (halt (A := A.in1) hh D Z hend fun h' hk => ?_)
    exact wpAny_pure (hR h' acc c (fun b o _ b1 b2 b3 b4 e => hk b o b1 b2 b3 b4 e) (hk _ _ n1.symm n3.symm n4.symm n5.symm hS) (P.keep fun c o hc e => hk c o (far c hc).2.1 (far c hc).2.2.1 (far c hc).2.2.2.1 (far c hc).2.2.2.2 e))
  | succ k ih =>
    intro i s acc c hk hi hm Z hS P hR
    have hix : i < xs.size := by omega
    have hiy : i < ys.size := by omega
    refine codeAny_builtin F.entry_extend_loop ?_
    rw [Around.under_plainId F.plain_extend_loop _]
    show wpAny _ A.in1 (pyNext (.ref z) >>= _) _ _ s
    refine wpAny_bind (step (A := A.in1) D Z (Array.getElem?_eq_getElem hix) (Array.getElem?_eq_getElem hiy) fun h' Z' hp hsize hk' => ?_)
    rw [hm] at hp hsize ⊢
    have hS' := hk' S _ n1.symm n3.symm n4.symm n5.symm hS
    show wpAny _ A.in1 (updateSeq S (·.push (Value.ref (m + i))) >>= _) _ _ _
    refine wpAny_bind ?_
    have hup : ∀ b o, b ≠ S → h'.get? b = some o → (h'.update S (Obj.mapSeq (·.push (Value.ref (m + i))))).get? b = some o := fun b o hb e => (Heap.get?_update_other _ _ (Ne.symm hb)).trans e
    have hS2 := Heap.get?_update_self (Obj.mapSeq (·.push (Value.ref (m + i)))) hS' rfl
    refine wpAny_updateSeq hS' rfl (wpAny_pure ⟨plainId_quiet F.plain_extend_loop _, ih (i + 1) _ (acc.push (Value.ref (m + i))) _ (by omega) (by omega) (by show (h'.update _ _).objs.size = _; rw [Heap.size_after_update, hsize, Nat.add_assoc]) (Z'.keep n1 n2 n3 n4 n5 n6 n7 hS' hup ⟨_, hS2⟩) hS2 ?_ fun h'' acc' c' hk'' hS'' P'' => ?_⟩)
      (by rw [P.len]; omega) (by show (acc.push _).size ≤ sizeLine + 1; rw [Array.size_push, P.len]; omega)
    · refine ⟨by rw [Array.size_push, P.len], fun j hj => ?_⟩
      by_cases e : j = i
      · subst e
        exact ⟨_, _, by rw [Array.getElem?_push, if_pos P.len.symm], Array.getElem?_eq_getElem hix, Array.getElem?_eq_getElem hiy, hup _ _ (far _ (Nat.le_add_right _ _)).1 hp⟩
      · obtain ⟨x, y, e1, e2, e3, e4⟩ := P.at_ j (by omega)
        have f := far (m + j) (Nat.le_add_right _ _)
        exact ⟨x, y, by rw [Array.getElem?_push, if_neg (by rw [P.len]; exact e)]; exact e1, e2, e3, hup _ _ f.1 (hk' _ _ f.2.1 f.2.2.1 f.2.2.2.1 f.2.2.2.2 e4)⟩
    · exact hR h'' acc' c' (fun b o b0 b1 b2 b3 b4 e => hk'' b o b0 b1 b2 b3 b4 (hup b o b0 (hk' b o b1 b2 b3 b4 e))) hS'' P''
theorem list_of_zip {Q : Value → Shared → Prop} (hh : A.handled = none) (D : ZipApart z TI TO i1 i2 l1 l2) (hz : IsZip s.heap z TI TO .none) (Z : ZipSt s.heap z TI TO i1 i2 l1 l2 xs ys 0) (hsz : min xs.size ys.size ≤ sizeLine)
    (hQ : ∀ h' acc' c', (∀ b o, b ≠ z → b ≠ TO → b ≠ i1 → b ≠ i2 → s.heap.get? b = some o → h'.get? b = some o) →
      h'.get? s.heap.objs.size = some { cls := .type "list", dict := none, data := .seq acc' c', slots := #[] } → Pairs h' (s.heap.objs.size + 1) xs ys acc' (min xs.size ys.size) → Q (.ref s.heap.objs.size) { s with heap := h' }) :
    wpAny (model prog w) A (call (.type "list") [.ref z]) Q E s := by
  refine callType_codes (Q₁ := fun obj s₁ => obj = .ref s.heap.objs.size ∧ s₁ = { s with heap := s.heap.push { cls := .type "list", data := .seq #[] } }) F.called_list (F.typeCall_list_1 _) F.entry_list_init
    (code_list_new _ ⟨rfl, rfl⟩) fun obj s₁ h₁ => ?_
  obtain ⟨rfl, rfl⟩ := h₁
  generalize hS0 : s.heap.objs.size = S at *
  have hS : (s.heap.push { cls := .type "list", data := .seq #[] }).get? S = some { cls := .type "list", data := .seq #[] } := by rw [← hS0]; exact Heap.get?_push_size _ rfl
  have lt : ∀ {c o}, s.heap.get? c = some o → c ≠ S := fun e => by rw [← hS0]; exact Nat.ne_of_lt (Heap.lt_size e)
  have lts : ∀ {c o}, s.heap.get? c = some o → c < S + 1 := fun e => by rw [← hS0]; exact Nat.lt_succ_of_lt (Heap.lt_size e)
  have hpz : ∀ b o, s.heap.get? b = some o → (s.heap.push { cls := .type "list", data := .seq #[] }).get? b = some o := fun b o e => Heap.get?_push_of_some _ e
  have n1 : z ≠ S := lt hz
  have n2 : TI ≠ S := lt Z.2.1
  have n3 : TO ≠ S := by obtain ⟨_, e⟩ := Z.2.2.2.2.2.2; exact lt e
  have n4 : i1 ≠ S := by obtain ⟨_, e, _⟩ := Z.2.2.1; exact lt e
  have n5 : i2 ≠ S := by obtain ⟨_, e, _⟩ := Z.2.2.2.1; exact lt e
  have n6 : l1 ≠ S := by obtain ⟨_, e, _⟩ := Z.2.2.2.2.1; exact lt e
  have n7 : l2 ≠ S := by obtain ⟨_, e, _⟩ := Z.2.2.2.2.2.1; exact lt e
  refine ⟨⟨_, hS, rfl⟩, F.args_list_init_2 _ _, ?_⟩
  show wpAny _ _ (do let old ← Builtin.List.listItems (.ref S); Builtin.List.listUpdate (.ref S) (fun _ => #[]); letGo old.toList.reverse; Builtin.List.listExtendWith (.ref S) (.ref z) .none) _ _ _
  refine wpAny_bind ?_
  unfold Builtin.List.listItems
  refine wpAny_bind (wpAny_seqItems hS rfl (wpAny_pure ?_))
  show wpAny _ _ (updateSeq S (fun _ => #[]) >>= fun _ => letGo (#[] : Array Value).toList.reverse >>= fun _ => Builtin.List.listExtendWith (.ref S) (.ref z) .none) _ _ _
  refine wpAny_bind (wpAny_updateSeq hS rfl ?_)
  have hS₂ := Heap.get?_update_self (Obj.mapSeq (fun _ => (#[] : Array Value))) hS rfl
  refine wpAny_bind (wpAny_letGo ?_)
  generalize hH2 : (s.heap.push { cls := .type "list", data := .seq #[] }).update S (Obj.mapSeq (fun _ => (#[] : Array Value))) = H2 at *
  have kp2 : ∀ b o, b ≠ S → s.heap.get? b = some o → H2.get? b = some o := fun b o hb e => by rw [← hH2]; exact (Heap.get?_update_other _ _ (Ne.symm hb)).trans (hpz b o e)
  have hz2 : IsZip H2 z TI TO .none := kp2 _ _ n1 hz
  have hTz : ∀ {h : Heap} {g d t os}, IsZip h z TI TO .none → Shared.TypeIs ⟨h, g, d, t, os⟩ (.ref z) "zip" := fun e => ⟨_, e, rfl⟩
  unfold Builtin.List.listExtendWith
  refine wpAny_bind (wpAny_typeOf (T := "zip") ⟨_, hz2, rfl⟩ ?_)
  have h1 : Builtin.List.listSameRef (.ref S) (.ref z) = false := by simp [Builtin.List.listSameRef, n1.symm]
  have h2 : (Value.type "zip" == Value.type "list") = false := by decide
  have h3 : (Value.type "zip" == Value.type "tuple") = false := by decide
  simp only [h1, h2, h3, Bool.or_false, Bool.false_eq_true, if_false]
  refine wpAny_bind (wpAny_pyIter_zip hz2 ?_)
  refine wpAny_bind (wpAny_holding ?_)
  unfold Builtin.List.listLengthHint
  refine wpAny_bind (wpAny_specialOf (T := "zip") ⟨_, hz2, rfl⟩ zip_no_len ?_)
  show wpAny _ _ (specialOf (Value.ref z) (Str.ofString "__length_hint__") >>= _) _ _ _
  refine wpAny_bind (wpAny_specialOf (T := "zip") ⟨_, hz2, rfl⟩ zip_no_hint ?_)
  refine wpAny_pure ?_
  show wpAny _ _ (rule "list.extend.makes-room" >>= fun _ => Builtin.List.listTouch (.ref S) >>= fun _ => again (.builtin "list.extend.loop" ⟨[.ref S, .ref z, .none], []⟩)) _ _ _
  refine wpAny_bind (wpAny_rule ?_)
  refine wpAny_bind ?_
  show wpAny _ _ (updateSeq S (·.push .none) >>= fun _ => updateSeq S (·.pop)) _ _ _
  refine wpAny_bind (wpAny_updateSeq hS₂ rfl ?_)
  have hS₃ := Heap.get?_update_self (Obj.mapSeq (·.push Value.none)) hS₂ rfl
  refine wpAny_updateSeq (hz := by seq_fits) hS₃ rfl ?_
  have hS₄ := Heap.get?_update_self (Obj.mapSeq (·.pop)) hS₃ rfl
  have kp3 : ∀ b o, b ≠ S → s.heap.get? b = some o → ((H2.update S (Obj.mapSeq (·.push Value.none))).update S (Obj.mapSeq (·.pop))).get? b = some o :=
    fun b o hb e => (Heap.get?_update_other _ _ (Ne.symm hb)).trans ((Heap.get?_update_other _ _ (Ne.symm hb)).trans (kp2 b o hb e))
  refine wpAny_pure ⟨plainId_quiet F.plain_extend_loop _, loop (A := A.in1) (m := S + 1) hh D n1 n2 n3 n4 n5 n6 n7 .none (Nat.lt_succ_self _) (lts hz) (by obtain ⟨_, e⟩ := Z.2.2.2.2.2.2; exact lts e) (by obtain ⟨_, e, _⟩ := Z.2.2.1; exact lts e) (by obtain ⟨_, e, _⟩ := Z.2.2.2.1; exact lts e) rfl hsz _ 0 _ #[] _ rfl (Nat.zero_le _) ?hsize ?_ hS₄ ⟨rfl, fun j hj => absurd hj (Nat.not_lt_zero _)⟩ fun h' acc' c' hk hS' P => ?_⟩
  case hsize =>
    show ((H2.update _ _).update _ _).objs.size = _
    rw [Heap.size_after_update, Heap.size_after_update, ← hH2, Heap.size_after_update, Heap.size_push, hS0]
  · obtain ⟨Z0, hTI, z1, z2, hl1, hl2, oT, hoT⟩ := Z
    refine ⟨?_, kp3 _ _ n2 hTI, z1.at fun o e => kp3 _ o n4 e, z2.at fun o e => kp3 _ o n5 e, hl1.at fun o e => kp3 _ o n6 e, hl2.at fun o e => kp3 _ o n7 e, oT, kp3 _ _ n3 hoT⟩
    rcases Z0 with ⟨e, hz, hTO⟩ | ⟨T, bb, ot, hz, hT, t⟩
    · exact .inl ⟨e, kp3 _ _ n1 hz, kp3 _ _ n3 hTO⟩
    · exact .inr ⟨T, bb, ot, kp3 _ _ n1 hz, kp3 _ _ (lt hT) hT, t⟩
  · exact ⟨rfl, hQ h' acc' c' (fun b o b1 b2 b3 b4 e => hk b o (lt e) b1 b2 b3 b4 (kp3 b o (lt e) e)) hS' P⟩
end
end ZL

end

section
set_option Elab.async false
set_option linter.all false
set_option maxRecDepth 100000
namespace PP
open PySem PySem.Spec PyProof.Rows L2

inductive Da where
  | non | bl (b : Bool) | int (i : Int) | str (x : Str) | lst (ds : List Da) | tup (ds : List Da)
  /-- a list of ints that was handed in -/
  | arg (ns : List Int)

mutual
inductive Rp (K : PySem.W.Frag) (H : Hp) : V → Da → Prop
  | non : Rp K H .non .non
  | bl (b : Bool) : Rp K H (.bl b) (.bl b)
  | int (i : Int) : Rp K H (.int i) (.int i)
  | str (x : Str) : Rp K H (.str x) (.str x)
  | lst {a : Addr} {xs : List V} {ds : List Da} : H a = some (.lst xs) → RpAll K H xs ds → Rp K H (.ref a) (.lst ds)
  | tup {a : Addr} {xs : List V} {ds : List Da} : H a = some (.tup xs) → RpAll K H xs ds → Rp K H (.ref a) (.tup ds)
  | arg {a : Addr} {ns : List Int} : SqL K H a (ns.map V.int) → Rp K H (.ref a) (.arg ns)
inductive RpAll (K : PySem.W.Frag) (H : Hp) : List V → List Da → Prop
  | nil : RpAll K H [] []
  | cons {v : V} {vs : List V} {d : Da} {ds : List Da} : Rp K H v d → RpAll K H vs ds → RpAll K H (v :: vs) (d :: ds)
end
section
variable {K : PySem.W.Frag} {H H' : Hp}
mutual
theorem Rp.mono (s : Same H H') : ∀ (d : Da) {v : V}, Rp K H v d → Rp K H' v d
  | .non, _, h => by cases h; exact .non
  | .bl _, _, h => by cases h; exact .bl _
  | .int _, _, h => by cases h; exact .int _
  | .str _, _, h => by cases h; exact .str _
  | .lst ds, _, h => by
    cases h with
    | lst e a => exact .lst (s _ _ e) (RpAll.mono s ds a)
  | .tup ds, _, h => by
    cases h with
    | tup e a => exact .tup (s _ _ e) (RpAll.mono s ds a)
  | .arg ns, _, h => by
    cases h with
    | arg e => exact .arg (s.seq e)
theorem RpAll.mono (s : Same H H') : ∀ (ds : List Da) {vs : List V}, RpAll K H vs ds → RpAll K H' vs ds
  | [], _, h => by cases h; exact .nil
  | d :: ds, _, h => by
    cases h with
    | cons a b => exact .cons (Rp.mono s d a) (RpAll.mono s ds b)
end
theorem Rp.to {v : V} {d : Da} (h : Rp K H v d) (s : Same H H') : Rp K H' v d := Rp.mono s d h
theorem RpAll.to {vs : List V} {ds : List Da} (h : RpAll K H vs ds) (s : Same H H') : RpAll K H' vs ds := RpAll.mono s ds h
theorem Rp.non_inv {v : V} (h : Rp K H v .non) : v = .non := by cases h; rfl
theorem Rp.bl_inv {v : V} {b : Bool} (h : Rp K H v (.bl b)) : v = .bl b := by cases h; rfl
theorem Rp.int_inv {v : V} {i : Int} (h : Rp K H v (.int i)) : v = .int i := by cases h; rfl
theorem Rp.str_inv {v : V} {x : Str} (h : Rp K H v (.str x)) : v = .str x := by cases h; rfl
theorem Rp.lst_inv {v : V} {ds : List Da} (h : Rp K H v (.lst ds)) : ∃ a xs, v = .ref a ∧ H a = some (.lst xs) ∧ RpAll K H xs ds := by
  cases h with
  | lst e a => exact ⟨_, _, rfl, e, a⟩
theorem Rp.tup_inv {v : V} {ds : List Da} (h : Rp K H v (.tup ds)) : ∃ a xs, v = .ref a ∧ H a = some (.tup xs) ∧ RpAll K H xs ds := by
  cases h with
  | tup e a => exact ⟨_, _, rfl, e, a⟩
theorem Rp.arg_inv {v : V} {ns : List Int} (h : Rp K H v (.arg ns)) : ∃ a, v = .ref a ∧ SqL K H a (ns.map V.int) := by
  cases h with
  | arg e => exact ⟨_, rfl, e⟩
theorem RpAll.length : ∀ {vs : List V} {ds : List Da}, RpAll K H vs ds → vs.length = ds.length
  | _, _, .nil => rfl
  | _, _, .cons _ b => by
    show _ + 1 = _ + 1
    rw [RpAll.length b]
theorem RpAll.get : ∀ {vs : List V} {ds : List Da} {i : Nat} {d : Da}, RpAll K H vs ds → ds[i]? = some d → ∃ v, vs[i]? = some v ∧ Rp K H v d
  | _, _, i, d, .nil, e => by simp at e
  | _, _, 0, d, .cons a b, e => by
    have e : _ = d := Option.some.inj e
    subst e
    exact ⟨_, rfl, a⟩
  | _, _, i + 1, d, .cons a b, e => by
    obtain ⟨v, h1, h2⟩ := RpAll.get (i := i) (d := d) b (by simpa using e)
    exact ⟨v, by simpa using h1, h2⟩
theorem RpAll.getV {vs : List V} {ds : List Da} {i : Nat} {v : V} (h : RpAll K H vs ds) (e : vs[i]? = some v) : ∃ d, ds[i]? = some d ∧ Rp K H v d := by
  have hi : i < ds.length := by
    rw [← h.length]
    exact (List.getElem?_eq_some_iff.mp e).1
  obtain ⟨w, h1, h2⟩ := h.get (List.getElem?_eq_getElem hi)
  rw [e] at h1
  cases h1
  exact ⟨_, List.getElem?_eq_getElem hi, h2⟩
theorem RpAll.append : ∀ {vs ws : List V} {ds es : List Da}, RpAll K H vs ds → RpAll K H ws es → RpAll K H (vs ++ ws) (ds ++ es)
  | _, _, _, _, .nil, h => h
  | _, _, _, _, .cons a b, h => .cons a (RpAll.append b h)
theorem RpAll.take : ∀ {vs : List V} {ds : List Da} (n : Nat), RpAll K H vs ds → RpAll K H (vs.take n) (ds.take n)
  | _, _, 0, _ => by simpa using RpAll.nil
  | _, _, n + 1, .nil => .nil
  | _, _, n + 1, .cons a b => .cons a (RpAll.take n b)
theorem RpAll.drop : ∀ {vs : List V} {ds : List Da} (n : Nat), RpAll K H vs ds → RpAll K H (vs.drop n) (ds.drop n)
  | _, _, 0, h => h
  | _, _, n + 1, .nil => .nil
  | _, _, n + 1, .cons a b => RpAll.drop n b
theorem RpAll.ints : ∀ {vs : List V} {ns : List Int}, RpAll K H vs (ns.map Da.int) → vs = ns.map V.int
  | _, [], h => by cases h; rfl
  | _, n :: ns, h => by
    cases h with
    | cons a b => rw [a.int_inv, RpAll.ints b]; rfl
theorem RpAll.bls : ∀ {vs : List V} {ns : List Bool}, RpAll K H vs (ns.map Da.bl) → vs = ns.map V.bl
  | _, [], h => by cases h; rfl
  | _, n :: ns, h => by
    cases h with
    | cons a b => rw [a.bl_inv, RpAll.bls b]; rfl
theorem RpAll.of_ints : ∀ (ns : List Int), RpAll K H (ns.map V.int) (ns.map Da.int)
  | [] => .nil
  | n :: ns => .cons (.int n) (RpAll.of_ints ns)
theorem RpAll.atI {vs : List V} {ds : List Da} {i : Int} {d : Da} (h : RpAll K H vs ds) (e : L2.atI ds i = some d) : ∃ v, L2.atI vs i = some v ∧ Rp K H v d := by
  unfold L2.atI at e ⊢
  rw [h.length]
  cases q : ixN ds.length i with
  | none => rw [q] at e; cases e
  | some j =>
    rw [q] at e
    exact h.get (i := j) e
end

def hide (H : Hp) (O : List Addr) : Hp := fun a => if a ∈ O then none else H a
section
variable {H H' H1 : Hp} {O O' : List Addr} {a p : Addr} {o : HO}
theorem hide_at (h : hide H O a = some o) : a ∉ O ∧ H a = some o := by
  unfold hide at h
  by_cases m : a ∈ O
  · rw [if_pos m] at h; cases h
  · rw [if_neg m] at h; exact ⟨m, h⟩
theorem hide_of (m : a ∉ O) (e : H a = some o) : hide H O a = some o := by
  unfold hide
  rw [if_neg m]
  exact e
theorem hide_sub : Same (hide H O) H := fun _ _ h => (hide_at h).2
theorem hide_mono (s : Same H H') : Same (hide H O) (hide H' O) := fun _ _ h => hide_of (hide_at h).1 (s _ _ (hide_at h).2)
theorem hide_less (h : ∀ b ∈ O', b ∈ O) : Same (hide H O) (hide H O') := fun _ _ q => hide_of (fun m => (hide_at q).1 (h _ m)) (hide_at q).2
theorem hide_new (hp : H p = none) : Same (hide H O) (hide (upd H p o) (p :: O)) := fun b u q => by
  obtain ⟨h1, h2⟩ := hide_at q
  have hb : b ≠ p := ne_of_none h2 hp
  exact hide_of (by simp [hb, h1]) (by rw [upd_ne hb]; exact h2)
theorem hide_upd (hp : p ∈ O) : hide (upd H p o) O = hide H O := by
  funext b
  unfold hide
  by_cases m : b ∈ O
  · rw [if_pos m, if_pos m]
  · rw [if_neg m, if_neg m, upd_ne (fun e => m (by rw [e]; exact hp))]
theorem same_upd (hp : H p = none) : Same H (upd H p o) := fun b u q => by
  rw [upd_ne (ne_of_none q hp)]
  exact q
def Dom (O : List Addr) (H : Hp) : Prop := ∀ a ∈ O, ∃ o, H a = some o
theorem Dom.to (d : Dom O H) (s : Same H H') : Dom O H' := fun a m => by
  obtain ⟨o, e⟩ := d a m
  exact ⟨o, s _ _ e⟩
theorem Dom.not (d : Dom O H) (hp : H p = none) : p ∉ O := fun m => by
  obtain ⟨o, e⟩ := d p m
  rw [hp] at e
  cases e
theorem Dom.cons (d : Dom O H) (e : H p = some o) : Dom (p :: O) H := fun a m => by
  rcases List.mem_cons.mp m with rfl | m
  · exact ⟨o, e⟩
  · exact d a m
theorem Dom.nil : Dom [] H := fun a m => absurd m (by simp)
theorem Dom.append {O2 : List Addr} (d : Dom O H) (e : Dom O2 H) : Dom (O ++ O2) H := fun a m => (List.mem_append.mp m).elim (d a) (e a)
theorem seen_new (d : Dom O H) (hp : H p = none) : hide (upd H p o) O p = some o := hide_of (d.not hp) upd_same
end

inductive En where
  | no | val (d : Da) | own (ds : List Da)
abbrev Rho := List En
structure EnvOk (K : PySem.W.Frag) (ρ : Rho) (σ : L2.St) (H : Hp) (O : List Addr) : Prop where
  len : ρ.length = σ.length
  val : ∀ (i : Nat) (d : Da), ρ[i]? = some (.val d) → ∃ v, σ[i]? = some (some v) ∧ Rp K (hide H O) v d
  own : ∀ (i : Nat) (ds : List Da), ρ[i]? = some (.own ds) → ∃ a xs, σ[i]? = some (some (.ref a)) ∧ a ∈ O ∧ H a = some (.lst xs) ∧ RpAll K (hide H O) xs ds
  inj : ∀ (i j : Nat) (ds es : List Da) (a : Addr), ρ[i]? = some (.own ds) → ρ[j]? = some (.own es) → σ[i]? = some (some (.ref a)) → σ[j]? = some (some (.ref a)) → i = j
section
variable {K : PySem.W.Frag} {ρ : Rho} {σ : L2.St} {H H' : Hp} {O : List Addr}
theorem EnvOk.to (e : EnvOk K ρ σ H O) (s : Same H H') : EnvOk K ρ σ H' O where
  len := e.len
  val := fun i d h => by
    obtain ⟨v, h1, h2⟩ := e.val i d h
    exact ⟨v, h1, h2.to (hide_mono s)⟩
  own := fun i ds h => by
    obtain ⟨a, xs, h1, h2, h3, h4⟩ := e.own i ds h
    exact ⟨a, xs, h1, h2, s _ _ h3, h4.to (hide_mono s)⟩
  inj := e.inj
theorem EnvOk.more {p : Addr} {o : HO} (e : EnvOk K ρ σ H O) (hp : H p = none) : EnvOk K ρ σ (upd H p o) (p :: O) where
  len := e.len
  val := fun i d h => by
    obtain ⟨v, h1, h2⟩ := e.val i d h
    exact ⟨v, h1, h2.to (hide_new hp)⟩
  own := fun i ds h => by
    obtain ⟨a, xs, h1, h2, h3, h4⟩ := e.own i ds h
    exact ⟨a, xs, h1, List.mem_cons_of_mem _ h2, same_upd hp _ _ h3, h4.to (hide_new hp)⟩
  inj := e.inj
theorem EnvOk.other {p : Addr} {o : HO} (e : EnvOk K ρ σ H O) (hp : p ∈ O) (hn : ∀ (i : Nat) (ds : List Da), ρ[i]? = some (.own ds) → σ[i]? ≠ some (some (.ref p))) : EnvOk K ρ σ (upd H p o) O where
  len := e.len
  val := fun i d h => by
    rw [hide_upd hp]
    exact e.val i d h
  own := fun i ds h => by
    rw [hide_upd hp]
    obtain ⟨a, xs, h1, h2, h3, h4⟩ := e.own i ds h
    have : a ≠ p := fun q => hn i ds h (q ▸ h1)
    exact ⟨a, xs, h1, h2, by rw [upd_ne this]; exact h3, h4⟩
  inj := e.inj
theorem set_get {α : Type} {l : List α} {i j : Nat} {x y : α} (h : (l.set i x)[j]? = some y) : (j = i ∧ y = x) ∨ (j ≠ i ∧ l[j]? = some y) := by
  by_cases e : i = j
  · subst e
    by_cases hi : i < l.length
    · rw [List.getElem?_set_self hi] at h
      exact .inl ⟨rfl, (Option.some.inj h).symm⟩
    · rw [List.getElem?_eq_none (by simpa using hi)] at h
      cases h
  · rw [List.getElem?_set_ne e] at h
    exact .inr ⟨fun q => e q.symm, h⟩
theorem EnvOk.set {i : Nat} {v : V} {d : Da} (e : EnvOk K ρ σ H O) (r : Rp K (hide H O) v d) : EnvOk K (ρ.set i (.val d)) (σ.set i (some v)) H O where
  len := by rw [List.length_set, List.length_set]; exact e.len
  val := fun j d' h => by
    rcases set_get h with ⟨rfl, q⟩ | ⟨hj, h⟩
    · cases q
      refine ⟨v, ?_, r⟩
      have hi : j < (ρ.set j (En.val d)).length := (List.getElem?_eq_some_iff.mp h).1
      rw [List.length_set, e.len] at hi
      exact List.getElem?_set_self hi
    · obtain ⟨w, h1, h2⟩ := e.val j d' h
      exact ⟨w, by rw [List.getElem?_set_ne (Ne.symm hj)]; exact h1, h2⟩
  own := fun j ds h => by
    rcases set_get h with ⟨rfl, q⟩ | ⟨hj, h⟩
    · cases q
    · obtain ⟨a, xs, h1, h2⟩ := e.own j ds h
      exact ⟨a, xs, by rw [List.getElem?_set_ne (Ne.symm hj)]; exact h1, h2⟩
  inj := fun j k ds es a h1 h2 h3 h4 => by
    rcases set_get h1 with ⟨rfl, q⟩ | ⟨hj, h1⟩
    · cases q
    rcases set_get h2 with ⟨rfl, q⟩ | ⟨hk, h2⟩
    · cases q
    rw [List.getElem?_set_ne (Ne.symm hj)] at h3
    rw [List.getElem?_set_ne (Ne.symm hk)] at h4
    exact e.inj j k ds es a h1 h2 h3 h4
theorem EnvOk.forget {i : Nat} {x : Option V} (e : EnvOk K ρ σ H O) : EnvOk K (ρ.set i .no) (σ.set i x) H O where
  len := by rw [List.length_set, List.length_set]; exact e.len
  val := fun j d' h => by
    rcases set_get h with ⟨rfl, q⟩ | ⟨hj, h⟩
    · cases q
    · obtain ⟨w, h1, h2⟩ := e.val j d' h
      exact ⟨w, by rw [List.getElem?_set_ne (Ne.symm hj)]; exact h1, h2⟩
  own := fun j ds h => by
    rcases set_get h with ⟨rfl, q⟩ | ⟨hj, h⟩
    · cases q
    · obtain ⟨a, xs, h1, h2⟩ := e.own j ds h
      exact ⟨a, xs, by rw [List.getElem?_set_ne (Ne.symm hj)]; exact h1, h2⟩
  inj := fun j k ds es a h1 h2 h3 h4 => by
    rcases set_get h1 with ⟨rfl, q⟩ | ⟨hj, h1⟩
    · cases q
    rcases set_get h2 with ⟨rfl, q⟩ | ⟨hk, h2⟩
    · cases q
    rw [List.getElem?_set_ne (Ne.symm hj)] at h3
    rw [List.getElem?_set_ne (Ne.symm hk)] at h4
    exact e.inj j k ds es a h1 h2 h3 h4
def wipeR (ρ : Rho) : List Nat → Rho
  | [] => ρ
  | v :: vs => (wipeR ρ vs).set v .no
theorem EnvOk.wipe : ∀ (vs : List Nat), EnvOk K ρ σ H O → EnvOk K (wipeR ρ vs) (L2.wipe σ vs) H O
  | [], e => e
  | v :: vs, e => (EnvOk.wipe vs e).forget
end

section
variable (K : PySem.W.Frag)
def tP (ρ : Rho) (d : Da) : TE := fun σ H Q => ∃ O, Dom O H ∧ EnvOk K ρ σ H O ∧ ∀ v H', Same H H' → Rp K (hide H' O) v d → Q v H'
def tPt (ρ : Rho) (b : Bool) : TT := fun σ H Q => ∃ O, Dom O H ∧ EnvOk K ρ σ H O ∧ ∀ H', Same H H' → Q b H'
def tPa (ρ : Rho) (ds : List Da) : TA := fun σ H Q => ∃ O, Dom O H ∧ EnvOk K ρ σ H O ∧ ∀ vs H', Same H H' → RpAll K (hide H' O) vs ds → Q vs H'
def tPo (ρ : Rho) (o : Option Int) : TO := fun σ H Q => ∃ O, Dom O H ∧ EnvOk K ρ σ H O ∧ ∀ H', Same H H' → Q o H'
def Iters (O : List Addr) (J : It) (H1 : Hp) (ds : List Da) : Prop := ∀ (i : Nat) (H : Hp) (O' : List Addr), Dom O' H → Same (hide H1 O) (hide H O') →
  (i < ds.length → J.go i H) ∧ (ds.length ≤ i → J.stop i H) ∧ ∀ x H', J.yld i H x H' → ∀ d, ds[i]? = some d → Same H H' ∧ Rp K (hide H' O') x d
def tPi (ρ : Rho) (ds : List Da) : TI := fun σ H R => ∃ O, Dom O H ∧ EnvOk K ρ σ H O ∧ ∀ J H', Same H H' → Iters K O J H' ds → R J H'
def tPn (ρ : Rho) (ds : List Da) : TE := fun σ H Q => ∃ O, Dom O H ∧ EnvOk K ρ σ H O ∧ ∀ a xs H', Same H H' → H a = none → H' a = some (.lst xs) → RpAll K (hide H' (a :: O)) xs ds → Q (.ref a) H'
end
inductive Out where
  | ret (d : Da) | next (ρ : Rho)
structure SOk (K : PySem.W.Frag) (ρ : Rho) (σ : L2.St) (H H0 : Hp) (O0 L : List Addr) : Prop where
  d0 : Dom O0 H0
  s0 : Same H0 H
  dL : Dom L H
  fr : ∀ a ∈ L, H0 a = none
  env : EnvOk K ρ σ H (L ++ O0)
  inL : ∀ (i : Nat) (ds : List Da) (a : Addr), ρ[i]? = some (.own ds) → σ[i]? = some (some (.ref a)) → a ∈ L
theorem SOk.to {K : PySem.W.Frag} {ρ : Rho} {σ : L2.St} {H H' H0 : Hp} {O0 L : List Addr} (x : SOk K ρ σ H H0 O0 L) (s : Same H H') : SOk K ρ σ H' H0 O0 L := ⟨x.d0, x.s0.trans s, x.dL.to s, x.fr, x.env.to s, x.inL⟩
theorem SOk.dom {K : PySem.W.Frag} {ρ : Rho} {σ : L2.St} {H H0 : Hp} {O0 L : List Addr} (x : SOk K ρ σ H H0 O0 L) : Dom (L ++ O0) H := x.dL.append (x.d0.to x.s0)
def tO (K : PySem.W.Frag) (ρ : Rho) (o : Out) : TS := fun D σ H => ∃ (H0 : Hp) (O0 L : List Addr), SOk K ρ σ H H0 O0 L ∧
  match o with
  | .ret d => ∀ v H', Same H0 H' → Rp K (hide H' O0) v d → D.rt v H'
  | .next ρ' => ∀ σ' H' L', SOk K ρ' σ' H' H0 O0 L' → Same (hide H (L ++ O0)) (hide H' (L' ++ O0)) → D.nx σ' H'
section
variable (X : Cx) (ρ : Rho)
def PP (e : Expr) (d : Da) : Prop := PE X e (tP X.K ρ d)
def PPn (e : Expr) (ds : List Da) : Prop := PE X e (tPn X.K ρ ds)
def PPt (e : Expr) (b : Bool) : Prop := PT X e (tPt X.K ρ b)
def PPw (e : Expr) (b : Bool) : Prop := PW X e (tPt X.K ρ b)
def PPa (es : List Expr) (ds : List Da) : Prop := PA X es (tPa X.K ρ ds)
def PPi (tg iter : Expr) (ds : List Da) : Prop := PI X tg iter (tPi X.K ρ ds)
def PPts (ifs : List Expr) (b : Bool) : Prop := PTs X ifs (tPt X.K ρ b)
def PP1 (st : Stmt) (o : Out) : Prop := PS X st (tO X.K ρ o)
def PPs (sts : List Stmt) (o : Out) : Prop := PSs X sts (tO X.K ρ o)
end
section
variable {X : Cx}
theorem _root_.L2.PE.imp {e : Expr} {t t' : TE} (h : PE X e t) (hi : ∀ σ H Q, t' σ H Q → t σ H Q) : PE X e t' := fun pins s σ H Q I q => h pins s σ H Q I (hi σ H Q q)
theorem _root_.L2.PT.imp {e : Expr} {t t' : TT} (h : PT X e t) (hi : ∀ σ H Q, t' σ H Q → t σ H Q) : PT X e t' := fun pins s σ H Q I q => h pins s σ H Q I (hi σ H Q q)
theorem _root_.L2.PW.imp {e : Expr} {t t' : TT} (h : PW X e t) (hi : ∀ σ H Q, t' σ H Q → t σ H Q) : PW X e t' := fun wh pins s σ H Q I q => h wh pins s σ H Q I (hi σ H Q q)
theorem _root_.L2.PTs.imp {e : List Expr} {t t' : TT} (h : PTs X e t) (hi : ∀ σ H Q, t' σ H Q → t σ H Q) : PTs X e t' := fun pins s σ H Q I q => h pins s σ H Q I (hi σ H Q q)
theorem _root_.L2.PA.imp {es : List Expr} {t t' : TA} (h : PA X es t) (hi : ∀ σ H Q, t' σ H Q → t σ H Q) : PA X es t' := fun pos pins s σ H Q I q => h pos pins s σ H Q I (hi σ H Q q)
theorem _root_.L2.PI.imp {tg e : Expr} {t t' : TI} (h : PI X tg e t) (hi : ∀ σ H Q, t' σ H Q → t σ H Q) : PI X tg e t' := fun pins s σ H Q I q => h pins s σ H Q I (hi σ H Q q)
theorem _root_.L2.PS.imp {st : Stmt} {t t' : TS} (h : PS X st t) (hi : ∀ D σ H, t' D σ H → t D σ H) : PS X st t' := fun pins s σ H D I q => h pins s σ H D I (hi D σ H q)
theorem _root_.L2.PSs.imp {st : List Stmt} {t t' : TS} (h : PSs X st t) (hi : ∀ D σ H, t' D σ H → t D σ H) : PSs X st t' := fun pins s σ H D I q => h pins s σ H D I (hi D σ H q)
theorem pe_nev {e : Expr} : PE X e (fun _ _ _ => False) := fun _ _ _ _ _ _ h => h.elim
theorem pw_nev {e : Expr} : PW X e (fun _ _ _ => False) := fun _ _ _ _ _ _ _ h => h.elim
theorem _root_.L2.PE.ex {α : Type} {e : Expr} {t : α → TE} (h : ∀ a, PE X e (t a)) : PE X e (fun σ H Q => ∃ a, t a σ H Q) := fun pins s σ H Q I ⟨a, q⟩ => h a pins s σ H Q I q
theorem _root_.L2.PTs.ex {α : Type} {e : List Expr} {t : α → TT} (h : ∀ a, PTs X e (t a)) : PTs X e (fun σ H Q => ∃ a, t a σ H Q) := fun pins s σ H Q I ⟨a, q⟩ => h a pins s σ H Q I q
theorem _root_.L2.PSs.ex {α : Type} {st : List Stmt} {t : α → TS} (h : ∀ a, PSs X st (t a)) : PSs X st (fun D σ H => ∃ a, t a D σ H) := fun pins s σ H D I ⟨a, q⟩ => h a pins s σ H D I q
end

section
variable {X : Cx} {ρ : Rho} {a b c e : Expr} {es : List Expr} {pos : Pos} {d dx dy dz : Da}
theorem pp_var (i : Nat) {x : Str} {pos : Pos} (hρ : ρ[i]? = some (.val d)) (hN : X.N[i]? = some x := by rfl) (hv : Vis X.env.scope x := by first | exact Or.inl rfl | exact Or.inr (Or.inl rfl) | exact Or.inr (Or.inr rfl)) (hd : (x == ("__debug__" : Str)) = false := by decide)
    (hcd : (x == ("__classdict__" : Str)) = false := by decide) : PP X ρ (.Name x pos) d := (pe_var hN hv hd hcd).imp fun σ H Q ⟨O, dom, env, k⟩ => by
  obtain ⟨v, e, r⟩ := env.val i d hρ
  exact ⟨v, e, k v H (Same.refl H) r⟩
theorem pp_int {i : Int} {j : Nat} : PP X ρ (.Constant (.int i) j pos) (.int i) := pe_int.imp fun σ H Q ⟨O, dom, env, k⟩ => k _ H (Same.refl H) (.int i)
theorem pp_bl {i : Bool} {j : Nat} : PP X ρ (.Constant (.bool i) j pos) (.bl i) := pe_bl.imp fun σ H Q ⟨O, dom, env, k⟩ => k _ H (Same.refl H) (.bl i)
theorem pp_non {j : Nat} : PP X ρ (.Constant .none j pos) .non := pe_non.imp fun σ H Q ⟨O, dom, env, k⟩ => k _ H (Same.refl H) .non
theorem pp_str {x : Str} {j : Nat} : PP X ρ (.Constant (.str x) j pos) (.str x) := pe_str.imp fun σ H Q ⟨O, dom, env, k⟩ => k _ H (Same.refl H) (.str x)
def IntAt (mg : Str → Option Value) (x : Str) (i : Int) : Prop := ∃ t, mg x = some (.int i t)
theorem pp_glob {x : Str} {i : Int} (hm : IntAt X.mg x i) (hg : Gl X x := by rfl) (hd : (x == ("__debug__" : Str)) = false := by decide) : PP X ρ (.Name x pos) (.int i) := by
  obtain ⟨t, hm⟩ := hm
  exact (pe_glob (v := .int i) hg hm ⟨t, rfl⟩ hd).imp fun σ H Q ⟨O, dom, env, k⟩ => k _ H (Same.refl H) (.int i)
def Y2 (K : PySem.W.Frag) (r : R2) (dx dy d : Da) : Prop := ∀ (O : List Addr) (H : Hp) (x y : V) (Q : VK), Dom O H → Rp K (hide H O) x dx → Rp K (hide H O) y dy → (∀ v H', Same H H' → Rp K (hide H' O) v d → Q v H') → r x y H Q
def YA (K : PySem.W.Frag) (r : List V → Hp → VK → Prop) (ds : List Da) (d : Da) : Prop := ∀ (O : List Addr) (H : Hp) (vs : List V) (Q : VK), Dom O H → RpAll K (hide H O) vs ds → (∀ v H', Same H H' → Rp K (hide H' O) v d → Q v H') → r vs H Q
theorem tOp_of {r : R2} (y : Y2 X.K r dx dy d) : ∀ σ H Q, tP X.K ρ d σ H Q → tOp r (tP X.K ρ dx) (tP X.K ρ dy) σ H Q := fun σ H Q ⟨O, dom, env, k⟩ =>
  ⟨O, dom, env, fun x H1 s1 rx => ⟨O, dom.to s1, env.to s1, fun z H2 s2 rz => y O H2 x z Q (dom.to (s1.trans s2)) (rx.to (hide_mono s2)) rz fun v H' s3 r3 => k v H' ((s1.trans s2).trans s3) r3⟩⟩
theorem pp_op {op : Operator} {r : R2} (ho : OpR X (binaryOp op) r) (y : Y2 X.K r dx dy d) (ha : PP X ρ a dx) (hb : PP X ρ b dy) : PP X ρ (.BinOp a op b pos) d := (pe_op ho ha hb).imp (tOp_of y)
theorem pp_cmp {op : CmpOp} {r : R2} (ho : OpR X (compareOp op) r) (y : Y2 X.K r dx dy d) (ha : PP X ρ a dx) (hb : PP X ρ b dy) (hm : behindInMarks op b = false) : PP X ρ (.Compare a [op] [b] pos) d := (pe_cmpR ho ha hb hm).imp (tOp_of y)
theorem test_of {t : TE} {b : Bool} (h : ∀ σ H Q, tP X.K ρ (.bl b) σ H Q → t σ H Q) : ∀ σ H Q, tPt X.K ρ b σ H Q → tTest t σ H Q := fun σ H Q ⟨O, dom, env, k⟩ =>
  h σ H _ ⟨O, dom, env, fun v H' s r => ⟨b, r.bl_inv, k H' s⟩⟩
theorem ppt_cmp {op : CmpOp} {r : R2} {t : Bool} (ho : OpR X (compareOp op) r) (y : Y2 X.K r dx dy (.bl t)) (ha : PP X ρ a dx) (hb : PP X ρ b dy) (hm : behindInMarks op b = false) : PPt X ρ (.Compare a [op] [b] pos) t :=
  (pt_cmpR ho ha hb hm).imp (test_of (tOp_of y))
theorem chain_of {r r' : R2} {t u : Bool} (y : Y2 X.K r dx dy (.bl t)) (y' : Y2 X.K r' dy dz (.bl u)) : ∀ σ H Q, tP X.K ρ (.bl (t && u)) σ H Q → tChain r r' (tP X.K ρ dx) (tP X.K ρ dy) (tP X.K ρ dz) σ H Q := fun σ H Q ⟨O, dom, env, k⟩ =>
  ⟨O, dom, env, fun x H1 s1 rx => ⟨O, dom.to s1, env.to s1, fun z H2 s2 rz => y O H2 x z _ (dom.to (s1.trans s2)) (rx.to (hide_mono s2)) rz fun v H3 s3 r3 => ⟨t, r3.bl_inv, by
    have s13 := (s1.trans s2).trans s3
    cases t with
    | false => exact iteF (k _ H3 s13 (.bl false))
    | true => exact iteT ⟨O, dom.to s13, env.to s13, fun w' H4 s4 r4 => y' O H4 z w' Q (dom.to (s13.trans s4)) (rz.to (hide_mono (s3.trans s4))) r4 fun v H' s5 r5 => k v H' ((s13.trans s4).trans s5) r5⟩⟩⟩⟩
theorem pp_chain {op op' : CmpOp} {r r' : R2} {t u : Bool} (ho : OpR X (compareOp op) r) (ho' : OpR X (compareOp op') r') (y : Y2 X.K r dx dy (.bl t)) (y' : Y2 X.K r' dy dz (.bl u)) (ha : PP X ρ a dx) (hb : PP X ρ b dy) (hc : PP X ρ c dz)
    (hm : lastMarks [op, op'] [b, c] = false := by with_unfolding_all rfl) : PP X ρ (.Compare a [op, op'] [b, c] pos) (.bl (t && u)) := (pe_chain ho ho' ha hb hc hm).imp (chain_of y y')
theorem ppt_chain {op op' : CmpOp} {r r' : R2} {t u : Bool} (ho : OpR X (compareOp op) r) (ho' : OpR X (compareOp op') r') (y : Y2 X.K r dx dy (.bl t)) (y' : Y2 X.K r' dy dz (.bl u)) (ha : PP X ρ a dx) (hb : PP X ρ b dy) (hc : PP X ρ c dz)
    (hm : lastMarks [op, op'] [b, c] = false := by with_unfolding_all rfl) : PPt X ρ (.Compare a [op, op'] [b, c] pos) (t && u) := (pt_chain ho ho' ha hb hc hm).imp (test_of (chain_of y y'))
theorem pp_one {op : BoolOp} (h : PP X ρ a d) : PP X ρ (.BoolOp op [a] pos) d := pe_one h
theorem pp_and {rest : List Expr} {t u : Bool} (ha : PP X ρ a (.bl t)) (hb : t = true → PP X ρ (.BoolOp .And (b :: rest) pos) (.bl u)) : PP X ρ (.BoolOp .And (a :: b :: rest) pos) (.bl (t && u)) := by
  cases t with
  | false => exact (pe_and ha pe_nev).imp fun σ H Q ⟨O, dom, env, k⟩ => ⟨O, dom, env, fun v H' s r => ⟨false, r.bl_inv, iteF (k _ H' s (.bl false))⟩⟩
  | true => exact (pe_and ha (hb rfl)).imp fun σ H Q ⟨O, dom, env, k⟩ => ⟨O, dom, env, fun v H' s r => ⟨true, r.bl_inv, iteT ⟨O, dom.to s, env.to s, fun v2 H2 s2 r2 => k v2 H2 (s.trans s2) r2⟩⟩⟩
theorem pp_or {rest : List Expr} {t u : Bool} (ha : PP X ρ a (.bl t)) (hb : t = false → PP X ρ (.BoolOp .Or (b :: rest) pos) (.bl u)) : PP X ρ (.BoolOp .Or (a :: b :: rest) pos) (.bl (t || u)) := by
  cases t with
  | true => exact (pe_or ha pe_nev).imp fun σ H Q ⟨O, dom, env, k⟩ => ⟨O, dom, env, fun v H' s r => ⟨true, r.bl_inv, iteT (k _ H' s (.bl true))⟩⟩
  | false => exact (pe_or ha (hb rfl)).imp fun σ H Q ⟨O, dom, env, k⟩ => ⟨O, dom, env, fun v H' s r => ⟨false, r.bl_inv, iteF ⟨O, dom.to s, env.to s, fun v2 H2 s2 r2 => k v2 H2 (s.trans s2) r2⟩⟩⟩
theorem pp_not {t : Bool} (ha : PP X ρ a (.bl t)) : PP X ρ (.UnaryOp .Not a pos) (.bl (!t)) := (pe_not ha).imp fun σ H Q ⟨O, dom, env, k⟩ => ⟨O, dom, env, fun v H' s r => ⟨t, r.bl_inv, k _ H' s (.bl _)⟩⟩
theorem ppt_val {t : Bool} (h : PP X ρ e (.bl t)) (he : ∀ whole, isTrue e X.env whole = (do let v ← whole; standAt e.pos; holding [v] (truthy v)) := by intro _; rfl) : PPt X ρ e t :=
  (pt_val h he).imp fun σ H Q ⟨O, dom, env, k⟩ => ⟨O, dom, env, fun v H' s r => ⟨t, r.bl_inv, k H' s⟩⟩
theorem ppw_and1 {t : Bool} (ha : PPt X ρ a t) : PPw X ρ (.BoolOp .And [a] pos) t := pw_and1 ha
theorem ppw_or1 {t : Bool} (ha : PPt X ρ a t) : PPw X ρ (.BoolOp .Or [a] pos) t := pw_or1 ha
theorem ppw_and {rest : List Expr} {t u : Bool} (ha : PPt X ρ a t) (hb : t = true → PPw X ρ (.BoolOp .And (b :: rest) pos) u) : PPw X ρ (.BoolOp .And (a :: b :: rest) pos) (t && u) := by
  cases t with
  | false => exact (pw_and ha pw_nev).imp fun σ H Q ⟨O, dom, env, k⟩ => ⟨O, dom, env, fun H' s => iteF (k H' s)⟩
  | true => exact (pw_and ha (hb rfl)).imp fun σ H Q ⟨O, dom, env, k⟩ => ⟨O, dom, env, fun H' s => iteT ⟨O, dom.to s, env.to s, fun H2 s2 => k H2 (s.trans s2)⟩⟩
theorem ppw_or {rest : List Expr} {t u : Bool} (ha : PPt X ρ a t) (hb : t = false → PPw X ρ (.BoolOp .Or (b :: rest) pos) u) : PPw X ρ (.BoolOp .Or (a :: b :: rest) pos) (t || u) := by
  cases t with
  | true => exact (pw_or ha pw_nev).imp fun σ H Q ⟨O, dom, env, k⟩ => ⟨O, dom, env, fun H' s => iteT (k H' s)⟩
  | false => exact (pw_or ha (hb rfl)).imp fun σ H Q ⟨O, dom, env, k⟩ => ⟨O, dom, env, fun H' s => iteF ⟨O, dom.to s, env.to s, fun H2 s2 => k H2 (s.trans s2)⟩⟩
theorem ppt_w {t : Bool} (h : PPw X ρ e t) : PPt X ρ e t := h.pt
theorem ppt_not {t : Bool} (ha : PPt X ρ a t) : PPt X ρ (.UnaryOp .Not a pos) (!t) := (pt_not ha).imp fun σ H Q ⟨O, dom, env, k⟩ => ⟨O, dom, env, fun H' s => k H' s⟩
theorem ppa_nil : PPa X ρ [] [] := pa_nil.imp fun σ H Q ⟨O, dom, env, k⟩ => k [] H (Same.refl H) .nil
theorem ppa_cons {ds : List Da} (ha : PP X ρ e d) (hr : PPa X ρ es ds) (hs : starEach (e :: es) X.env = (false, eval e X.env) :: starEach es X.env := by rfl) : PPa X ρ (e :: es) (d :: ds) :=
  (pa_cons ha hr hs).imp fun σ H Q ⟨O, dom, env, k⟩ => ⟨O, dom, env, fun x H1 s1 rx => ⟨O, dom.to s1, env.to s1, fun xs H2 s2 rxs => k _ H2 (s1.trans s2) (.cons (rx.to (hide_mono s2)) rxs)⟩⟩
theorem pp_tup {ds : List Da} {x1 : Nat} (h : PPa X ρ es ds) (hl : ds.length ≤ sizeLine := by first | decide | (simp only [List.length_cons, List.length_nil]; decide)) : PP X ρ (.Tuple es x1 pos) (.tup ds) := (pe_tup h).imp fun σ H Q ⟨O, dom, env, k⟩ =>
  ⟨O, dom, env, fun vs H1 s1 r => ⟨by rw [r.length]; exact hl, fun p hp => k _ _ (s1.trans (same_upd hp)) (.tup (seen_new (dom.to s1) hp) (r.to (hide_mono (same_upd hp))))⟩⟩
theorem pp_lst {ds : List Da} (h : PPa X ρ es ds) (hl : ds.length ≤ sizeLine := by first | decide | (simp only [List.length_cons, List.length_nil]; decide)) : PP X ρ (.List es pos) (.lst ds) := (pe_lst h).imp fun σ H Q ⟨O, dom, env, k⟩ =>
  ⟨O, dom, env, fun vs H1 s1 r => ⟨by rw [r.length]; exact hl, fun p hp => k _ _ (s1.trans (same_upd hp)) (.lst (seen_new (dom.to s1) hp) (r.to (hide_mono (same_upd hp))))⟩⟩
theorem ppn_lst {ds : List Da} (h : PPa X ρ es ds) (hl : ds.length ≤ sizeLine := by first | decide | (simp only [List.length_cons, List.length_nil]; decide)) : PPn X ρ (.List es pos) ds := (pe_lst h).imp fun σ H Q ⟨O, dom, env, k⟩ =>
  ⟨O, dom, env, fun vs H1 s1 r => ⟨by rw [r.length]; exact hl, fun p hp => k _ _ _ (s1.trans (same_upd hp)) (s1.free hp) upd_same (r.to (hide_new hp))⟩⟩
theorem pp_n {ds : List Da} (h : PPn X ρ e ds) : PP X ρ e (.lst ds) := h.imp fun σ H Q ⟨O, dom, env, k⟩ =>
  ⟨O, dom, env, fun a xs H' s hn he r => k _ H' s (.lst (hide_of (dom.not hn) he) (r.to (hide_less fun b hb => List.mem_cons_of_mem _ hb)))⟩
def SpF (K : PySem.W.Frag) (R : List Da → Da → Prop) : Sp := fun vs H Q _ => ∃ O ds d, Dom O H ∧ RpAll K (hide H O) vs ds ∧ R ds d ∧ ∀ v H', Same H H' → Rp K (hide H' O) v d → Q v H'
def SpN (K : PySem.W.Frag) (R : List Da → List Da → Prop) : Sp := fun vs H Q _ => ∃ O ds es, Dom O H ∧ RpAll K (hide H O) vs ds ∧ R ds es ∧ ∀ a xs H', Same H H' → H a = none → H' a = some (.lst xs) → RpAll K (hide H' (a :: O)) xs es → Q (.ref a) H'
structure Known (P : Program) (w : World) (K : PySem.W.Frag) (mg : Str → Option Value) (base : Heap) (x : Str) (k : Nat) (sp : Sp) : Prop where
  ex : ∃ (f : Addr) (fd : FuncData) (ps : List Str), mg x = some (.ref f) ∧ PySem.W.keepIn K (.ref f) = true ∧ Binds K fd ps [] ∧ FnOk P w K mg base CX0 k f fd ps sp
theorem pp_call {x : Str} {p : Pos} {k : Nat} {R : List Da → Da → Prop} {ds : List Da} (F : Known X.prog X.w X.K X.mg X.base x k (SpF X.K R)) (hr : Room k X.A) (ha : PPa X ρ (e :: es) ds) (hR : R ds d) (hg : Gl X x := by rfl)
    (hdb : (x == ("__debug__" : Str)) = false := by decide) (he : starEach (e :: es) X.env = (false, eval e X.env) :: starEach es X.env := by rfl) (hpl : (backTo pos (starEach es X.env)).any (·.1) = false := by rfl) : PP X ρ (.Call (.Name x p) (e :: es) [] pos) d := by
  obtain ⟨f, fd, ps, hm, hk, hb, F⟩ := F.ex
  exact (pe_call F hr hg hm hk hb .nil pass0 ha hdb he hpl).imp fun σ H Q ⟨O, dom, env, k⟩ => ⟨O, dom, env, fun vs H1 s1 r => ⟨O, ds, d, dom.to s1, by rw [List.append_nil]; exact r, hR, fun v H' s2 r2 => k v H' (s1.trans s2) r2⟩⟩
theorem ppn_call {x : Str} {p : Pos} {k : Nat} {R : List Da → List Da → Prop} {ds us : List Da} (F : Known X.prog X.w X.K X.mg X.base x k (SpN X.K R)) (hr : Room k X.A) (ha : PPa X ρ (e :: es) ds) (hR : R ds us) (hg : Gl X x := by rfl)
    (hdb : (x == ("__debug__" : Str)) = false := by decide) (he : starEach (e :: es) X.env = (false, eval e X.env) :: starEach es X.env := by rfl) (hpl : (backTo pos (starEach es X.env)).any (·.1) = false := by rfl) : PPn X ρ (.Call (.Name x p) (e :: es) [] pos) us := by
  obtain ⟨f, fd, ps, hm, hk, hb, F⟩ := F.ex
  exact (pe_call F hr hg hm hk hb .nil pass0 ha hdb he hpl).imp fun σ H Q ⟨O, dom, env, k⟩ => ⟨O, dom, env, fun vs H1 s1 r => ⟨O, ds, us, dom.to s1, by rw [List.append_nil]; exact r, hR, fun a xs H' s2 hn he r2 => k a xs H' (s1.trans s2) (s1.free hn) he r2⟩⟩
theorem pp_callB {x : Str} {p : Pos} {id : String} {r : List V → Hp → VK → Prop} {ds : List Da} (hc : CallR X (.builtin id) r) (hm : X.mg x = none) (hv : bootBuiltins x = some (.builtin id)) (ha : PPa X ρ (e :: es) ds) (y : YA X.K r ds d) (hg : Gl X x := by rfl) (hn : x ≠ "__name__" := by decide)
    (hdb : (x == ("__debug__" : Str)) = false := by decide) (he : starEach (e :: es) X.env = (false, eval e X.env) :: starEach es X.env := by rfl) (hpl : (backTo pos (starEach es X.env)).any (·.1) = false := by rfl) : PP X ρ (.Call (.Name x p) (e :: es) [] pos) d :=
  (pe_callB hc hg hm hv ha hn hdb he hpl).imp fun σ H Q ⟨O, dom, env, k⟩ => ⟨O, dom, env, fun vs H1 s1 r => y O H1 vs Q (dom.to s1) r fun v H' s2 r2 => k v H' (s1.trans s2) r2⟩
theorem pp_callTy {x : Str} {p : Pos} {T : String} {r : List V → Hp → VK → Prop} {ds : List Da} (hc : CallR X (.type T) r) (hm : X.mg x = none) (hv : bootBuiltins x = some (.type T)) (ha : PPa X ρ (e :: es) ds) (y : YA X.K r ds d) (hg : Gl X x := by rfl) (hn : x ≠ "__name__" := by decide)
    (hdb : (x == ("__debug__" : Str)) = false := by decide) (he : starEach (e :: es) X.env = (false, eval e X.env) :: starEach es X.env := by rfl) (hpl : (backTo pos (starEach es X.env)).any (·.1) = false := by rfl) : PP X ρ (.Call (.Name x p) (e :: es) [] pos) d :=
  (pe_callTy hc hg hm hv ha hn hdb he hpl).imp fun σ H Q ⟨O, dom, env, k⟩ => ⟨O, dom, env, fun vs H1 s1 r => y O H1 vs Q (dom.to s1) r fun v H' s2 r2 => k v H' (s1.trans s2) r2⟩
end
end PP

end

section
set_option Elab.async false
set_option linter.all false
set_option maxRecDepth 100000
namespace PP
open PySem PySem.Spec PyProof.Rows L2
section
variable {X : Cx} {ρ : Rho} {a b c e : Expr} {es : List Expr} {pos : Pos} {d dx dy dz : Da} {K : PySem.W.Frag}
theorem y_int {g : Int → Int → V} {i j : Int} (h : ∀ H, Rp K H (g i j) d) : Y2 K (rI0 g) (.int i) (.int j) d := fun O H x y Q dom rx ry k => ⟨i, j, rx.int_inv, ry.int_inv, k _ H (Same.refl H) (h _)⟩
theorem y_intC {C : Int → Int → Prop} {g : Int → Int → V} {i j : Int} (hc : C i j) (h : ∀ H, Rp K H (g i j) d) : Y2 K (rI C g) (.int i) (.int j) d := fun O H x y Q dom rx ry k => ⟨i, j, rx.int_inv, ry.int_inv, hc, k _ H (Same.refl H) (h _)⟩
theorem pp_add {i j : Int} (ha : PP X ρ a (.int i)) (hb : PP X ρ b (.int j)) : PP X ρ (.BinOp a .Add b pos) (.int (i + j)) := pp_op op_add (y_int fun _ => .int _) ha hb
theorem pp_sub {i j : Int} (ha : PP X ρ a (.int i)) (hb : PP X ρ b (.int j)) : PP X ρ (.BinOp a .Sub b pos) (.int (i - j)) := pp_op op_sub (y_int fun _ => .int _) ha hb
theorem pp_mul {i j : Int} (hc : -(2 ^ 64) < i ∧ i < 2 ^ 64) (ha : PP X ρ a (.int i)) (hb : PP X ρ b (.int j)) : PP X ρ (.BinOp a .Mult b pos) (.int (i * j)) := pp_op op_mul (y_intC (.inl hc) fun _ => .int _) ha hb
theorem pp_lt {i j : Int} (ha : PP X ρ a (.int i)) (hb : PP X ρ b (.int j)) : PP X ρ (.Compare a [.Lt] [b] pos) (.bl (decide (i < j))) := pp_cmp op_lt (y_int fun _ => .bl _) ha hb (nomark _)
theorem pp_le {i j : Int} (ha : PP X ρ a (.int i)) (hb : PP X ρ b (.int j)) : PP X ρ (.Compare a [.LtE] [b] pos) (.bl (decide (i ≤ j))) := pp_cmp op_le (y_int fun _ => .bl _) ha hb (nomark _)
theorem pp_ge {i j : Int} (ha : PP X ρ a (.int i)) (hb : PP X ρ b (.int j)) : PP X ρ (.Compare a [.GtE] [b] pos) (.bl (decide (j ≤ i))) := pp_cmp op_ge (y_int fun _ => .bl _) ha hb (nomark _)
theorem y_eqI {i j : Int} : Y2 K rEq (.int i) (.int j) (.bl (decide (i = j))) := fun O H x y Q dom rx ry k => by
  rw [rx.int_inv, ry.int_inv]
  refine ⟨rfl, k _ H (Same.refl H) ?_⟩
  rw [show decide (V.int i = V.int j) = decide (i = j) from decide_eq_decide.mpr ⟨fun q => V.int.inj q, fun q => by rw [q]⟩]
  exact .bl _
theorem y_neI {i j : Int} : Y2 K rNe (.int i) (.int j) (.bl (!decide (i = j))) := fun O H x y Q dom rx ry k => by
  rw [rx.int_inv, ry.int_inv]
  refine ⟨rfl, k _ H (Same.refl H) ?_⟩
  rw [show decide (V.int i = V.int j) = decide (i = j) from decide_eq_decide.mpr ⟨fun q => V.int.inj q, fun q => by rw [q]⟩]
  exact .bl _
theorem pp_eqI {i j : Int} (ha : PP X ρ a (.int i)) (hb : PP X ρ b (.int j)) : PP X ρ (.Compare a [.Eq] [b] pos) (.bl (decide (i = j))) := pp_cmp op_eq y_eqI ha hb (nomark _)
theorem pp_neI {i j : Int} (ha : PP X ρ a (.int i)) (hb : PP X ρ b (.int j)) : PP X ρ (.Compare a [.NotEq] [b] pos) (.bl (!decide (i = j))) := pp_cmp op_ne y_neI ha hb (nomark _)
theorem ppt_lt {i j : Int} (ha : PP X ρ a (.int i)) (hb : PP X ρ b (.int j)) : PPt X ρ (.Compare a [.Lt] [b] pos) (decide (i < j)) := ppt_cmp op_lt (y_int fun _ => .bl _) ha hb (nomark _)
theorem ppt_gt {i j : Int} (ha : PP X ρ a (.int i)) (hb : PP X ρ b (.int j)) : PPt X ρ (.Compare a [.Gt] [b] pos) (decide (j < i)) := ppt_cmp op_gt (y_int fun _ => .bl _) ha hb (nomark _)
theorem ppt_eqI {i j : Int} (ha : PP X ρ a (.int i)) (hb : PP X ρ b (.int j)) : PPt X ρ (.Compare a [.Eq] [b] pos) (decide (i = j)) := ppt_cmp op_eq y_eqI ha hb (nomark _)
theorem ppt_neI {i j : Int} (ha : PP X ρ a (.int i)) (hb : PP X ρ b (.int j)) : PPt X ρ (.Compare a [.NotEq] [b] pos) (!decide (i = j)) := ppt_cmp op_ne y_neI ha hb (nomark _)
theorem pp_lele {i j k : Int} (ha : PP X ρ a (.int i)) (hb : PP X ρ b (.int j)) (hc : PP X ρ c (.int k)) (hm : lastMarks [.LtE, .LtE] [b, c] = false := by with_unfolding_all rfl) : PP X ρ (.Compare a [.LtE, .LtE] [b, c] pos) (.bl (decide (i ≤ j) && decide (j ≤ k))) :=
  pp_chain op_le op_le (y_int fun _ => .bl _) (y_int fun _ => .bl _) ha hb hc hm
theorem ppt_lele {i j k : Int} (ha : PP X ρ a (.int i)) (hb : PP X ρ b (.int j)) (hc : PP X ρ c (.int k)) (hm : lastMarks [.LtE, .LtE] [b, c] = false := by with_unfolding_all rfl) : PPt X ρ (.Compare a [.LtE, .LtE] [b, c] pos) (decide (i ≤ j) && decide (j ≤ k)) :=
  ppt_chain op_le op_le (y_int fun _ => .bl _) (y_int fun _ => .bl _) ha hb hc hm
def isNon : Da → Bool
  | .non => true
  | _ => false
theorem Rp.isNon {H : Hp} {v : V} {d : Da} (h : Rp K H v d) : decide (v = .non) = PP.isNon d := by cases h <;> rfl
theorem y_isN : Y2 K (fun x y H Q => y = .non ∧ Q (.bl (decide (x = .non))) H) dx .non (.bl (isNon dx)) := fun O H x y Q dom rx ry k => ⟨ry.non_inv, k _ H (Same.refl H) (by rw [rx.isNon]; exact .bl _)⟩
theorem y_notN : Y2 K (fun x y H Q => y = .non ∧ Q (.bl (!decide (x = .non))) H) dx .non (.bl (!isNon dx)) := fun O H x y Q dom rx ry k => ⟨ry.non_inv, k _ H (Same.refl H) (by rw [rx.isNon]; exact .bl _)⟩
theorem ppt_isN (ha : PP X ρ a dx) (hb : PP X ρ b .non) : PPt X ρ (.Compare a [.Is] [b] pos) (isNon dx) := ppt_cmp op_isN y_isN ha hb (nomark _)
theorem ppt_notN (ha : PP X ρ a dx) (hb : PP X ρ b .non) : PPt X ρ (.Compare a [.IsNot] [b] pos) (!isNon dx) := ppt_cmp op_notN y_notN ha hb (nomark _)
mutual
def toPy : Da → PyData
  | .non => .none
  | .bl b => .bool b
  | .int i => .int i
  | .str x => .str x
  | .lst ds => .list (toPys ds)
  | .tup ds => .tuple (toPys ds)
  | .arg ns => .list (ns.map PyData.int)
def toPys : List Da → List PyData
  | [] => []
  | d :: ds => toPy d :: toPys ds
end
theorem dp_ints {H : Hp} : ∀ ns : List Int, DpAll K H (ns.map V.int) (ns.map PyData.int)
  | [] => .nil
  | n :: ns => .cons (.int n) (dp_ints ns)
mutual
theorem Rp.dp {H : Hp} : ∀ (d : Da) {v : V}, Rp K H v d → Dp K H v (toPy d)
  | .non, _, h => by cases h; exact .non
  | .bl _, _, h => by cases h; exact .bl _
  | .int _, _, h => by cases h; exact .int _
  | .str _, _, h => by cases h; exact .str _
  | .lst ds, _, h => by
    cases h with
    | lst e a => exact .lst (SqL.of e) (RpAll.dp ds a)
  | .tup ds, _, h => by
    cases h with
    | tup e a => exact .tup (SqT.of e) (RpAll.dp ds a)
  | .arg ns, _, h => by
    cases h with
    | arg e => exact .lst e (dp_ints ns)
theorem RpAll.dp {H : Hp} : ∀ (ds : List Da) {vs : List V}, RpAll K H vs ds → DpAll K H vs (toPys ds)
  | [], _, h => by cases h; exact .nil
  | d :: ds, _, h => by
    cases h with
    | cons a b => exact .cons (Rp.dp d a) (RpAll.dp ds b)
end
theorem y_eqD (sx : SeqAt.shaped (toPy dx) = true) (sy : SeqAt.shaped (toPy dy) = true) : Y2 K (rEqD K) dx dy (.bl (PyData.eqv (toPy dx) (toPy dy))) := fun O H x y Q dom rx ry k =>
  ⟨_, _, Rp.dp dx (rx.to hide_sub), Rp.dp dy (ry.to hide_sub), sx, sy, k _ H (Same.refl H) (.bl _)⟩
theorem pp_eqD {k : Nat} (hr : Room k X.A) (sx : SeqAt.shaped (toPy dx) = true) (sy : SeqAt.shaped (toPy dy) = true) (ha : PP X ρ a dx) (hb : PP X ρ b dy) : PP X ρ (.Compare a [.Eq] [b] pos) (.bl (PyData.eqv (toPy dx) (toPy dy))) :=
  pp_cmp (op_eqD hr.units) (y_eqD sx sy) ha hb (nomark _)
def FitL (ds : List PyData) : Prop := PyData.canLayAll0 ds = true ∧ PyData.depthAll ds ≤ 60
def rInD (K : PySem.W.Frag) (neg : Bool) : R2 := fun x y H Q => ∃ (d : PyData) (ds : List PyData), (Dp K H y (.list ds) ∨ Dp K H y (.tuple ds)) ∧ Dp K H x d ∧ d.canLay0 = true ∧ FitL ds ∧
  Q (.bl (if neg then !(ds.any fun e => PyData.eqv e d) else ds.any fun e => PyData.eqv e d)) H
theorem op_inD (hu : X.A.units + 64 < cLine) : OpR X (compareOp .In) (rInD X.K false) := by
  intro pins s σ H x y v u Q I rx ry h
  obtain ⟨d, ds, hq, hx, hd, ⟨hs, hz⟩, q⟩ := h
  obtain ⟨bs, r2⟩ := Dp.reads I d x v hx rx
  have hm : min (PyData.depthAll ds) d.depth ≤ 60 := Nat.le_trans (Nat.min_le_left _ _) hz
  rcases hq with hq | hq
  · obtain ⟨as, r1⟩ := Dp.reads I _ y u hq ry
    exact SeqAt.in_list_reads r1 r2 hs hd (by omega) ⟨.bl _, H, I, rfl, q⟩
  · obtain ⟨as, r1⟩ := Dp.reads I _ y u hq ry
    exact SeqAt.in_tuple_reads r1 r2 hs hd (by omega) ⟨.bl _, H, I, rfl, q⟩
theorem op_notInD (hu : X.A.units + 64 < cLine) : OpR X (compareOp .NotIn) (rInD X.K true) := by
  intro pins s σ H x y v u Q I rx ry h
  obtain ⟨d, ds, hq, hx, hd, ⟨hs, hz⟩, q⟩ := h
  obtain ⟨bs, r2⟩ := Dp.reads I d x v hx rx
  have hm : min (PyData.depthAll ds) d.depth ≤ 60 := Nat.le_trans (Nat.min_le_left _ _) hz
  rcases hq with hq | hq
  · obtain ⟨as, r1⟩ := Dp.reads I _ y u hq ry
    exact SeqAt.notIn_list_reads r1 r2 hs hd (by omega) ⟨.bl _, H, I, rfl, q⟩
  · obtain ⟨as, r1⟩ := Dp.reads I _ y u hq ry
    exact SeqAt.notIn_tuple_reads r1 r2 hs hd (by omega) ⟨.bl _, H, I, rfl, q⟩
def itemsOf : Da → Option (List Da)
  | .lst ds => some ds
  | .tup ds => some ds
  | _ => none
theorem Rp.items {H : Hp} {v : V} {d : Da} {ds : List Da} (h : Rp K H v d) (e : itemsOf d = some ds) : Dp K H v (.list (toPys ds)) ∨ Dp K H v (.tuple (toPys ds)) := by
  cases d with
  | lst l => cases e; exact .inl (Rp.dp _ h)
  | tup l => cases e; exact .inr (Rp.dp _ h)
  | _ => cases e
def inD (dx : Da) (ds : List Da) : Bool := (toPys ds).any fun e => PyData.eqv e (toPy dx)
theorem y_in {ds : List Da} (he : itemsOf dy = some ds) (hx : (toPy dx).canLay0 = true) (hs : FitL (toPys ds)) : Y2 K (rInD K false) dx dy (.bl (inD dx ds)) := fun O H x y Q dom rx ry k =>
  ⟨_, _, (ry.to hide_sub).items he, Rp.dp dx (rx.to hide_sub), hx, hs, k _ H (Same.refl H) (.bl _)⟩
theorem y_notIn {ds : List Da} (he : itemsOf dy = some ds) (hx : (toPy dx).canLay0 = true) (hs : FitL (toPys ds)) : Y2 K (rInD K true) dx dy (.bl (!inD dx ds)) := fun O H x y Q dom rx ry k =>
  ⟨_, _, (ry.to hide_sub).items he, Rp.dp dx (rx.to hide_sub), hx, hs, k _ H (Same.refl H) (.bl _)⟩
theorem pp_in {k : Nat} {ds : List Da} (hr : Room k X.A) (he : itemsOf dy = some ds) (hx : (toPy dx).canLay0 = true) (hs : FitL (toPys ds)) (ha : PP X ρ a dx) (hb : PP X ρ b dy) (hm : behindInMarks .In b = false := by with_unfolding_all rfl) : PP X ρ (.Compare a [.In] [b] pos) (.bl (inD dx ds)) :=
  pp_cmp (op_inD hr.units) (y_in he hx hs) ha hb hm
theorem pp_notIn {k : Nat} {ds : List Da} (hr : Room k X.A) (he : itemsOf dy = some ds) (hx : (toPy dx).canLay0 = true) (hs : FitL (toPys ds)) (ha : PP X ρ a dx) (hb : PP X ρ b dy) (hm : behindInMarks .NotIn b = false := by with_unfolding_all rfl) : PP X ρ (.Compare a [.NotIn] [b] pos) (.bl (!inD dx ds)) :=
  pp_cmp (op_notInD hr.units) (y_notIn he hx hs) ha hb hm
theorem ppt_in {k : Nat} {ds : List Da} (hr : Room k X.A) (he : itemsOf dy = some ds) (hx : (toPy dx).canLay0 = true) (hs : FitL (toPys ds)) (ha : PP X ρ a dx) (hb : PP X ρ b dy) (hm : behindInMarks .In b = false := by with_unfolding_all rfl) : PPt X ρ (.Compare a [.In] [b] pos) (inD dx ds) :=
  ppt_cmp (op_inD hr.units) (y_in he hx hs) ha hb hm
theorem pp_ixL {ds : List Da} {i : Int} (h : atI ds i = some d) (ha : PP X ρ a (.lst ds)) (hb : PP X ρ b (.int i)) (hs : PlainIx b := by exact fun _ _ => rfl) : PP X ρ (.Subscript a b pos) d :=
  (pe_ix ix_list ha hb hs).imp (tOp_of fun O H x y Q dom rx ry k => by
    obtain ⟨p, xs, rfl, e, r⟩ := rx.lst_inv
    obtain ⟨v, h1, h2⟩ := r.atI h
    exact ⟨p, xs, i, v, rfl, ry.int_inv, SqL.of (hide_sub _ _ e), h1, k v H (Same.refl H) h2⟩)
theorem pp_ixT {ds : List Da} {i : Int} (h : atI ds i = some d) (ha : PP X ρ a (.tup ds)) (hb : PP X ρ b (.int i)) (hs : PlainIx b := by exact fun _ _ => rfl) : PP X ρ (.Subscript a b pos) d :=
  (pe_ix ix_tup ha hb hs).imp (tOp_of fun O H x y Q dom rx ry k => by
    obtain ⟨p, xs, rfl, e, r⟩ := rx.tup_inv
    obtain ⟨v, h1, h2⟩ := r.atI h
    exact ⟨p, xs, i, v, rfl, ry.int_inv, SqT.of (hide_sub _ _ e), h1, k v H (Same.refl H) h2⟩)
def PPo (X : Cx) (ρ : Rho) (e : Option Expr) (o : Option Int) : Prop := PO X e (tPo X.K ρ o)
theorem _root_.L2.PO.imp {e : Option Expr} {t t' : TO} (h : PO X e t) (hi : ∀ σ H Q, t' σ H Q → t σ H Q) : PO X e t' := fun pins s σ H Q I q => h pins s σ H Q I (hi σ H Q q)
theorem ppo_none : PPo X ρ none none := po_none.imp fun σ H Q ⟨O, dom, env, k⟩ => k H (Same.refl H)
theorem ppo_some {i : Int} (h : PP X ρ e (.int i)) : PPo X ρ (some e) (some i) := (po_some h).imp fun σ H Q ⟨O, dom, env, k⟩ => ⟨O, dom, env, fun v H' s r => ⟨i, r.int_inv, k H' s⟩⟩
def cutD (ds : List Da) (lo hi : Option Int) : List Da := (ds.drop (HT.sIx ds.length 0 lo)).take (HT.sIx ds.length ds.length hi - HT.sIx ds.length 0 lo)
theorem pp_slice {ds : List Da} {lo hi : Option Expr} {l u : Option Int} {p2 : Pos} (he : PP X ρ e (.lst ds)) (hl : PPo X ρ lo l) (hu : PPo X ρ hi u) : PP X ρ (.Subscript e (.Slice lo hi none p2) pos) (.lst (cutD ds l u)) :=
  (pe_slice sl_list he hl hu).imp fun σ H Q ⟨O, dom, env, k⟩ => ⟨O, dom, env, fun x H1 s1 rx => ⟨O, dom.to s1, env.to s1, fun H2 s2 => ⟨O, dom.to (s1.trans s2), env.to (s1.trans s2), fun H3 s3 => by
    have s23 := s2.trans s3
    obtain ⟨a, xs, rfl, e, r⟩ := (rx.to (hide_mono s23)).lst_inv
    refine ⟨a, xs, rfl, SqL.of (hide_sub _ _ e), fun p hp => k _ _ ((s1.trans s23).trans (same_upd hp)) (.lst (seen_new (dom.to (s1.trans s23)) hp) ?_)⟩
    have q : RpAll X.K (hide H3 O) (cutV xs l u) (cutD ds l u) := by
      unfold cutV cutD
      rw [r.length]
      exact (r.drop _).take _
    exact q.to (hide_mono (same_upd hp))⟩⟩⟩
theorem pp_cat {ds us : List Da} (hl : ds.length + us.length ≤ sizeLine) (ha : PP X ρ a (.lst ds)) (hb : PP X ρ b (.lst us)) : PP X ρ (.BinOp a .Add b pos) (.lst (ds ++ us)) :=
  pp_op op_cat (fun O H x y Q dom rx ry k => by
    obtain ⟨p, xs, rfl, e, r⟩ := rx.lst_inv
    obtain ⟨q, ys, rfl, e2, r2⟩ := ry.lst_inv
    exact ⟨p, q, xs, ys, rfl, rfl, hide_sub _ _ e, hide_sub _ _ e2, by rw [r.length, r2.length]; exact hl, fun p' hp => k _ _ (same_upd hp) (.lst (seen_new dom hp) ((r.append r2).to (hide_mono (same_upd hp))))⟩) ha hb
def lenOf : Da → Option Nat
  | .lst ds => some ds.length
  | .tup ds => some ds.length
  | .arg ns => some ns.length
  | _ => none
theorem pp_len {p : Pos} {n : Nat} (hm : X.mg "len" = none) (hn : lenOf d = some n) (ha : PP X ρ e d) (hg : Gl X "len" := by rfl) (he : starEach [e] X.env = (false, eval e X.env) :: starEach [] X.env := by rfl) (hpl : (backTo pos (starEach [] X.env)).any (·.1) = false := by rfl) :
    PP X ρ (.Call (.Name "len" p) [e] [] pos) (.int n) :=
  pp_callB call_len_seq hm PySem.boot_len (ppa_cons ha ppa_nil he) (fun O H vs Q dom r k => by
    cases r with
    | cons r1 r2 =>
      cases r2
      have fin : Q (.int n) H := k _ H (Same.refl H) (.int _)
      cases d with
      | lst ds =>
        cases hn
        obtain ⟨a, xs, rfl, e, r⟩ := r1.lst_inv
        exact ⟨a, xs, rfl, .inl (SqL.of (hide_sub _ _ e)), by rw [r.length]; exact fin⟩
      | tup ds =>
        cases hn
        obtain ⟨a, xs, rfl, e, r⟩ := r1.tup_inv
        exact ⟨a, xs, rfl, .inr (SqT.of (hide_sub _ _ e)), by rw [r.length]; exact fin⟩
      | arg ns =>
        cases hn
        obtain ⟨a, rfl, e⟩ := r1.arg_inv
        exact ⟨a, _, rfl, .inl (hide_sub.seq e), by rw [List.length_map]; exact fin⟩
      | _ => cases hn) hg (by decide) (by decide) he hpl
theorem pp_all {p : Pos} {bs : List Bool} (hc : X.calm = true) (hm : X.mg "all" = none) (hv : bootBuiltins "all" = some (.builtin "all")) (ha : PP X ρ e (.lst (bs.map Da.bl))) (hg : Gl X "all" := by rfl) (he : starEach [e] X.env = (false, eval e X.env) :: starEach [] X.env := by rfl) (hpl : (backTo pos (starEach [] X.env)).any (·.1) = false := by rfl) :
    PP X ρ (.Call (.Name "all" p) [e] [] pos) (.bl (bs.all id)) :=
  pp_callB (cr_all hc) hm hv (ppa_cons ha ppa_nil he) (fun O H vs Q dom r k => by
    cases r with
    | cons r1 r2 =>
      cases r2
      obtain ⟨a, xs, rfl, e, r⟩ := r1.lst_inv
      rw [r.bls] at e
      exact ⟨a, bs, rfl, SqL.of (hide_sub _ _ e), k _ H (Same.refl H) (.bl _)⟩) hg (by decide) (by decide) he hpl
theorem pp_any {p : Pos} {bs : List Bool} (hc : X.calm = true) (hm : X.mg "any" = none) (hv : bootBuiltins "any" = some (.builtin "any")) (ha : PP X ρ e (.lst (bs.map Da.bl))) (hg : Gl X "any" := by rfl) (he : starEach [e] X.env = (false, eval e X.env) :: starEach [] X.env := by rfl) (hpl : (backTo pos (starEach [] X.env)).any (·.1) = false := by rfl) :
    PP X ρ (.Call (.Name "any" p) [e] [] pos) (.bl (bs.any id)) :=
  pp_callB (cr_any hc) hm hv (ppa_cons ha ppa_nil he) (fun O H vs Q dom r k => by
    cases r with
    | cons r1 r2 =>
      cases r2
      obtain ⟨a, xs, rfl, e, r⟩ := r1.lst_inv
      rw [r.bls] at e
      exact ⟨a, bs, rfl, SqL.of (hide_sub _ _ e), k _ H (Same.refl H) (.bl _)⟩) hg (by decide) (by decide) he hpl
theorem pp_ord {p : Pos} {x : Str} (hm : X.mg "ord" = none) (hv : bootBuiltins "ord" = some (.builtin "ord")) (hx : x.length = 1) (ha : PP X ρ e (.str x)) (hg : Gl X "ord" := by rfl) (he : starEach [e] X.env = (false, eval e X.env) :: starEach [] X.env := by rfl) (hpl : (backTo pos (starEach [] X.env)).any (·.1) = false := by rfl) :
    PP X ρ (.Call (.Name "ord" p) [e] [] pos) (.int (x.cps.getD 0 0 : Nat)) :=
  pp_callB call_ord hm hv (ppa_cons ha ppa_nil he) (fun O H vs Q dom r k => by
    cases r with
    | cons r1 r2 =>
      cases r2
      exact ⟨x, by rw [r1.str_inv], hx, k _ H (Same.refl H) (.int _)⟩) hg (by decide) (by decide) he hpl
theorem pp_min2 {p : Pos} {e2 : Expr} {i j : Int} (hc : X.calm = true) (hm : X.mg "min" = none) (hv : bootBuiltins "min" = some (.builtin "min")) (ha : PP X ρ e (.int i)) (hb : PP X ρ e2 (.int j)) (hg : Gl X "min" := by rfl) (he : starEach [e, e2] X.env = (false, eval e X.env) :: starEach [e2] X.env := by rfl) (he2 : starEach [e2] X.env = (false, eval e2 X.env) :: starEach [] X.env := by rfl) (hpl : (backTo pos (starEach [e2] X.env)).any (·.1) = false := by rfl) :
    PP X ρ (.Call (.Name "min" p) [e, e2] [] pos) (.int (if j < i then j else i)) :=
  pp_callB (call_min2 hc) hm hv (ppa_cons ha (ppa_cons hb ppa_nil he2) he) (fun O H vs Q dom r k => by
    cases r with
    | cons r1 r2 =>
      cases r2 with
      | cons r2 r3 =>
        cases r3
        exact ⟨i, j, by rw [r1.int_inv, r2.int_inv], k _ H (Same.refl H) (.int _)⟩) hg (by decide) (by decide) he hpl
theorem pp_max2 {p : Pos} {e2 : Expr} {i j : Int} (hc : X.calm = true) (hm : X.mg "max" = none) (hv : bootBuiltins "max" = some (.builtin "max")) (ha : PP X ρ e (.int i)) (hb : PP X ρ e2 (.int j)) (hg : Gl X "max" := by rfl) (he : starEach [e, e2] X.env = (false, eval e X.env) :: starEach [e2] X.env := by rfl) (he2 : starEach [e2] X.env = (false, eval e2 X.env) :: starEach [] X.env := by rfl) (hpl : (backTo pos (starEach [e2] X.env)).any (·.1) = false := by rfl) :
    PP X ρ (.Call (.Name "max" p) [e, e2] [] pos) (.int (if j > i then j else i)) :=
  pp_callB (call_max2 hc) hm hv (ppa_cons ha (ppa_cons hb ppa_nil he2) he) (fun O H vs Q dom r k => by
    cases r with
    | cons r1 r2 =>
      cases r2 with
      | cons r2 r3 =>
        cases r3
        exact ⟨i, j, by rw [r1.int_inv, r2.int_inv], k _ H (Same.refl H) (.int _)⟩) hg (by decide) (by decide) he hpl
theorem pp_listOf {p : Pos} {ds : List Da} (hm : X.mg "list" = none) (hv : bootBuiltins "list" = some (.type "list")) (hd : itemsOf d = some ds) (ha : PP X ρ e d) (hg : Gl X "list" := by rfl) (he : starEach [e] X.env = (false, eval e X.env) :: starEach [] X.env := by rfl) (hpl : (backTo pos (starEach [] X.env)).any (·.1) = false := by rfl) :
    PP X ρ (.Call (.Name "list" p) [e] [] pos) (.lst ds) :=
  pp_callTy call_list_of hm hv (ppa_cons ha ppa_nil he) (fun O H vs Q dom r k => by
    cases r with
    | cons r1 r2 =>
      cases r2
      have fin : ∀ (xs : List V), RpAll X.K (hide H O) xs ds → ∀ l, H l = none → Q (.ref l) (upd H l (.lst xs)) := fun xs r l hl => k _ _ (same_upd hl) (.lst (seen_new dom hl) (r.to (hide_mono (same_upd hl))))
      cases d with
      | lst l =>
        cases hd
        obtain ⟨a, xs, rfl, e, r⟩ := r1.lst_inv
        exact ⟨a, xs, rfl, .inl (SqL.of (hide_sub _ _ e)), fin xs r⟩
      | tup l =>
        cases hd
        obtain ⟨a, xs, rfl, e, r⟩ := r1.tup_inv
        exact ⟨a, xs, rfl, .inr (SqT.of (hide_sub _ _ e)), fin xs r⟩
      | _ => cases hd) hg (by decide) (by decide) he hpl
end

end PP

end

section
set_option Elab.async false
set_option linter.all false
set_option maxRecDepth 100000
namespace PP
open PySem PySem.Spec PyProof.Rows L2
section
variable {X : Cx} {ρ : Rho} {tg e : Expr} {pos : Pos} {K : PySem.W.Frag}
theorem iters_list {O : List Addr} {H1 : Hp} {a : Addr} {xs : List V} {ds : List Da} (h : SqL K (hide H1 O) a xs) (r : RpAll K (hide H1 O) xs ds) : Iters K O (Itl K a) H1 ds := fun i H O' dom' s => by
  have e' : SqL K H a xs := hide_sub.seq (s.seq h)
  refine ⟨fun hi => ⟨xs, xs[i]'(by rw [r.length]; exact hi), e', List.getElem?_eq_getElem _⟩, fun hi => ⟨xs, e', by rw [r.length]; exact hi⟩, ?_⟩
  rintro x H' ⟨rfl, hx⟩ d hd
  obtain ⟨v, h1, h2⟩ := r.get hd
  have q := hx xs e'
  rw [h1] at q
  cases q
  exact ⟨Same.refl _, h2.to s⟩
theorem ppi_list {ds : List Da} (ha : PP X ρ e (.lst ds)) : PPi X ρ tg e ds := (pi_list ha).imp fun σ H R ⟨O, dom, env, k⟩ => ⟨O, dom, env, fun x H1 s1 rx => by
  obtain ⟨a, xs, rfl, e, r⟩ := rx.lst_inv
  exact ⟨a, rfl, ⟨xs, SqL.of (hide_sub _ _ e)⟩, k _ H1 s1 (iters_list (SqL.of e) r)⟩⟩
theorem ppi_tup {ds : List Da} (ha : PP X ρ e (.tup ds)) : PPi X ρ tg e ds := (pi_tup ha).imp fun σ H R ⟨O, dom, env, k⟩ => ⟨O, dom, env, fun x H1 s1 rx => by
  obtain ⟨a, xs, rfl, e, r⟩ := rx.tup_inv
  refine ⟨a, rfl, ⟨xs, SqT.of (hide_sub _ _ e)⟩, k _ H1 s1 fun i H O' dom' s => ?_⟩
  have e' : SqT X.K H a xs := SqT.of (hide_sub _ _ (s _ _ e))
  refine ⟨fun hi => ⟨xs, xs[i]'(by rw [r.length]; exact hi), e', List.getElem?_eq_getElem _⟩, fun hi => ⟨xs, e', by rw [r.length]; exact hi⟩, ?_⟩
  rintro x H' ⟨rfl, hx⟩ d hd
  obtain ⟨v, h1, h2⟩ := r.get hd
  have q := hx xs e'
  rw [h1] at q
  cases q
  exact ⟨Same.refl _, h2.to s⟩⟩
def upFrom (lo : Int) (n : Nat) : List Da := (List.range n).map fun (k : Nat) => Da.int (lo + (k : Int))
theorem upFrom_len (lo : Int) (n : Nat) : (upFrom lo n).length = n := by simp [upFrom]
theorem iters_range {O : List Addr} {H1 : Hp} (lo : Int) (n : Nat) : Iters K O (Itr lo n) H1 (upFrom lo n) := fun i H O' dom' s => by
  refine ⟨fun hi => by rw [upFrom_len] at hi; exact hi, fun hi => by rw [upFrom_len] at hi; exact hi, ?_⟩
  rintro x H' ⟨rfl, rfl⟩ d hd
  unfold upFrom at hd
  rw [List.getElem?_map] at hd
  obtain ⟨j, hj, rfl⟩ := Option.map_eq_some_iff.mp hd
  obtain ⟨h1, h2⟩ := List.getElem?_eq_some_iff.mp hj
  rw [List.getElem_range] at h2
  subst h2
  exact ⟨Same.refl _, .int _⟩
theorem ppi_range1 {p : Pos} {j : Int} (hm : X.mg "range" = none) (hj : -(2 ^ 62) ≤ j ∧ j < 2 ^ 62) (ha : PP X ρ e (.int j)) (hg : Gl X "range" := by rfl) (hs : starEach [e] X.env = [(false, eval e X.env)] := by rfl) : PPi X ρ tg (.Call (.Name "range" p) [e] [] pos) (upFrom 0 j.toNat) :=
  (pi_range1 hg hm (ppa_cons ha ppa_nil hs) hs).imp fun σ H R ⟨O, dom, env, k⟩ => ⟨O, dom, env, fun vs H1 s1 r => by
    cases r with
    | cons r1 r2 =>
      cases r2
      exact ⟨j, by rw [r1.int_inv], hj.1, hj.2, k _ H1 s1 (iters_range 0 _)⟩⟩
theorem ppi_range2 {p : Pos} {e2 : Expr} {i j : Int} (hm : X.mg "range" = none) (hj : -(2 ^ 62) ≤ i ∧ i < 2 ^ 62 ∧ -(2 ^ 62) ≤ j ∧ j < 2 ^ 62) (ha : PP X ρ e (.int i)) (hb : PP X ρ e2 (.int j)) (hg : Gl X "range" := by rfl)
    (hs1 : starEach [e, e2] X.env = (false, eval e X.env) :: starEach [e2] X.env := by rfl) (hs2 : starEach [e2] X.env = (false, eval e2 X.env) :: starEach [] X.env := by rfl)
    (hs : starEach [e, e2] X.env = [(false, eval e X.env), (false, eval e2 X.env)] := by rfl) : PPi X ρ tg (.Call (.Name "range" p) [e, e2] [] pos) (upFrom i (j - i).toNat) :=
  (pi_range2 hg hm (ppa_cons ha (ppa_cons hb ppa_nil hs2) hs1) hs hs2).imp fun σ H R ⟨O, dom, env, k⟩ => ⟨O, dom, env, fun vs H1 s1 r => by
    cases r with
    | cons r1 r2 =>
      cases r2 with
      | cons r2 r3 =>
        cases r3
        exact ⟨i, j, by rw [r1.int_inv, r2.int_inv], hj, k _ H1 s1 (iters_range i _)⟩⟩
def signsOf (x : Str) : List Da := x.cps.toList.map fun c => Da.str ⟨#[c]⟩
theorem ppi_str {x : Str} (ha : PP X ρ e (.str x)) : PPi X ρ tg e (signsOf x) := (pi_str ha).imp fun σ H R ⟨O, dom, env, k⟩ => ⟨O, dom, env, fun v H1 s1 rx => by
  refine ⟨x, rx.str_inv, k _ H1 s1 fun i H O' dom' s => ?_⟩
  have hl : (signsOf x).length = x.cps.size := by simp [signsOf]
  refine ⟨fun hi => by rw [hl] at hi; exact hi, fun hi => by rw [hl] at hi; exact hi, ?_⟩
  rintro z H' ⟨rfl, c, hc, rfl⟩ d hd
  unfold signsOf at hd
  rw [List.getElem?_map, Array.getElem?_toList, hc] at hd
  cases hd
  exact ⟨Same.refl _, .str _⟩⟩
def numbered (ds : List Da) : List Da := ds.mapIdx fun i d => Da.tup [.int (i : Nat), d]
theorem ppi_enum {p tpos : Pos} {elts : List Expr} {kk : Nat} {ds : List Da} (hm : X.mg "enumerate" = none) (ha : PP X ρ e (.lst ds)) (hg : Gl X "enumerate" := by rfl) (hs : starEach [e] X.env = [(false, eval e X.env)] := by rfl) :
    PPi X ρ (.Tuple elts kk tpos) (.Call (.Name "enumerate" p) [e] [] pos) (numbered ds) :=
  (pi_enum hg hm (ppa_cons ha ppa_nil hs) hs).imp fun σ H R ⟨O, dom, env, k⟩ => ⟨O, dom, env, fun vs H1 s1 r => by
    cases r with
    | cons r1 r2 =>
      cases r2
      obtain ⟨a, xs, rfl, e, r⟩ := r1.lst_inv
      refine ⟨a, xs, rfl, SqL.of (hide_sub _ _ e), k _ H1 s1 fun i H O' dom' s => ?_⟩
      have e' : SqL X.K H a xs := SqL.of (hide_sub _ _ (s _ _ e))
      have hl : (numbered ds).length = xs.length := by rw [r.length]; simp [numbered]
      refine ⟨fun hi => ⟨xs, xs[i]'(by rw [← hl]; exact hi), e', List.getElem?_eq_getElem _⟩, fun hi => ⟨xs, e', by rw [← hl]; exact hi⟩, ?_⟩
      rintro x H' ⟨T, y, rfl, hT, rfl, hy⟩ d hd
      unfold numbered at hd
      rw [List.getElem?_mapIdx] at hd
      obtain ⟨d0, hd0, rfl⟩ := Option.map_eq_some_iff.mp hd
      obtain ⟨v, h1, h2⟩ := r.get hd0
      have q := hy xs e'
      rw [h1] at q
      cases q
      exact ⟨same_upd hT, .tup (seen_new dom' hT) (.cons (.int _) (.cons (h2.to (s.trans (hide_mono (same_upd hT)))) .nil))⟩⟩
end

def Tg (K : PySem.W.Frag) (g : TG) (vs : List Nat) (ρ : Rho) (d : Da) (ρ' : Rho) : Prop := ∀ (O : List Addr) (σ : L2.St) (H : Hp) (x : V) (Q : L2.St → Hp → Prop), EnvOk K ρ σ H O → Rp K (hide H O) x d →
  (∀ σ', (∀ (i : Nat), i ∉ vs → σ'[i]? = σ[i]?) → σ'.length = σ.length → EnvOk K ρ' σ' H O → Q σ' H) → g x σ H Q
section
variable {K : PySem.W.Frag} {ρ : Rho} {d d1 d2 : Da}
theorem tg_name (i : Nat) : Tg K (gName i) [i] ρ d (ρ.set i (.val d)) := fun O σ H x Q env r k =>
  k _ (fun j hj => by rw [List.getElem?_set_ne (fun e => hj (by simp [e]))]) (by simp) (env.set r)
theorem tg_pair (i j : Nat) : Tg K (gTup K 2 (gCons (gName i) (gCons (gName j) gNil))) [i, j] ρ (.tup [d1, d2]) ((ρ.set i (.val d1)).set j (.val d2)) := fun O σ H x Q env r k => by
  obtain ⟨a, xs, rfl, e, r⟩ := r.tup_inv
  cases r with
  | cons r1 r2 =>
    cases r2 with
    | cons r2 r3 =>
      cases r3
      refine ⟨a, _, rfl, SqT.of (hide_sub _ _ e), rfl, _, _, rfl, _, _, rfl, rfl, k _ (fun m hm => ?_) (by simp) ((env.set r1).set r2)⟩
      simp at hm
      rw [List.getElem?_set_ne (fun e => hm.2 e.symm), List.getElem?_set_ne (fun e => hm.1 e.symm)]
theorem wipe_eq {σ σ' : L2.St} : ∀ (vs : List Nat), (∀ (i : Nat), i ∉ vs → σ'[i]? = σ[i]?) → σ'.length = σ.length → wipe σ' vs = wipe σ vs := fun vs h hl => by
  have key : ∀ (vs : List Nat) (i : Nat), (wipe σ vs)[i]? = if i ∈ vs ∧ i < σ.length then some none else σ[i]? := by
    intro vs i
    induction vs with
    | nil => simp [wipe]
    | cons v vs ih =>
      unfold wipe
      by_cases hv : v = i
      · subst hv
        by_cases hi : v < σ.length
        · rw [List.getElem?_set_self (by rw [wipe_length]; exact hi), if_pos ⟨by simp, hi⟩]
        · rw [List.getElem?_eq_none (by rw [List.length_set, wipe_length]; omega), if_neg (fun q => hi q.2), List.getElem?_eq_none (by omega)]
      · rw [List.getElem?_set_ne hv, ih]
        have : i ∈ v :: vs ↔ i ∈ vs := by simp [Ne.symm hv]
        simp only [this]
  have key' : ∀ (vs : List Nat) (i : Nat), (wipe σ' vs)[i]? = if i ∈ vs ∧ i < σ'.length then some none else σ'[i]? := by
    intro vs i
    induction vs with
    | nil => simp [wipe]
    | cons v vs ih =>
      unfold wipe
      by_cases hv : v = i
      · subst hv
        by_cases hi : v < σ'.length
        · rw [List.getElem?_set_self (by rw [wipe_length]; exact hi), if_pos ⟨by simp, hi⟩]
        · rw [List.getElem?_eq_none (by rw [List.length_set, wipe_length]; omega), if_neg (fun q => hi q.2), List.getElem?_eq_none (by omega)]
      · rw [List.getElem?_set_ne hv, ih]
        have : i ∈ v :: vs ↔ i ∈ vs := by simp [Ne.symm hv]
        simp only [this]
  apply List.ext_getElem?
  intro i
  rw [key, key', hl]
  by_cases hi : i ∈ vs ∧ i < σ.length
  · rw [if_pos hi, if_pos hi]
  · rw [if_neg hi, if_neg hi]
    by_cases hm : i ∈ vs
    · have : ¬ i < σ.length := fun q => hi ⟨hm, q⟩
      rw [List.getElem?_eq_none (by omega), List.getElem?_eq_none (by omega)]
    · exact h i hm
theorem wipe_wipe {σ : L2.St} (vs : List Nat) : wipe (wipe σ vs) vs = wipe σ vs := by
  have key : ∀ (vs : List Nat) (τ : L2.St) (i : Nat), (wipe τ vs)[i]? = if i ∈ vs ∧ i < τ.length then some none else τ[i]? := by
    intro vs τ i
    induction vs with
    | nil => simp [wipe]
    | cons v vs ih =>
      unfold wipe
      by_cases hv : v = i
      · subst hv
        by_cases hi : v < τ.length
        · rw [List.getElem?_set_self (by rw [wipe_length]; exact hi), if_pos ⟨by simp, hi⟩]
        · rw [List.getElem?_eq_none (by rw [List.length_set, wipe_length]; omega), if_neg (fun q => hi q.2), List.getElem?_eq_none (by omega)]
      · rw [List.getElem?_set_ne hv, ih]
        have : i ∈ v :: vs ↔ i ∈ vs := by simp [Ne.symm hv]
        simp only [this]
  apply List.ext_getElem?
  intro i
  rw [key, key, wipe_length]
  split <;> rfl
end

section
variable {X : Cx} {ρ : Rho} {pos : Pos}
theorem ppts_nil : PPts X ρ [] true := pts_nil.imp fun σ H Q ⟨O, dom, env, k⟩ => k H (Same.refl H)
theorem ppts_one {c : Expr} {b : Bool} (h : PPt X ρ c b) : PPts X ρ [c] b := pts_one h
theorem lc_read {α : Type} {K : PySem.W.Frag} {g : TG} {l : List α} {enc : α → Da} {vs : List Nat} (f : α → Da) (b : α → Bool) (ρ' : α → Rho) (hl : l.length ≤ sizeLine) (ht : ∀ d ∈ l, Tg K g vs (wipeR ρ vs) (enc d) (ρ' d)) :
    ∀ σ H Q, tPn K ρ ((l.filter b).map f) σ H Q → tLc (tPi K ρ (l.map enc)) g (fun σ H Q => ∃ d : { d // d ∈ l }, tPt K (ρ' d.1) (b d.1) σ H Q) (fun σ H Q => ∃ d : { d // d ∈ l ∧ b d = true }, tP K (ρ' d.1) (f d.1) σ H Q) vs σ H Q := by
  refine fun σ H Q ⟨O, dom, env, k⟩ => ⟨O, dom, env, fun J H1 s1 it => fun D hD => ?_⟩
  have domD : ∀ {Hc : Hp} {acc : List V}, Same H1 Hc → Hc D = some (.lst acc) → Dom (D :: O) Hc := fun s e => ((dom.to s1).to s).cons e
  have envD : EnvOk K (wipeR ρ vs) (wipe σ vs) (upd H1 D (.lst [])) (D :: O) := ((env.to s1).more hD).wipe _
  refine ⟨fun n m Hc => n + m = l.length ∧ ∃ acc, Hc D = some (.lst acc) ∧ RpAll K (hide Hc (D :: O)) acc (((l.take n).filter b).map f) ∧ Same H1 Hc ∧ Same (hide H1 O) (hide Hc (D :: O)) ∧ EnvOk K (wipeR ρ vs) (wipe σ vs) Hc (D :: O), ?_, ?_⟩
  · refine ⟨l.length, by omega, [], upd_same, ?_, same_upd hD, hide_new hD, envD⟩
    simpa using RpAll.nil
  · rintro n m Hc ⟨hnm, acc, eD, rA, sH, sh, envC⟩
    have dC := domD sH eD
    obtain ⟨g1, g2, g3⟩ := it n Hc (D :: O) dC sh
    rw [List.length_map] at g1 g2
    by_cases hn : n < l.length
    · right
      refine ⟨g1 hn, fun H' => n + 1 + (m - 1) = l.length ∧ ∃ acc, H' D = some (.lst acc) ∧ RpAll K (hide H' (D :: O)) acc (((l.take (n + 1)).filter b).map f) ∧ Same H1 H' ∧ Same (hide H1 O) (hide H' (D :: O)) ∧ EnvOk K (wipeR ρ vs) (wipe σ vs) H' (D :: O),
        fun H' h => ⟨m - 1, by omega, h⟩, fun x H' hy => ?_⟩
      have hd : (l.map enc)[n]? = some (enc l[n]) := by rw [List.getElem?_map, List.getElem?_eq_getElem hn]; rfl
      obtain ⟨s2, rx⟩ := g3 x H' hy _ hd
      have mem : l[n] ∈ l := List.getElem_mem hn
      have etk : l.take (n + 1) = l.take n ++ [l[n]] := (List.take_append_getElem hn).symm
      refine ht _ mem (D :: O) _ H' x _ (envC.to s2) rx fun σ' hσ hlen envT => ⟨?_, ?_⟩
      · rw [← wipe_wipe (σ := σ)]
        exact wipe_eq _ hσ hlen
      · refine ⟨⟨_, mem⟩, D :: O, dC.to s2, envT, fun H3 s3 => ?_⟩
        have s23 := s2.trans s3
        cases hbn : b l[n] with
        | false =>
          refine iteF ⟨by omega, acc, s23 _ _ eD, ?_, sH.trans s23, sh.trans (hide_mono s23), envC.to s23⟩
          rw [etk, List.filter_append, List.filter_cons, hbn]
          simpa using rA.to (hide_mono s23)
        | true =>
          refine iteT ⟨⟨_, mem, hbn⟩, D :: O, dC.to s23, envT.to s3, fun y H4 s4 ry => ?_⟩
          have s24 := s23.trans s4
          have e4 : H4 D = some (.lst acc) := s24 _ _ eD
          have hlen' : acc.length < sizeLine := by
            rw [rA.length, List.length_map]
            have h1 : ((l.take n).filter b).length ≤ (l.take n).length := List.length_filter_le _ _
            rw [List.length_take] at h1
            omega
          refine ⟨acc, e4, hlen', by omega, acc ++ [y], upd_same, ?_, ?_, ?_, ?_⟩
          · rw [hide_upd (by simp), etk, List.filter_append, List.filter_cons, hbn, if_pos rfl, List.map_append]
            exact (rA.to (hide_mono s24)).append (.cons ry .nil)
          · intro c o q
            rw [upd_ne (ne_of_none q hD)]
            exact s24 _ _ (sH _ _ q)
          · rw [hide_upd (by simp)]
            exact sh.trans (hide_mono s24)
          · refine (envC.to s24).other (by simp) fun i us hi => ?_
            intro q
            obtain ⟨a', xs', h1', h2', _⟩ := (env.wipe vs).own i us hi
            rw [q] at h1'
            cases h1'
            obtain ⟨o', h3'⟩ := dom _ h2'
            rw [s1 _ _ h3'] at hD
            cases hD
    · left
      have hnl : n = l.length := by omega
      subst hnl
      rw [List.take_length] at rA
      exact ⟨g2 (Nat.le_refl _), k D acc Hc (s1.trans sH) (s1.free hD) eD rA⟩
structure LcOk {α : Type} (X : Cx) (ρ : Rho) (elt tg iter : Expr) (ifs : List Expr) (scope : Scope) (own : List (Str × Nat)) (g : TG) (l : List α) (enc : α → Da) (f : α → Da) (b : α → Bool) (ρ' : α → Rho) : Prop where
  calm : X.calm = true
  nd : X.N.Nodup
  ok : BlkOk X.N X.env.scope scope own
  len : l.length ≤ sizeLine
  it : PPi X ρ tg iter (l.map enc)
  pg : ∀ (s : Shared) (H : Hp) (C : Addr) (cl : List (Str × Addr)) (fp : List Addr), PG (X.blk s H scope (compEnvC scope cl C X.env) fp) tg g
  tgo : ∀ d ∈ l, Tg X.K g (own.map (·.2)) (wipeR ρ (own.map (·.2))) (enc d) (ρ' d)
  ts : ∀ d ∈ l, ∀ (s : Shared) (H : Hp) (C : Addr) (cl : List (Str × Addr)) (fp : List Addr), PPts (X.blk s H scope (compEnvC scope cl C X.env) fp) (ρ' d) ifs (b d)
  el : ∀ d ∈ l, b d = true → ∀ (s : Shared) (H : Hp) (C : Addr) (cl : List (Str × Addr)) (fp : List Addr), PP (X.blk s H scope (compEnvC scope cl C X.env) fp) (ρ' d) elt (f d)
theorem ppn_lc {α : Type} {elt tg iter : Expr} {ifs : List Expr} {scope : Scope} {own : List (Str × Nat)} {g : TG} {l : List α} {enc f : α → Da} {b : α → Bool} {ρ' : α → Rho} (c : LcOk X ρ elt tg iter ifs scope own g l enc f b ρ') (hs : ∀ x, foldedSetIterable iter X.env x = pure x := by intro _; rfl) :
    PPn X ρ (.ListComp elt [⟨tg, iter, ifs, 0⟩] scope pos) ((l.filter b).map f) :=
  (pe_lc c.calm c.nd c.it c.ok c.pg (fun s H C cl fp => PTs.ex (t := fun (d : { d // d ∈ l }) => tPt X.K (ρ' d.1) (b d.1)) fun d => c.ts d.1 d.2 s H C cl fp) (fun s H C cl fp => PE.ex (t := fun (d : { d // d ∈ l ∧ b d = true }) => tP X.K (ρ' d.1) (f d.1)) fun d => c.el d.1 d.2.1 d.2.2 s H C cl fp) hs).imp (lc_read f b ρ' c.len c.tgo)
theorem pp_lc {α : Type} {elt tg iter : Expr} {ifs : List Expr} {scope : Scope} {own : List (Str × Nat)} {g : TG} {l : List α} {enc f : α → Da} {b : α → Bool} {ρ' : α → Rho} (c : LcOk X ρ elt tg iter ifs scope own g l enc f b ρ') (hs : ∀ x, foldedSetIterable iter X.env x = pure x := by intro _; rfl) :
    PP X ρ (.ListComp elt [⟨tg, iter, ifs, 0⟩] scope pos) (.lst ((l.filter b).map f)) := pp_n (ppn_lc c hs)
theorem lc_name {α : Type} (i : Nat) {x : Str} {tp : Pos} {elt iter : Expr} {scope : Scope} {l : List α} {enc f : α → Da} (calm : X.calm = true) (nd : X.N.Nodup) (ok : BlkOk X.N X.env.scope scope [(x, i)]) (len : l.length ≤ sizeLine) (it : PPi X ρ (.Name x tp) iter (l.map enc))
    (el : ∀ d ∈ l, ∀ (s : Shared) (H : Hp) (C : Addr) (cl : List (Str × Addr)) (fp : List Addr), PP (X.blk s H scope (compEnvC scope cl C X.env) fp) ((wipeR ρ [i]).set i (.val (enc d))) elt (f d))
    (hi : X.N[i]? = some x := by rfl) (hx : ∀ (s : Shared) (H : Hp) (C : Addr) (cl : List (Str × Addr)) (fp : List Addr), Loc (X.blk s H scope (compEnvC scope cl C X.env) fp).env.scope x := by exact fun _ _ _ _ _ => Or.inl rfl)
    (hf : ∀ (s : Shared) (H : Hp) (C : Addr) (cl : List (Str × Addr)) (fp : List Addr), (X.blk s H scope (compEnvC scope cl C X.env) fp).fn x = true ∨ (X.blk s H scope (compEnvC scope cl C X.env) fp).env.scope.names.lookup x = some .local := by exact fun _ _ _ _ _ => Or.inr rfl) :
    LcOk X ρ elt (.Name x tp) iter [] scope [(x, i)] (gName i) l enc f (fun _ => true) (fun d => (wipeR ρ [i]).set i (.val (enc d))) :=
  ⟨calm, nd, ok, len, it, fun s H C cl fp => pg_name nd hi (hx s H C cl fp) (hf s H C cl fp), fun d _ => tg_name i, fun d _ s H C cl fp => ppts_nil, fun d hd _ s H C cl fp => el d hd s H C cl fp⟩
theorem lc_nameIf {α : Type} (i : Nat) {x : Str} {tp : Pos} {elt iter c : Expr} {scope : Scope} {l : List α} {enc f : α → Da} {b : α → Bool} (calm : X.calm = true) (nd : X.N.Nodup) (ok : BlkOk X.N X.env.scope scope [(x, i)]) (len : l.length ≤ sizeLine) (it : PPi X ρ (.Name x tp) iter (l.map enc))
    (ts : ∀ d ∈ l, ∀ (s : Shared) (H : Hp) (C : Addr) (cl : List (Str × Addr)) (fp : List Addr), PPt (X.blk s H scope (compEnvC scope cl C X.env) fp) ((wipeR ρ [i]).set i (.val (enc d))) c (b d))
    (el : ∀ d ∈ l, b d = true → ∀ (s : Shared) (H : Hp) (C : Addr) (cl : List (Str × Addr)) (fp : List Addr), PP (X.blk s H scope (compEnvC scope cl C X.env) fp) ((wipeR ρ [i]).set i (.val (enc d))) elt (f d))
    (hi : X.N[i]? = some x := by rfl) (hx : ∀ (s : Shared) (H : Hp) (C : Addr) (cl : List (Str × Addr)) (fp : List Addr), Loc (X.blk s H scope (compEnvC scope cl C X.env) fp).env.scope x := by exact fun _ _ _ _ _ => Or.inl rfl)
    (hf : ∀ (s : Shared) (H : Hp) (C : Addr) (cl : List (Str × Addr)) (fp : List Addr), (X.blk s H scope (compEnvC scope cl C X.env) fp).fn x = true ∨ (X.blk s H scope (compEnvC scope cl C X.env) fp).env.scope.names.lookup x = some .local := by exact fun _ _ _ _ _ => Or.inr rfl) :
    LcOk X ρ elt (.Name x tp) iter [c] scope [(x, i)] (gName i) l enc f b (fun d => (wipeR ρ [i]).set i (.val (enc d))) :=
  ⟨calm, nd, ok, len, it, fun s H C cl fp => pg_name nd hi (hx s H C cl fp) (hf s H C cl fp), fun d _ => tg_name i, fun d hd s H C cl fp => ppts_one (ts d hd s H C cl fp), fun d hd hb s H C cl fp => el d hd hb s H C cl fp⟩
theorem lc_pair {α : Type} (i j : Nat) {x y : Str} {px py tp : Pos} {kt : Nat} {elt iter : Expr} {scope : Scope} {l : List α} {e1 e2 f : α → Da} (calm : X.calm = true) (nd : X.N.Nodup) (ok : BlkOk X.N X.env.scope scope [(x, i), (y, j)]) (len : l.length ≤ sizeLine)
    (it : PPi X ρ (.Tuple [.Name x px, .Name y py] kt tp) iter (l.map fun d => .tup [e1 d, e2 d]))
    (el : ∀ d ∈ l, ∀ (s : Shared) (H : Hp) (C : Addr) (cl : List (Str × Addr)) (fp : List Addr), PP (X.blk s H scope (compEnvC scope cl C X.env) fp) (((wipeR ρ [i, j]).set i (.val (e1 d))).set j (.val (e2 d))) elt (f d))
    (hi : X.N[i]? = some x := by rfl) (hj : X.N[j]? = some y := by rfl)
    (hx : ∀ (s : Shared) (H : Hp) (C : Addr) (cl : List (Str × Addr)) (fp : List Addr), Loc (X.blk s H scope (compEnvC scope cl C X.env) fp).env.scope x := by exact fun _ _ _ _ _ => Or.inl rfl)
    (hy : ∀ (s : Shared) (H : Hp) (C : Addr) (cl : List (Str × Addr)) (fp : List Addr), Loc (X.blk s H scope (compEnvC scope cl C X.env) fp).env.scope y := by exact fun _ _ _ _ _ => Or.inl rfl)
    (hf : ∀ (s : Shared) (H : Hp) (C : Addr) (cl : List (Str × Addr)) (fp : List Addr), (X.blk s H scope (compEnvC scope cl C X.env) fp).fn x = true ∨ (X.blk s H scope (compEnvC scope cl C X.env) fp).env.scope.names.lookup x = some .local := by exact fun _ _ _ _ _ => Or.inr rfl)
    (hf2 : ∀ (s : Shared) (H : Hp) (C : Addr) (cl : List (Str × Addr)) (fp : List Addr), (X.blk s H scope (compEnvC scope cl C X.env) fp).fn y = true ∨ (X.blk s H scope (compEnvC scope cl C X.env) fp).env.scope.names.lookup y = some .local := by exact fun _ _ _ _ _ => Or.inr rfl) :
    LcOk X ρ elt (.Tuple [.Name x px, .Name y py] kt tp) iter [] scope [(x, i), (y, j)] (gTup X.K 2 (gCons (gName i) (gCons (gName j) gNil))) l (fun d => .tup [e1 d, e2 d]) f (fun _ => true) (fun d => ((wipeR ρ [i, j]).set i (.val (e1 d))).set j (.val (e2 d))) :=
  ⟨calm, nd, ok, len, it, fun s H C cl fp => pg_tup calm (pgs_cons (pg_name nd hi (hx s H C cl fp) (hf s H C cl fp)) (pgs_cons (pg_name nd hj (hy s H C cl fp) (hf2 s H C cl fp)) pgs_nil)), fun d _ => tg_pair i j, fun d _ s H C cl fp => ppts_nil, fun d hd _ s H C cl fp => el d hd s H C cl fp⟩
theorem filter_yes {α : Type} (l : List α) : l.filter (fun _ => true) = l := by simp
end
end PP

end

section
set_option Elab.async false
set_option linter.all false
set_option maxRecDepth 100000
namespace PP
open PySem PySem.Spec PyProof.Rows L2
section
variable {K : PySem.W.Frag} {ρ : Rho} {σ : L2.St} {H H' : Hp} {O : List Addr} {a : Addr}
theorem EnvOk.grow (e : EnvOk K ρ σ H O) (s : Same H H') (ha : H a = none) : EnvOk K ρ σ H' (a :: O) := by
  have sh : Same (hide H O) (hide H' (a :: O)) := fun b o q => by
    obtain ⟨h1, h2⟩ := hide_at q
    exact hide_of (by simp [ne_of_none h2 ha, h1]) (s _ _ h2)
  refine ⟨e.len, fun i d h => ?_, fun i ds h => ?_, e.inj⟩
  · obtain ⟨v, h1, h2⟩ := e.val i d h
    exact ⟨v, h1, h2.to sh⟩
  · obtain ⟨b, xs, h1, h2, h3, h4⟩ := e.own i ds h
    exact ⟨b, xs, h1, List.mem_cons_of_mem _ h2, s _ _ h3, h4.to sh⟩
theorem EnvOk.setOwn {i : Nat} {xs : List V} {ds : List Da} (e : EnvOk K ρ σ H O) (hO : a ∈ O) (hH : H a = some (.lst xs)) (r : RpAll K (hide H O) xs ds) (hn : ∀ (j : Nat) (us : List Da), ρ[j]? = some (.own us) → j ≠ i → σ[j]? ≠ some (some (.ref a))) :
    EnvOk K (ρ.set i (.own ds)) (σ.set i (some (.ref a))) H O where
  len := by rw [List.length_set, List.length_set]; exact e.len
  val := fun j d' h => by
    rcases set_get h with ⟨rfl, q⟩ | ⟨hj, h⟩
    · cases q
    · obtain ⟨w, h1, h2⟩ := e.val j d' h
      exact ⟨w, by rw [List.getElem?_set_ne (Ne.symm hj)]; exact h1, h2⟩
  own := fun j us h => by
    rcases set_get h with ⟨rfl, q⟩ | ⟨hj, h⟩
    · cases q
      have hi : j < (ρ.set j (En.own ds)).length := (List.getElem?_eq_some_iff.mp h).1
      rw [List.length_set, e.len] at hi
      exact ⟨a, xs, List.getElem?_set_self hi, hO, hH, r⟩
    · obtain ⟨b, ys, h1, h2⟩ := e.own j us h
      exact ⟨b, ys, by rw [List.getElem?_set_ne (Ne.symm hj)]; exact h1, h2⟩
  inj := fun j k us es b h1 h2 h3 h4 => by
    rcases set_get h1 with ⟨ej, _⟩ | ⟨hj, g1⟩
    · rcases set_get h2 with ⟨ek, _⟩ | ⟨hk, g2⟩
      · rw [ej, ek]
      · rw [List.getElem?_set_ne (Ne.symm hk)] at h4
        rw [ej] at h3
        have hi : i < (σ.set i (some (V.ref a))).length := (List.getElem?_eq_some_iff.mp h3).1
        rw [List.length_set] at hi
        rw [List.getElem?_set_self hi] at h3
        cases h3
        exact absurd h4 (hn k es g2 hk)
    · rw [List.getElem?_set_ne (Ne.symm hj)] at h3
      rcases set_get h2 with ⟨ek, _⟩ | ⟨hk, g2⟩
      · rw [ek] at h4
        have hi : i < (σ.set i (some (V.ref a))).length := (List.getElem?_eq_some_iff.mp h4).1
        rw [List.length_set] at hi
        rw [List.getElem?_set_self hi] at h4
        cases h4
        exact absurd h3 (hn j us g1 hj)
      · rw [List.getElem?_set_ne (Ne.symm hk)] at h4
        exact e.inj j k us es b g1 g2 h3 h4
theorem EnvOk.write {i : Nat} {ds us : List Da} {ys : List V} (e : EnvOk K ρ σ H O) (h : ρ[i]? = some (.own ds)) (hs : σ[i]? = some (some (.ref a))) (hO : a ∈ O) (r : RpAll K (hide H O) ys us) :
    EnvOk K (ρ.set i (.own us)) σ (upd H a (.lst ys)) O := by
  have hi : i < ρ.length := (List.getElem?_eq_some_iff.mp h).1
  refine ⟨by rw [List.length_set]; exact e.len, fun j d' q => ?_, fun j vs q => ?_, fun j k vs ws b h1 h2 h3 h4 => ?_⟩
  · rcases set_get q with ⟨ej, z⟩ | ⟨hj, z⟩
    · cases z
    · rw [hide_upd hO]
      exact e.val j d' z
  · rcases set_get q with ⟨ej, z⟩ | ⟨hj, z⟩
    · cases z
      rw [ej]
      exact ⟨a, ys, hs, hO, upd_same, by rw [hide_upd hO]; exact r⟩
    · obtain ⟨b, xs, h1, h2, h3, h4⟩ := e.own j vs z
      have hb : b ≠ a := fun y => hj (e.inj j i vs ds a z h (y ▸ h1) hs)
      exact ⟨b, xs, h1, h2, by rw [upd_ne hb]; exact h3, by rw [hide_upd hO]; exact h4⟩
  · have o1 : ∃ vs', ρ[j]? = some (.own vs') := by
      rcases set_get h1 with ⟨rfl, _⟩ | ⟨_, q⟩
      · exact ⟨_, h⟩
      · exact ⟨_, q⟩
    have o2 : ∃ vs', ρ[k]? = some (.own vs') := by
      rcases set_get h2 with ⟨rfl, _⟩ | ⟨_, q⟩
      · exact ⟨_, h⟩
      · exact ⟨_, q⟩
    obtain ⟨_, o1⟩ := o1
    obtain ⟨_, o2⟩ := o2
    exact e.inj j k _ _ b o1 o2 h3 h4
theorem EnvOk.lend {i : Nat} {ds : List Da} (e : EnvOk K ρ σ H O) (h : ρ[i]? = some (.own ds)) (hs : σ[i]? = some (some (.ref a))) : EnvOk K (ρ.set i (.val (.lst ds))) σ H (O.filter fun b => decide (b ≠ a)) := by
  have less : ∀ b ∈ O.filter (fun b => decide (b ≠ a)), b ∈ O := fun b hb => (List.mem_filter.mp hb).1
  obtain ⟨a', xs, h1, h2, h3, h4⟩ := e.own i ds h
  rw [hs] at h1
  cases h1
  refine ⟨by rw [List.length_set]; exact e.len, fun j d' q => ?_, fun j vs q => ?_, fun j k vs ws b q1 q2 q3 q4 => ?_⟩
  · rcases set_get q with ⟨ej, z⟩ | ⟨hj, z⟩
    · cases z
      rw [ej]
      exact ⟨_, hs, .lst (hide_of (by simp) h3) (h4.to (hide_less less))⟩
    · obtain ⟨v, e1, e2⟩ := e.val j d' z
      exact ⟨v, e1, e2.to (hide_less less)⟩
  · rcases set_get q with ⟨ej, z⟩ | ⟨hj, z⟩
    · cases z
    · obtain ⟨b, ys, e1, e2, e3, e4⟩ := e.own j vs z
      have hb : b ≠ a := fun y => hj (e.inj j i vs ds a z h (y ▸ e1) hs)
      exact ⟨b, ys, e1, List.mem_filter.mpr ⟨e2, by simp [hb]⟩, e3, e4.to (hide_less less)⟩
  · rcases set_get q1 with ⟨_, z⟩ | ⟨hj, z1⟩
    · cases z
    rcases set_get q2 with ⟨_, z⟩ | ⟨hk, z2⟩
    · cases z
    exact e.inj j k vs ws b z1 z2 q3 q4
end
mutual
def flat : Da → Bool
  | .non => true
  | .bl _ => true
  | .int _ => true
  | .str _ => true
  | .lst _ => false
  | .tup ds => flats ds
  | .arg _ => false
def flats : List Da → Bool
  | [] => true
  | d :: ds => flat d && flats ds
end
mutual
theorem Rp.flat_to {K : PySem.W.Frag} {H H' : Hp} (s : ∀ b xs, H b = some (.tup xs) → H' b = some (.tup xs)) : ∀ (d : Da) {v : V}, flat d = true → Rp K H v d → Rp K H' v d
  | .non, _, _, h => by cases h; exact .non
  | .bl _, _, _, h => by cases h; exact .bl _
  | .int _, _, _, h => by cases h; exact .int _
  | .str _, _, _, h => by cases h; exact .str _
  | .lst ds, _, f, h => by simp [flat] at f
  | .tup ds, _, f, h => by
    cases h with
    | tup e a => exact .tup (s _ _ e) (RpAll.flat_to s ds (by simpa [flat] using f) a)
  | .arg ns, _, f, h => by simp [flat] at f
theorem RpAll.flat_to {K : PySem.W.Frag} {H H' : Hp} (s : ∀ b xs, H b = some (.tup xs) → H' b = some (.tup xs)) : ∀ (ds : List Da) {vs : List V}, flats ds = true → RpAll K H vs ds → RpAll K H' vs ds
  | [], _, _, h => by cases h; exact .nil
  | d :: ds, _, f, h => by
    have f' : flat d = true ∧ flats ds = true := by simpa [flats] using f
    cases h with
    | cons a b => exact .cons (Rp.flat_to s d f'.1 a) (RpAll.flat_to s ds f'.2 b)
end
section
variable {X : Cx} {ρ : Rho} {e : Expr} {d : Da} {ds : List Da}
theorem lend_tup {H : Hp} {O : List Addr} {a : Addr} {xs : List V} (h : H a = some (.lst xs)) : ∀ b ys, hide H (O.filter fun b => decide (b ≠ a)) b = some (.tup ys) → hide H O b = some (.tup ys) := fun b ys q => by
  obtain ⟨h1, h2⟩ := hide_at q
  refine hide_of (fun m => ?_) h2
  by_cases z : b = a
  · subst z
    rw [h] at h2
    cases h2
  · exact h1 (List.mem_filter.mpr ⟨m, by simp [z]⟩)
theorem pp_lend (i : Nat) (hf : flat d = true) (hρ : ρ[i]? = some (.own ds)) (h : PP X (ρ.set i (.val (.lst ds))) e d) : PP X ρ e d := h.imp fun σ H Q ⟨O, dom, env, k⟩ => by
  obtain ⟨a, xs, h1, h2, h3, h4⟩ := env.own i ds hρ
  exact ⟨_, fun b m => dom b (List.mem_filter.mp m).1, env.lend hρ h1, fun v H' s r => k v H' s (Rp.flat_to (lend_tup (s _ _ h3)) d hf r)⟩
theorem ppt_lend (i : Nat) {b : Bool} (hρ : ρ[i]? = some (.own ds)) (h : PPt X (ρ.set i (.val (.lst ds))) e b) : PPt X ρ e b := h.imp fun σ H Q ⟨O, dom, env, k⟩ => by
  obtain ⟨a, xs, h1, h2, h3, h4⟩ := env.own i ds hρ
  exact ⟨_, fun b m => dom b (List.mem_filter.mp m).1, env.lend hρ h1, fun H' s => k H' s⟩
end
section
variable {X : Cx} {ρ ρ1 : Rho} {st : Stmt} {rest : List Stmt} {o : Out} {e : Expr} {d : Da} {ds us : List Da} {pos : Pos}
theorem pps_nil : PPs X ρ [] (.next ρ) := pss_nil.imp fun D σ H ⟨H0, O0, L, x, k⟩ => k σ H L x (Same.refl _)
theorem pps_next (h1 : PP1 X ρ st (.next ρ1)) (h2 : PPs X ρ1 rest o) : PPs X ρ (st :: rest) o := by
  cases o with
  | ret d => exact (pss_cons h1 h2).imp fun D σ H ⟨H0, O0, L, x, k⟩ => ⟨H0, O0, L, x, fun σ' H' L' x' _ => ⟨H0, O0, L', x', k⟩⟩
  | next ρ2 => exact (pss_cons h1 h2).imp fun D σ H ⟨H0, O0, L, x, k⟩ => ⟨H0, O0, L, x, fun σ' H' L' x' s' => ⟨H0, O0, L', x', fun σ2 H2 L2 x2 s2 => k σ2 H2 L2 x2 (s'.trans s2)⟩⟩
theorem pps_ret (h1 : PP1 X ρ st (.ret d)) : PPs X ρ (st :: rest) (.ret d) := (pss_cons h1 pss_never).imp fun D σ H h => h
theorem pps_one (h1 : PP1 X ρ st o) : PPs X ρ [st] o := pss_one h1
theorem tO_to {K : PySem.W.Frag} {D : Ends} {σ : L2.St} {H H' H0 : Hp} {O0 L : List Addr} (x : SOk K ρ σ H H0 O0 L) (s : Same H H') (k : match o with
    | .ret d => ∀ v H', Same H0 H' → Rp K (hide H' O0) v d → D.rt v H'
    | .next ρ' => ∀ σ' H' L', SOk K ρ' σ' H' H0 O0 L' → Same (hide H (L ++ O0)) (hide H' (L' ++ O0)) → D.nx σ' H') : tO K ρ o D σ H' := by
  cases o with
  | ret d => exact ⟨H0, O0, L, x.to s, k⟩
  | next ρ' => exact ⟨H0, O0, L, x.to s, fun σ2 H2 L2 x2 s2 => k σ2 H2 L2 x2 ((hide_mono s).trans s2)⟩
theorem pp1_if {c : Expr} {a b : List Stmt} {t : Bool} (hc : PPt X ρ c t) (ha : t = true → PPs X ρ a o) (hb : t = false → PPs X ρ b o) : PP1 X ρ (.If c a b pos) o := by
  cases t with
  | true => exact (ps_if hc (ha rfl) pss_never).imp fun D σ H ⟨H0, O0, L, x, k⟩ => ⟨L ++ O0, x.dom, x.env, fun H' s => iteT (tO_to x s k)⟩
  | false => exact (ps_if hc pss_never (hb rfl)).imp fun D σ H ⟨H0, O0, L, x, k⟩ => ⟨L ++ O0, x.dom, x.env, fun H' s => iteF (tO_to x s k)⟩
theorem pp1_ret (h : PP X ρ e d) : PP1 X ρ (.Return (some e) pos) (.ret d) := (ps_ret h).imp fun D σ H ⟨H0, O0, L, x, k⟩ =>
  ⟨L ++ O0, x.dom, x.env, fun v H' s r => k v H' (x.s0.trans s) (r.to (hide_less fun b hb => List.mem_append.mpr (.inr hb)))⟩
theorem pp1_retOwn (i : Nat) {x : Str} {p : Pos} (hρ : ρ[i]? = some (.own ds)) (hN : X.N[i]? = some x := by rfl) (hv : Vis X.env.scope x := by first | exact Or.inl rfl | exact Or.inr (Or.inl rfl) | exact Or.inr (Or.inr rfl)) (hd : (x == ("__debug__" : Str)) = false := by decide)
    (hcd : (x == ("__classdict__" : Str)) = false := by decide) : PP1 X ρ (.Return (some (.Name x p)) pos) (.ret (.lst ds)) := (ps_ret (pe_var hN hv hd hcd)).imp fun D σ H ⟨H0, O0, L, x, k⟩ => by
  obtain ⟨a, xs, h1, h2, h3, h4⟩ := x.env.own i ds hρ
  exact ⟨_, h1, k _ H x.s0 (.lst (hide_of (x.d0.not (x.fr a (x.inL i ds a hρ h1))) h3) (h4.to (hide_less fun b hb => List.mem_append.mpr (.inr hb))))⟩
theorem SOk.set {K : PySem.W.Frag} {σ : L2.St} {H H0 : Hp} {O0 L : List Addr} {i : Nat} {v : V} (x : SOk K ρ σ H H0 O0 L) (r : Rp K (hide H (L ++ O0)) v d) : SOk K (ρ.set i (.val d)) (σ.set i (some v)) H H0 O0 L :=
  ⟨x.d0, x.s0, x.dL, x.fr, x.env.set r, fun j us a h1 h2 => by
    rcases set_get h1 with ⟨rfl, q⟩ | ⟨hj, h1⟩
    · cases q
    · rw [List.getElem?_set_ne (Ne.symm hj)] at h2
      exact x.inL j us a h1 h2⟩
theorem pp1_set (i : Nat) {x : Str} {pos' : Pos} (hN : X.N.Nodup) (he : PP X ρ e d) (hi : X.N[i]? = some x := by rfl) (hx : Loc X.env.scope x := by first | exact Or.inl rfl | exact Or.inr rfl) (hs : swapsWith e (some (.Name x pos')) pos.line X.env = pure false := by rfl)
    (hf : X.fn x = true ∨ X.env.scope.names.lookup x = some .local := by first | exact .inl rfl | exact .inr rfl) : PP1 X ρ (.Assign [.Name x pos'] e pos) (.next (ρ.set i (.val d))) :=
  (ps_set hN hi hx he hs hf).imp fun D σ H ⟨H0, O0, L, x, k⟩ => ⟨L ++ O0, x.dom, x.env, fun v H' s r => k _ H' L ((x.to s).set r) (hide_mono s)⟩
theorem SOk.setNew {K : PySem.W.Frag} {σ : L2.St} {H H' H0 : Hp} {O0 L : List Addr} {i : Nat} {a : Addr} {xs : List V} (x : SOk K ρ σ H H0 O0 L) (s : Same H H') (hn : H a = none) (he : H' a = some (.lst xs)) (r : RpAll K (hide H' (a :: (L ++ O0))) xs ds) :
    SOk K (ρ.set i (.own ds)) (σ.set i (some (.ref a))) H' H0 O0 (a :: L) :=
  ⟨x.d0, x.s0.trans s, (x.dL.to s).cons he, fun b hb => by
      rcases List.mem_cons.mp hb with rfl | hb
      · exact x.s0.free hn
      · exact x.fr b hb,
    (x.env.grow s hn).setOwn (by simp) he r fun j us h1 _ h2 => (by
      obtain ⟨o, q⟩ := x.dom a (by
        obtain ⟨b, _, e1, e2, _⟩ := x.env.own j us h1
        rw [h2] at e1
        cases e1
        exact e2)
      rw [hn] at q
      cases q),
    fun j us b h1 h2 => by
      rcases set_get h1 with ⟨rfl, q⟩ | ⟨hj, h1⟩
      · have hi : j < (σ.set j (some (V.ref a))).length := (List.getElem?_eq_some_iff.mp h2).1
        rw [List.length_set] at hi
        rw [List.getElem?_set_self hi] at h2
        cases h2
        simp
      · rw [List.getElem?_set_ne (Ne.symm hj)] at h2
        exact List.mem_cons_of_mem _ (x.inL j us b h1 h2)⟩
theorem pp1_own (i : Nat) {x : Str} {pos' : Pos} (hN : X.N.Nodup) (he : PPn X ρ e ds) (hi : X.N[i]? = some x := by rfl) (hx : Loc X.env.scope x := by first | exact Or.inl rfl | exact Or.inr rfl) (hs : swapsWith e (some (.Name x pos')) pos.line X.env = pure false := by rfl)
    (hf : X.fn x = true ∨ X.env.scope.names.lookup x = some .local := by first | exact .inl rfl | exact .inr rfl) : PP1 X ρ (.Assign [.Name x pos'] e pos) (.next (ρ.set i (.own ds))) :=
  (ps_set hN hi hx he hs hf).imp fun D σ H ⟨H0, O0, L, x, k⟩ => ⟨L ++ O0, x.dom, x.env, fun a xs H' s hn he r => k _ H' (a :: L) (x.setNew s hn he r) fun b o q => hide_of (by simp only [List.cons_append, List.mem_cons, not_or]; exact ⟨ne_of_none (hide_at q).2 hn, (hide_at q).1⟩) (s _ _ (hide_at q).2)⟩
theorem SOk.write {K : PySem.W.Frag} {σ : L2.St} {H H0 : Hp} {O0 L : List Addr} {i : Nat} {a : Addr} {ys : List V} (x : SOk K ρ σ H H0 O0 L) (h : ρ[i]? = some (.own ds)) (hs : σ[i]? = some (some (.ref a))) (r : RpAll K (hide H (L ++ O0)) ys us) :
    SOk K (ρ.set i (.own us)) σ (upd H a (.lst ys)) H0 O0 L := by
  have hL : a ∈ L := x.inL i ds a h hs
  refine ⟨x.d0, fun b o q => ?_, fun b m => ?_, x.fr, x.env.write h hs (List.mem_append.mpr (.inl hL)) r, fun j vs b h1 h2 => ?_⟩
  · have hb : b ≠ a := ne_of_none q (x.fr a hL)
    rw [upd_ne hb]
    exact x.s0 _ _ q
  · by_cases hb : b = a
    · subst hb
      exact ⟨_, upd_same⟩
    · obtain ⟨o, q⟩ := x.dL b m
      exact ⟨o, by rw [upd_ne hb]; exact q⟩
  · rcases set_get h1 with ⟨rfl, q⟩ | ⟨hj, h1⟩
    · exact x.inL j ds b h h2
    · exact x.inL j vs b h1 h2
theorem pp1_append (i : Nat) {x : Str} {p apos cpos : Pos} (hρ : ρ[i]? = some (.own ds)) (hl : ds.length < sizeLine) (he : PP X ρ e d) (hN : X.N[i]? = some x := by rfl) (hv : Vis X.env.scope x := by first | exact Or.inl rfl | exact Or.inr (Or.inl rfl) | exact Or.inr (Or.inr rfl))
    (hd : (x == ("__debug__" : Str)) = false := by decide) (hcd : (x == ("__classdict__" : Str)) = false := by decide) (hs : starEach [e] X.env = (false, eval e X.env) :: starEach [] X.env := by rfl)
    (hbase : attributeBase (.Name x p) "append" X.env (eval (.Name x p) X.env) = eval (.Name x p) X.env := by rfl)
    (hfew : ((backTo cpos (starEach [e] X.env)).all (fun x => !x.1) && (backToKw cpos (keywordEach [] X.env)).all (fun x => x.1.isSome)
      && decide (([e] : List Expr).length + ([] : List Keyword).length + (if ([] : List Keyword).isEmpty then 0 else 1) < 30)) = true := by rfl)
    (hline : (apos.endLine == cpos.line) = true := by rfl) (hplain : (backTo cpos (starEach [] X.env)).any (·.1) = false := by rfl)
    (hw : swapsWith (.Call (.Attribute (.Name x p) "append" apos) [e] [] cpos) none pos.line X.env = pure false := by rfl) :
    PP1 X ρ (.Expr (.Call (.Attribute (.Name x p) "append" apos) [e] [] cpos) pos) (.next (ρ.set i (.own (ds ++ [d])))) :=
  (ps_expr (pe_bm PySem.F.plainAttrs_list PySem.F.slot_list_append PySem.F.type_list_append mt_append (pe_var hN hv hd hcd) (pa_cons he pa_nil hs) hbase hfew hline hs hplain) hw).imp fun D σ H ⟨H0, O0, L, x, k⟩ => by
    obtain ⟨a, xs, h1, h2, h3, h4⟩ := x.env.own i ds hρ
    refine ⟨_, h1, .inl ⟨rfl, _, SqL.of h3⟩, L ++ O0, x.dom, x.env, fun v H' s r => ?_⟩
    refine ⟨a, xs, v, rfl, rfl, s _ _ h3, by rw [h4.length]; exact hl, ?_⟩
    exact k _ _ L ((x.to s).write hρ h1 ((h4.to (hide_mono s)).append (.cons r .nil))) (by rw [hide_upd h2]; exact hide_mono s)
theorem pp1_extend (i : Nat) {x : Str} {p apos cpos : Pos} (hρ : ρ[i]? = some (.own ds)) (hl : ds.length + us.length ≤ sizeLine) (he : PP X ρ e (.lst us)) (hN : X.N[i]? = some x := by rfl) (hv : Vis X.env.scope x := by first | exact Or.inl rfl | exact Or.inr (Or.inl rfl) | exact Or.inr (Or.inr rfl))
    (hd : (x == ("__debug__" : Str)) = false := by decide) (hcd : (x == ("__classdict__" : Str)) = false := by decide) (hs : starEach [e] X.env = (false, eval e X.env) :: starEach [] X.env := by rfl)
    (hbase : attributeBase (.Name x p) "extend" X.env (eval (.Name x p) X.env) = eval (.Name x p) X.env := by rfl)
    (hfew : ((backTo cpos (starEach [e] X.env)).all (fun x => !x.1) && (backToKw cpos (keywordEach [] X.env)).all (fun x => x.1.isSome)
      && decide (([e] : List Expr).length + ([] : List Keyword).length + (if ([] : List Keyword).isEmpty then 0 else 1) < 30)) = true := by rfl)
    (hline : (apos.endLine == cpos.line) = true := by rfl) (hplain : (backTo cpos (starEach [] X.env)).any (·.1) = false := by rfl)
    (hw : swapsWith (.Call (.Attribute (.Name x p) "extend" apos) [e] [] cpos) none pos.line X.env = pure false := by rfl) :
    PP1 X ρ (.Expr (.Call (.Attribute (.Name x p) "extend" apos) [e] [] cpos) pos) (.next (ρ.set i (.own (ds ++ us)))) :=
  (ps_expr (pe_bm PySem.F.plainAttrs_list PySem.F.slot_list_extend PySem.F.type_list_extend mt_extend (pe_var hN hv hd hcd) (pa_cons he pa_nil hs) hbase hfew hline hs hplain) hw).imp fun D σ H ⟨H0, O0, L, x, k⟩ => by
    obtain ⟨a, xs, h1, h2, h3, h4⟩ := x.env.own i ds hρ
    refine ⟨_, h1, .inl ⟨rfl, _, SqL.of h3⟩, L ++ O0, x.dom, x.env, fun v H' s r => ?_⟩
    obtain ⟨b, ys, rfl, e2, r2⟩ := r.lst_inv
    refine ⟨a, b, xs, ys, rfl, rfl, s _ _ h3, hide_sub _ _ e2, by rw [h4.length, r2.length]; exact hl, ?_⟩
    exact k _ _ L ((x.to s).write hρ h1 ((h4.to (hide_mono s)).append r2)) (by rw [hide_upd h2]; exact hide_mono s)
theorem SOk.tg {K : PySem.W.Frag} {g : TG} {vs : List Nat} {ρ ρ' : Rho} {d : Da} {σ : L2.St} {H H0 : Hp} {O0 L : List Addr} {x : V} {Q : L2.St → Hp → Prop} (ht : Tg K g vs ρ d ρ') (hv : ∀ (i : Nat) (ds : List Da), ρ'[i]? = some (.own ds) → i ∉ vs ∧ ρ[i]? = some (.own ds))
    (z : SOk K ρ σ H H0 O0 L) (r : Rp K (hide H (L ++ O0)) x d) (k : ∀ σ', SOk K ρ' σ' H H0 O0 L → Q σ' H) : g x σ H Q :=
  ht (L ++ O0) σ H x Q z.env r fun σ' h1 h2 h3 => k σ' ⟨z.d0, z.s0, z.dL, z.fr, h3, fun i ds a q1 q2 => by
    obtain ⟨m, q3⟩ := hv i ds q1
    rw [h1 i m] at q2
    exact z.inL i ds a q3 q2⟩
theorem pp1_for {tg iter : Expr} {body : List Stmt} {g : TG} {vs : List Nat} (ρs : Nat → Rho) (ρb : Nat → Rho) (hc : X.calm = true) (hp : PassesOwn (model X.prog X.w) X.A X.env X.xe) (h0 : ρs 0 = ρ) (hi : PPi X ρ tg iter ds) (hg : PG X tg g)
    (ht : ∀ (i : Nat) (d : Da), ds[i]? = some d → Tg X.K g vs (ρs i) d (ρb i)) (hv : ∀ (i j : Nat) (us : List Da), (ρb i)[j]? = some (.own us) → j ∉ vs ∧ (ρs i)[j]? = some (.own us))
    (hb : ∀ (i : Nat) (d : Da), ds[i]? = some d → PPs X (ρb i) body (.next (ρs (i + 1)))) (hs : ∀ x, foldedSetIterable iter X.env x = pure x := by intro _; rfl) : PP1 X ρ (.For tg iter body [] pos) (.next (ρs ds.length)) := by
  have hB : PSs X body (fun D σ H => ∃ i : { i // i < ds.length }, tO X.K (ρb i.1) (.next (ρs (i.1 + 1))) D σ H) := PSs.ex fun i => hb i.1 _ (List.getElem?_eq_getElem i.2)
  refine (ps_for hp hc hi hg hB hs).imp fun D σ H ⟨H0, O0, L, x, k⟩ => ⟨L ++ O0, x.dom, x.env, fun J H1 s1 it => ?_⟩
  refine ⟨fun n m σ' Hc => n + m = ds.length ∧ ∃ L', SOk X.K (ρs n) σ' Hc H0 O0 L' ∧ Same (hide H1 (L ++ O0)) (hide Hc (L' ++ O0)), ⟨ds.length, by omega, L, by rw [h0]; exact x.to s1, Same.refl _⟩, ?_⟩
  rintro n m σ' Hc ⟨hnm, L', xc, sc⟩
  obtain ⟨g1, g2, g3⟩ := it n Hc (L' ++ O0) xc.dom sc
  by_cases hn : n < ds.length
  · right
    refine ⟨g1 hn, fun σ2 H2 => n + 1 + (m - 1) = ds.length ∧ ∃ L', SOk X.K (ρs (n + 1)) σ2 H2 H0 O0 L' ∧ Same (hide H1 (L ++ O0)) (hide H2 (L' ++ O0)), fun σ2 H2 h => ⟨m - 1, by omega, h⟩, fun v H' hy => ?_⟩
    have hd := List.getElem?_eq_getElem hn
    obtain ⟨s2, rx⟩ := g3 v H' hy _ hd
    refine SOk.tg (ht n _ hd) (hv n) (xc.to s2) rx fun σ2 x2 => ⟨⟨n, hn⟩, H0, O0, L', x2, fun σ3 H3 L3 x3 s3 => ⟨by omega, L3, x3, (sc.trans (hide_mono s2)).trans s3⟩⟩
  · left
    have hnl : n = ds.length := by omega
    subst hnl
    exact ⟨g2 (Nat.le_refl _), k σ' Hc L' xc ((hide_mono s1).trans sc)⟩
theorem pp1_forRet {tg iter : Expr} {body : List Stmt} {g : TG} {vs : List Nat} {r : Da} (k : Nat) (ρs : Nat → Rho) (ρb : Nat → Rho) (hc : X.calm = true) (hp : PassesOwn (model X.prog X.w) X.A X.env X.xe) (h0 : ρs 0 = ρ) (hk : k < ds.length) (hi : PPi X ρ tg iter ds) (hg : PG X tg g)
    (ht : ∀ (i : Nat) (d : Da), i ≤ k → ds[i]? = some d → Tg X.K g vs (ρs i) d (ρb i)) (hv : ∀ (i j : Nat) (us : List Da), (ρb i)[j]? = some (.own us) → j ∉ vs ∧ (ρs i)[j]? = some (.own us))
    (hb : ∀ (i : Nat) (d : Da), i < k → ds[i]? = some d → PPs X (ρb i) body (.next (ρs (i + 1)))) (hr : PPs X (ρb k) body (.ret r)) (hs : ∀ x, foldedSetIterable iter X.env x = pure x := by intro _; rfl) : PP1 X ρ (.For tg iter body [] pos) (.ret r) := by
  have hB : PSs X body (fun D σ H => ∃ i : { i // i ≤ k }, tO X.K (ρb i.1) (if i.1 = k then .ret r else .next (ρs (i.1 + 1))) D σ H) := PSs.ex fun i => by
    by_cases e : i.1 = k
    · rw [if_pos e, e]
      exact hr
    · rw [if_neg e]
      exact hb i.1 _ (by have := i.2; omega) (List.getElem?_eq_getElem (by have := i.2; omega))
  refine (ps_for hp hc hi hg hB hs).imp fun D σ H ⟨H0, O0, L, x, q⟩ => ⟨L ++ O0, x.dom, x.env, fun J H1 s1 it => ?_⟩
  refine ⟨fun n m σ' Hc => n ≤ k ∧ n + m = ds.length ∧ ∃ L', SOk X.K (ρs n) σ' Hc H0 O0 L' ∧ Same (hide H1 (L ++ O0)) (hide Hc (L' ++ O0)), ⟨ds.length, by omega, by omega, L, by rw [h0]; exact x.to s1, Same.refl _⟩, ?_⟩
  rintro n m σ' Hc ⟨hnk, hnm, L', xc, sc⟩
  obtain ⟨g1, g2, g3⟩ := it n Hc (L' ++ O0) xc.dom sc
  have hn : n < ds.length := by omega
  right
  refine ⟨g1 hn, fun σ2 H2 => n + 1 ≤ k ∧ n + 1 + (m - 1) = ds.length ∧ ∃ L', SOk X.K (ρs (n + 1)) σ2 H2 H0 O0 L' ∧ Same (hide H1 (L ++ O0)) (hide H2 (L' ++ O0)), fun σ2 H2 h => ⟨m - 1, by omega, h⟩, fun v H' hy => ?_⟩
  have hd := List.getElem?_eq_getElem hn
  obtain ⟨s2, rx⟩ := g3 v H' hy _ hd
  refine SOk.tg (ht n _ hnk hd) (hv n) (xc.to s2) rx fun σ2 x2 => ⟨⟨n, hnk⟩, H0, O0, L', x2, ?_⟩
  by_cases e : n = k
  · rw [if_pos e]
    exact q
  · rw [if_neg e]
    exact fun σ3 H3 L3 x3 s3 => ⟨by omega, by omega, L3, x3, (sc.trans (hide_mono s2)).trans s3⟩
theorem pp1_setLc {α : Type} (i : Nat) {y : Str} {py spos : Pos} {elt tg iter : Expr} {ifs : List Expr} {scope : Scope} {own : List (Str × Nat)} {g : TG} {l : List α} {enc f : α → Da} {b : α → Bool} {ρ' : α → Rho} (c : LcOk X ρ elt tg iter ifs scope own g l enc f b ρ')
    (hsw : swapsWith (.ListComp elt [⟨tg, iter, ifs, 0⟩] scope pos) (some (.Name y py)) spos.line X.env = pure true) (hy : X.N[i]? = some y := by rfl) (hyl : X.env.scope.names.lookup y = some .local := by rfl) (hs : ∀ x, foldedSetIterable iter X.env x = pure x := by intro _; rfl) :
    PP1 X ρ (.Assign [.Name y py] (.ListComp elt [⟨tg, iter, ifs, 0⟩] scope pos) spos) (.next (ρ.set i (.val (.lst ((l.filter b).map f))))) :=
  (ps_setLc c.calm c.nd hy hyl hsw c.it c.ok c.pg (fun s H C cl fp => PTs.ex (t := fun (d : { d // d ∈ l }) => tPt X.K (ρ' d.1) (b d.1)) fun d => c.ts d.1 d.2 s H C cl fp) (fun s H C cl fp => PE.ex (t := fun (d : { d // d ∈ l ∧ b d = true }) => tP X.K (ρ' d.1) (f d.1)) fun d => c.el d.1 d.2.1 d.2.2 s H C cl fp) hs).imp fun D σ H ⟨H0, O0, L, x, k⟩ =>
    lc_read f b ρ' c.len c.tgo σ H _ ⟨L ++ O0, x.dom, x.env, fun a xs H' s hn e r => k _ H' L ((x.to s).set (.lst (hide_of (x.dom.not hn) e) (r.to (hide_less fun b hb => List.mem_cons_of_mem _ hb)))) (hide_mono s)⟩
end
def startR (N : List Str) (ds : List Da) : Rho := ds.map En.val ++ List.replicate (N.length - ds.length) En.no
section
variable {P : Program} {w : World} {K : PySem.W.Frag} {mg : Str → Option Value} {base : Heap}
theorem env_start {N : List Str} {vs : List V} {ds : List Da} {H : Hp} {O : List Addr} (r : RpAll K (hide H O) vs ds) : EnvOk K (startR N ds) (L2.start N vs) H O := by
  have hno : ∀ (i : Nat) (us : List Da), (startR N ds)[i]? ≠ some (.own us) := fun i us h => by
    unfold startR at h
    have m := List.mem_of_getElem? h
    rcases List.mem_append.mp m with m | m
    · obtain ⟨d, _, q⟩ := List.mem_map.mp m
      cases q
    · cases (List.mem_replicate.mp m).2
  refine ⟨by unfold startR L2.start; simp [r.length], fun i d h => ?_, fun i us h => absurd h (hno i us), fun i j us es a h => absurd h (hno i us)⟩
  unfold startR at h
  by_cases hi : i < ds.length
  · rw [List.getElem?_append_left (by simpa using hi), List.getElem?_map] at h
    obtain ⟨d', h1, h2⟩ := Option.map_eq_some_iff.mp h
    cases h2
    obtain ⟨v, e1, e2⟩ := r.get h1
    refine ⟨v, ?_, e2⟩
    unfold L2.start
    rw [List.getElem?_append_left (by rw [List.length_map, r.length]; exact hi), List.getElem?_map, e1]
    rfl
  · rw [List.getElem?_append_right (by simpa using hi)] at h
    have m := List.mem_of_getElem? h
    cases (List.mem_replicate.mp m).2
theorem fn_pure {R : List Da → Da → Prop} {x qual : Str} {st : Stmt} {f : Addr} {fd : FuncData} {N ps : List Str} {k : Nat} (F : Fun K x qual st f fd) (S : FnScope N ps (defScope st)) (len : ∀ ds d, R ds d → ds.length = ps.length)
    (body : ∀ ds d, R ds d → ∀ (cdv : Value) (A : Around) (outer : List Env) (s : Shared) (H : Hp) (E : XK), Room k (A.deeper (envOfC qual (defScope st) s.heap.objs.size f cdv)) →
      PPs (cxOf CX0 P w K mg base N qual (defScope st) f cdv A outer s H E).nox (startR N ds) (defBody st) (.ret d)) : FnOk P w K mg base CX0 (k + 1) f fd ps (SpF K R) := by
  refine F.ok S (fun vs H Q E h => ?_) (fun cdv A outer s H vs Q E hr h => ?_)
  · obtain ⟨O, ds, d, dom, r, hR, _⟩ := h
    rw [r.length]
    exact len ds d hR
  · obtain ⟨O, ds, d, dom, r, hR, k⟩ := h
    refine ⟨_, body ds d hR cdv A outer s H E hr, H, O, [], ⟨dom, Same.refl H, Dom.nil, fun a m => absurd m (by simp), env_start r, fun i us a h => ?_⟩, fun v H' s r => k v H' s r⟩
    unfold startR at h
    have m := List.mem_of_getElem? h
    rcases List.mem_append.mp m with m | m
    · obtain ⟨d, _, q⟩ := List.mem_map.mp m
      cases q
    · cases (List.mem_replicate.mp m).2
end
end PP

end

section
set_option Elab.async false
set_option linter.all false
set_option maxRecDepth 100000
namespace PP
open PySem PySem.Spec PyProof.Rows L2
section
variable {X : Cx} {ρ : Rho} {a b c e : Expr} {pos : Pos} {d dx dy : Da}
theorem cr_maxT (hc : X.calm = true) : CallR X (.builtin "max") (fun vs H Q => ∃ (a : Addr) (i j : Int), vs = [V.ref a] ∧ SqT X.K H a [.int i, .int j] ∧ Q (.int (max i j)) H) := by
  intro pins s σ H vs us Q I r h
  obtain ⟨a, i, j, rfl, hs, q⟩ := h
  obtain ⟨its, rv, hl, _⟩ := I.tuple hs
  obtain ⟨t, u, rfl⟩ := rv.int2
  rw [Vals.ref1 r]
  have hT : s.heap.IsTuple a (intItems #[(i, t), (j, u)]) := by
    obtain ⟨o, h1, h2, n, h3⟩ := hl
    exact ⟨o, h1, h2, n, by rw [h3]; simp [intItems]⟩
  refine DR.max_intTup (I.ok.hd hc) hT (by simp) fun v h' tk hv hk => ?_
  obtain ⟨t', rfl⟩ := intItems_at hv
  obtain ⟨h1, h2⟩ := argBest_gt (numAt #[(i, t), (j, u)]) (#[(i, t), (j, u)].size - 1)
  have e : numAt #[(i, t), (j, u)] (argBest (fun a b => decide (numAt #[(i, t), (j, u)] a > numAt #[(i, t), (j, u)] b)) (#[(i, t), (j, u)].size - 1)) = max i j := by
    have e0 : numAt #[(i, t), (j, u)] 0 = i := rfl
    have e1 : numAt #[(i, t), (j, u)] 1 = j := rfl
    have q0 := h2 0 (by simp)
    have q1 := h2 1 (by simp)
    rw [e0] at q0
    rw [e1] at q1
    have h1' : argBest (fun a b => decide (numAt #[(i, t), (j, u)] a > numAt #[(i, t), (j, u)] b)) (#[(i, t), (j, u)].size - 1) ≤ 1 := h1
    generalize argBest (fun a b => decide (numAt #[(i, t), (j, u)] a > numAt #[(i, t), (j, u)] b)) (#[(i, t), (j, u)].size - 1) = m at *
    have hm : m = 0 ∨ m = 1 := by omega
    rcases hm with rfl | rfl
    · rw [e0] at q0 q1 ⊢
      omega
    · rw [e1] at q0 q1 ⊢
      omega
  exact ⟨.int (max i j), H, I.kept hk, ⟨t', by rw [e]⟩, q⟩
theorem pp_maxT {p : Pos} {i j : Int} (hc : X.calm = true) (hm : X.mg "max" = none) (hv : bootBuiltins "max" = some (.builtin "max")) (ha : PP X ρ e (.tup [.int i, .int j])) (hg : Gl X "max" := by rfl) (he : starEach [e] X.env = (false, eval e X.env) :: starEach [] X.env := by rfl) (hpl : (backTo pos (starEach [] X.env)).any (·.1) = false := by rfl) :
    PP X ρ (.Call (.Name "max" p) [e] [] pos) (.int (max i j)) :=
  pp_callB (cr_maxT hc) hm hv (ppa_cons ha ppa_nil he) (fun O H vs Q dom r k => by
    cases r with
    | cons r1 r2 =>
      cases r2
      obtain ⟨a, xs, rfl, e, r⟩ := r1.tup_inv
      cases r with
      | cons x1 x2 =>
        cases x2 with
        | cons x2 x3 =>
          cases x3
          rw [x1.int_inv, x2.int_inv] at e
          exact ⟨a, i, j, rfl, SqT.of (hide_sub _ _ e), k _ H (Same.refl H) (.int _)⟩) hg (by decide) (by decide) he hpl
theorem pp_ifExp {t : Bool} (hc : PPt X ρ c t) (ha : t = true → PP X ρ a d) (hb : t = false → PP X ρ b d) : PP X ρ (.IfExp c a b pos) d := by
  cases t with
  | true => exact (pe_ifExp hc (ha rfl) pe_nev).imp fun σ H Q ⟨O, dom, env, k⟩ => ⟨O, dom, env, fun H' s => iteT ⟨O, dom.to s, env.to s, fun v H2 s2 r => k v H2 (s.trans s2) r⟩⟩
  | false => exact (pe_ifExp hc pe_nev (hb rfl)).imp fun σ H Q ⟨O, dom, env, k⟩ => ⟨O, dom, env, fun H' s => iteF ⟨O, dom.to s, env.to s, fun v H2 s2 r => k v H2 (s.trans s2) r⟩⟩
theorem at_item {α : Type} {xs : List α} {v : α} {i : Int} (j : Nat) (e : i = (j : Int)) (h : xs[j]? = some v) : L2.atI xs i = some v := by
  subst e
  unfold L2.atI
  have hj := (List.getElem?_eq_some_iff.mp h).1
  have : ixN xs.length (j : Int) = some j := by
    unfold ixN
    first | (rw [if_pos (by omega)]; simp [hj]) | (simp [hj]) | skip
  rw [this]
  exact h
theorem pp_t0 {j : Nat} {p : Pos} {d0 : Da} {ds : List Da} (ha : PP X ρ a (.tup (d0 :: ds))) : PP X ρ (.Subscript a (.Constant (.int 0) j p) pos) d0 := pp_ixT (at_item 0 rfl rfl) ha pp_int
theorem pp_t1 {j : Nat} {p : Pos} {d0 d1 : Da} {ds : List Da} (ha : PP X ρ a (.tup (d0 :: d1 :: ds))) : PP X ρ (.Subscript a (.Constant (.int 1) j p) pos) d1 := pp_ixT (at_item 1 rfl rfl) ha pp_int
theorem pp_l0 {j : Nat} {p : Pos} {d0 : Da} {ds : List Da} (ha : PP X ρ a (.lst (d0 :: ds))) : PP X ρ (.Subscript a (.Constant (.int 0) j p) pos) d0 := pp_ixL (at_item 0 rfl rfl) ha pp_int
theorem pp_l1 {j : Nat} {p : Pos} {d0 d1 : Da} {ds : List Da} (ha : PP X ρ a (.lst (d0 :: d1 :: ds))) : PP X ρ (.Subscript a (.Constant (.int 1) j p) pos) d1 := pp_ixL (at_item 1 rfl rfl) ha pp_int
theorem pps_ifRet {rest body : List Stmt} {t : Bool} (hc : PPt X ρ c t) (ha : t = true → PPs X ρ body (.ret d)) (hb : t = false → PPs X ρ rest (.ret d)) : PPs X ρ (.If c body [] pos :: rest) (.ret d) := by
  cases t with
  | true => exact pps_ret (pp1_if hc (fun _ => ha rfl) (fun h => by cases h))
  | false => exact pps_next (pp1_if hc (fun h => by cases h) (fun _ => pps_nil)) (hb rfl)
theorem pp_eq {d d' : Da} (h : PP X ρ e d') (q : d' = d) : PP X ρ e d := q ▸ h
theorem ppt_eq {t t' : Bool} (h : PPt X ρ e t') (q : t' = t) : PPt X ρ e t := q ▸ h
theorem bt_max : bootBuiltins "max" = some (.builtin "max") := by decide +kernel
theorem bt_min : bootBuiltins "min" = some (.builtin "min") := by decide +kernel
theorem bt_any : bootBuiltins "any" = some (.builtin "any") := by decide +kernel
theorem bt_all : bootBuiltins "all" = some (.builtin "all") := by decide +kernel
theorem bt_ord : bootBuiltins "ord" = some (.builtin "ord") := by decide +kernel
theorem bt_list : bootBuiltins "list" = some (.type "list") := by decide +kernel
theorem bt_zip : bootBuiltins "zip" = some (.type "zip") := by decide +kernel
theorem bt_set : bootBuiltins "set" = some (.type "set") := by decide +kernel
theorem bt_sorted : bootBuiltins "sorted" = some (.builtin "sorted") := by decide +kernel
end
end PP

end

section
set_option Elab.async false
set_option linter.all false
set_option maxRecDepth 100000
namespace PP
open PySem PySem.Spec PyProof.Rows L2
section
variable {X : Cx} {pins : List (Addr × Obj)} {σ : L2.St} {H H' : Hp} {s : Shared} {h' : Heap}
theorem inv_many {t' : Nat} (I : Inv X pins σ H s) (k : ∀ b u, s.heap.get? b = some u → h'.get? b = some u) (old : ∀ b, b < s.heap.objs.size → H' b = H b) (new : ∀ a o, s.heap.objs.size ≤ a → H' a = some o → ObjOk X.prog X.w H' h' a o) :
    Inv X pins σ H' { s with heap := h', toks := t' } := by
  have same : Same H H' := fun b o e => by
    rw [old b (I.hok.lt e)]
    exact e
  refine I.un ⟨fun b u q _ _ _ => k b u q, fun b u q _ _ _ => ⟨u.slots, k b u q⟩, fun b u q n _ => by rw [old b (Heap.lt_size q)]; exact n, fun b u q _ => ⟨u, k b u q⟩, fun b xs q => same _ _ q, fun b u xs q => same _ _ q, fun b ps q => ⟨#[], by rw [same _ _ q]; simp⟩⟩ fun a o e => ?_
  by_cases ha : a < s.heap.objs.size
  · rw [old a ha] at e
    exact (I.hok a o e).stay (fun c v _ q => k c v q) (fun c q => same _ _ q) fun c xs q => same _ _ q
  · exact new a o (Nat.not_lt.mp ha) e
end
section
variable {X : Cx} {ρ : Rho} {a b : Expr} {pos pos2 p p2 : Pos}
def tLZ (K : PySem.W.Frag) (ta : TA) : TE := fun σ H Q => ta σ H fun vs H1 => ∃ (l1 l2 : Addr) (xs ys : List V), vs = [.ref l1, .ref l2] ∧ SqL K H1 l1 xs ∧ SqL K H1 l2 ys ∧
  ∀ (S : Addr) (ts : List Addr) (H2 : Hp), Same H1 H2 → H1 S = none → H2 S = some (.lst (ts.map V.ref)) → ts.length = min xs.length ys.length →
    (∀ (j : Nat) (t : Addr), ts[j]? = some t → H1 t = none ∧ ∃ x y, xs[j]? = some x ∧ ys[j]? = some y ∧ H2 t = some (.tup [x, y])) → Q (.ref S) H2
theorem vals_get : ∀ {xs : List V} {us : List Value} {j : Nat} {u : Value}, Vals xs us → us[j]? = some u → ∃ x, xs[j]? = some x ∧ RelV x u
  | _, _, j, u, .nil, e => by simp at e
  | _, _, 0, u, .cons r _, e => by
    have e : _ = u := Option.some.inj e
    subst e
    exact ⟨_, rfl, r⟩
  | _, _, j + 1, u, .cons _ rs, e => by
    obtain ⟨x, h1, h2⟩ := vals_get (j := j) rs (by simpa using e)
    exact ⟨x, by simpa using h1, h2⟩
theorem vals_refs : ∀ (ts : List Addr), Vals (ts.map V.ref) (ts.map Value.ref)
  | [] => .nil
  | t :: ts => .cons rfl (vals_refs ts)
theorem pe_listZip {ta : TA} (hc : X.calm = true) (hm : X.mg "list" = none) (hm2 : X.mg "zip" = none) (ha : PA X [a, b] ta) (hg : Gl X "list" := by rfl) (hg2 : Gl X "zip" := by rfl)
    (hs : starEach [Expr.Call (.Name "zip" p2) [a, b] [] pos2] X.env = (false, eval (.Call (.Name "zip" p2) [a, b] [] pos2) X.env) :: starEach [] X.env := by rfl)
    (he : starEach [a, b] X.env = (false, eval a X.env) :: starEach [b] X.env := by rfl) (hpl : (backTo pos2 (starEach [b] X.env)).any (·.1) = false := by rfl) :
    PE X (.Call (.Name "list" p) [.Call (.Name "zip" p2) [a, b] [] pos2] [] pos) (tLZ X.K ta) := by
  intro pins s σ H Q I h
  refine wpAny_Call_Name_kw (ld_blt I hg hm bt_list ?_)
  refine PyProof.Rows.callWith_type1 ?_ hs rfl
  rw [hs]
  show wpAny _ _ (spliced ((false, eval _ X.env) :: backTo pos (starEach [] X.env))) _ _ s
  refine Calls.spliced_cons ?_
  refine wpAny_Call_Name_kw (ld_blt I hg2 hm2 bt_zip ?_)
  refine PyProof.Rows.callWith_type1 (thn (ha pos2 pins s σ H _ I h) fun us s1 ⟨vs, H1, I1, r1, q1⟩ => ?_) he hpl
  obtain ⟨l1, l2, xs, ys, rfl, hx, hy, q⟩ := q1
  cases r1 with
  | cons r1 rr =>
    cases rr with
    | cons r2 rr =>
      cases rr
      cases r1
      cases r2
      obtain ⟨its1, rv1, p1, hz1⟩ := I1.list hx
      obtain ⟨its2, rv2, p2, hz2⟩ := I1.list hy
      have L1 := p1.isList
      have L2 := p2.isList
      have lt1 : l1 < s1.heap.objs.size := by obtain ⟨_, e, _⟩ := L1; exact Heap.lt_size e
      have lt2 : l2 < s1.heap.objs.size := by obtain ⟨_, e, _⟩ := L2; exact Heap.lt_size e
      refine call_zip_2 L1 L2 fun h1 z1 z2 z3 z4 z5 z6 z7 => ?_
      refine Calls.spliced_nil ?_
      have e1 := rv1.length
      have e2 := rv2.length
      refine ZL.list_of_zip (xs := its1.toArray) (ys := its2.toArray) (I1.ok.hd hc) (zipApart_new lt1 lt2) z1 ⟨.inl ⟨rfl, z1, z3⟩, z2, z4, z5, L1.at fun o e => z7 _ o e, L2.at fun o e => z7 _ o e, _, z3⟩ (by simp only [List.size_toArray]; omega) fun h2 acc c hk hS P => ?_
      have hS' : h2.get? (s1.heap.objs.size + 5) = some { cls := .type "list", dict := none, data := .seq acc c, slots := #[] } := by rw [← z6]; exact hS
      have P' : ZL.Pairs h2 (s1.heap.objs.size + 6) its1.toArray its2.toArray acc (min its1.toArray.size its2.toArray.size) := by
        have : h1.objs.size + 1 = s1.heap.objs.size + 6 := by rw [z6]
        rw [← this]
        exact P
      clear hS P
      have hn : acc.size = min xs.length ys.length := by
        rw [P'.len]
        simp only [List.size_toArray]
        omega
      let ts : List Addr := (List.range acc.size).map fun j => s1.heap.objs.size + 6 + j
      let H2 : Hp := fun b => if b < s1.heap.objs.size then H1 b else if b = s1.heap.objs.size + 5 then some (.lst (ts.map V.ref)) else
        if s1.heap.objs.size + 6 ≤ b ∧ b < s1.heap.objs.size + 6 + acc.size then (match xs[b - (s1.heap.objs.size + 6)]?, ys[b - (s1.heap.objs.size + 6)]? with
          | some x, some y => some (.tup [x, y])
          | _, _ => none) else none
      have kp : ∀ b u, s1.heap.get? b = some u → h2.get? b = some u := fun b u e => by
        have lb := Heap.lt_size e
        have ge : ∀ {n : Nat}, b ≠ s1.heap.objs.size + n := fun {n} q => absurd lb (by rw [q]; exact Nat.not_lt.mpr (Nat.le_add_right _ _))
        exact hk b u ge ge (ge (n := 0)) ge (z7 b u e)
      have tj : ∀ (j : Nat), j < acc.size → ∃ x y ux uy, xs[j]? = some x ∧ ys[j]? = some y ∧ its1[j]? = some ux ∧ its2[j]? = some uy ∧ RelV x ux ∧ RelV y uy ∧ acc[j]? = some (.ref (s1.heap.objs.size + 6 + j)) ∧ IsPair h2 (s1.heap.objs.size + 6 + j) ux uy := fun j hj => by
        obtain ⟨ux, uy, c1, c2, c3, c4⟩ := P'.at_ j (by rw [P'.len] at hj; exact hj)
        rw [List.getElem?_toArray] at c2 c3
        obtain ⟨x, d1, d2⟩ := vals_get rv1 c2
        obtain ⟨y, d3, d4⟩ := vals_get rv2 c3
        exact ⟨x, y, ux, uy, d1, d3, c2, c3, d2, d4, c1, c4⟩
      have H2t : ∀ (j : Nat) (x y : V), j < acc.size → xs[j]? = some x → ys[j]? = some y → H2 (s1.heap.objs.size + 6 + j) = some (.tup [x, y]) := fun j x y hj hx hy => by
        show (if _ then _ else _) = _
        rw [if_neg (Nat.not_lt.mpr (by rw [Nat.add_assoc]; exact Nat.le_add_right _ _)), if_neg (fun q => absurd q (by rw [Nat.add_assoc]; intro q; have := Nat.add_left_cancel q; omega)), if_pos ⟨Nat.le_add_right _ _, Nat.add_lt_add_left hj _⟩, Nat.add_sub_cancel_left, hx, hy]
      have I2 : Inv X pins σ H2 { s1 with heap := h2, toks := s1.toks } := by
        refine inv_many I1 kp (fun b hb => if_pos hb) fun a o ha e => ?_
        have e' : (if a = s1.heap.objs.size + 5 then some (.lst (ts.map V.ref)) else
          if s1.heap.objs.size + 6 ≤ a ∧ a < s1.heap.objs.size + 6 + acc.size then (match xs[a - (s1.heap.objs.size + 6)]?, ys[a - (s1.heap.objs.size + 6)]? with
            | some x, some y => some (.tup [x, y])
            | _, _ => none) else none) = some o := by
          have : H2 a = _ := if_neg (Nat.not_lt.mpr ha)
          rw [this] at e
          exact e
        by_cases c1 : a = s1.heap.objs.size + 5
        · rw [if_pos c1] at e'
          cases e'
          subst c1
          refine ⟨by rw [List.length_map, List.length_map, List.length_range, hn]; omega, ts.map Value.ref, c, vals_refs ts, ?_⟩
          rw [hS']
          have : acc = (ts.map Value.ref).toArray := by
            apply Array.ext_getElem?
            intro j
            show acc[j]? = ((List.map Value.ref ts).toArray)[j]?
            have er : ((List.map Value.ref ts).toArray)[j]? = (List.range acc.size)[j]?.map fun j => Value.ref (s1.heap.objs.size + 6 + j) := by
              show ((List.map Value.ref ((List.range acc.size).map fun j => s1.heap.objs.size + 6 + j)).toArray)[j]? = _
              rw [List.getElem?_toArray, List.map_map, List.getElem?_map]
              rfl
            rw [er]
            by_cases hj : j < acc.size
            · obtain ⟨_, _, _, _, _, _, _, _, _, _, w, _⟩ := tj j hj
              rw [w, List.getElem?_range hj]
              rfl
            · rw [Array.getElem?_eq_none (by omega), List.getElem?_eq_none (by rw [List.length_range]; omega)]
              rfl
          rw [this]
        · rw [if_neg c1] at e'
          by_cases c2 : s1.heap.objs.size + 6 ≤ a ∧ a < s1.heap.objs.size + 6 + acc.size
          · rw [if_pos c2] at e'
            obtain ⟨j, rfl⟩ : ∃ j, a = s1.heap.objs.size + 6 + j := ⟨a - (s1.heap.objs.size + 6), (Nat.add_sub_cancel' c2.1).symm⟩
            have hj : j < acc.size := Nat.lt_of_add_lt_add_left c2.2
            obtain ⟨x, y, ux, uy, d1, d2, d3, d4, d5, d6, d7, d8⟩ := tj j hj
            rw [Nat.add_sub_cancel_left, d1, d2] at e'
            cases e'
            exact ⟨(by show 2 ≤ sizeLine; decide), [ux, uy], .cons d5 (.cons d6 .nil), ⟨_, d8, rfl, _, rfl⟩⟩
          · rw [if_neg c2] at e'
            cases e'
      have hSs : h1.objs.size = s1.heap.objs.size + 5 := z6
      show EP X pins σ Q (.ref h1.objs.size) _
      rw [hSs]
      have nf : ∀ n, H1 (s1.heap.objs.size + n) = none := fun n => I1.hok.fresh (Nat.le_add_right _ _)
      refine ⟨.ref (s1.heap.objs.size + 5), H2, I2, rfl, q _ ts H2 (fun b o e => ?_) (nf 5) ?_ (by rw [List.length_map, List.length_range, hn]) fun j t ht => ?_⟩
      · show (if _ then _ else _) = _
        rw [if_pos (I1.hok.lt e)]
        exact e
      · show (if _ then _ else _) = _
        rw [if_neg (Nat.not_lt.mpr (Nat.le_add_right _ _)), if_pos rfl]
      · rw [List.getElem?_map] at ht
        obtain ⟨j', hj', rfl⟩ := Option.map_eq_some_iff.mp ht
        obtain ⟨g1, g2⟩ := List.getElem?_eq_some_iff.mp hj'
        rw [List.getElem_range] at g2
        subst g2
        rw [List.length_range] at g1
        obtain ⟨x, y, ux, uy, d1, d2, _⟩ := tj j g1
        exact ⟨by rw [Nat.add_assoc]; exact nf _, x, y, d1, d2, H2t j x y g1 d1 d2⟩
end
end PP

end

section
set_option Elab.async false
set_option linter.all false
set_option maxRecDepth 100000
namespace PP
open PySem PySem.Spec PyProof.Rows L2
section
variable {K : PySem.W.Frag} {H : Hp}
theorem RpAll.mk : ∀ {vs : List V} {ds : List Da}, vs.length = ds.length → (∀ (j : Nat) (v : V) (d : Da), vs[j]? = some v → ds[j]? = some d → Rp K H v d) → RpAll K H vs ds
  | [], [], _, _ => .nil
  | [], _ :: _, h, _ => by cases h
  | _ :: _, [], h, _ => by cases h
  | v :: vs, d :: ds, h, r => .cons (r 0 v d rfl rfl) (RpAll.mk (by simpa using h) fun j v' d' h1 h2 => r (j + 1) v' d' (by simpa using h1) (by simpa using h2))
theorem RpAll.snoc_inv {vs : List V} {ds : List Da} {d : Da} (h : RpAll K H vs (ds ++ [d])) : ∃ ys y, vs = ys ++ [y] ∧ RpAll K H ys ds ∧ Rp K H y d := by
  have hl := h.length
  have hn : vs ≠ [] := fun q => by rw [q] at hl; simp at hl
  obtain ⟨ys, y, rfl⟩ : ∃ ys y, vs = ys ++ [y] := ⟨vs.dropLast, vs.getLast hn, (List.dropLast_concat_getLast hn).symm⟩
  have hl' : ys.length = ds.length := by simpa using hl
  refine ⟨ys, y, rfl, ?_, ?_⟩
  · have := h.take ys.length
    rw [List.take_left, hl', List.take_left] at this
    exact this
  · obtain ⟨d', h1, h2⟩ := h.getV (i := ys.length) (v := y) (by simp)
    rw [hl'] at h1
    simp at h1
    exact h1 ▸ h2
end
section
variable {X : Cx} {ρ : Rho} {a b e : Expr} {pos pos2 p p2 : Pos} {ds us : List Da}
theorem pp_listZip (hc : X.calm = true) (hm : X.mg "list" = none) (hm2 : X.mg "zip" = none) (ha : PP X ρ a (.lst ds)) (hb : PP X ρ b (.lst us)) (hg : Gl X "list" := by rfl) (hg2 : Gl X "zip" := by rfl)
    (hs : starEach [Expr.Call (.Name "zip" p2) [a, b] [] pos2] X.env = (false, eval (.Call (.Name "zip" p2) [a, b] [] pos2) X.env) :: starEach [] X.env := by rfl)
    (he : starEach [a, b] X.env = (false, eval a X.env) :: starEach [b] X.env := by rfl) (he2 : starEach [b] X.env = (false, eval b X.env) :: starEach [] X.env := by rfl) (hpl : (backTo pos2 (starEach [b] X.env)).any (·.1) = false := by rfl) :
    PP X ρ (.Call (.Name "list" p) [.Call (.Name "zip" p2) [a, b] [] pos2] [] pos) (.lst ((ds.zip us).map fun q => .tup [q.1, q.2])) :=
  (pe_listZip hc hm hm2 (ppa_cons ha (ppa_cons hb ppa_nil he2) he) hg hg2 hs he hpl).imp fun σ H Q ⟨O, dom, env, k⟩ => ⟨O, dom, env, fun vs H1 s1 r => by
    cases r with
    | cons r1 r2 =>
      cases r2 with
      | cons r2 r3 =>
        cases r3
        obtain ⟨l1, xs, rfl, e1, q1⟩ := r1.lst_inv
        obtain ⟨l2, ys, rfl, e2, q2⟩ := r2.lst_inv
        refine ⟨l1, l2, xs, ys, rfl, SqL.of (hide_sub _ _ e1), SqL.of (hide_sub _ _ e2), fun S ts H2 s2 hS hS2 hl ht => k _ H2 (s1.trans s2) (.lst (hide_of ((dom.to s1).not hS) hS2) ?_)⟩
        refine RpAll.mk (by simp [hl, q1.length, q2.length]) fun j v d hv hd => ?_
        rw [List.getElem?_map] at hv hd
        obtain ⟨t, ht', rfl⟩ := Option.map_eq_some_iff.mp hv
        obtain ⟨pr, hpr, rfl⟩ := Option.map_eq_some_iff.mp hd
        obtain ⟨tn, x, y, hx, hy, hH⟩ := ht j t ht'
        obtain ⟨d1, f1, g1⟩ := q1.getV hx
        obtain ⟨d2, f2, g2⟩ := q2.getV hy
        rw [List.getElem?_zip_eq_some] at hpr
        obtain ⟨c1, c2⟩ := hpr
        rw [f1] at c1
        rw [f2] at c2
        cases c1
        cases c2
        exact .tup (hide_of ((dom.to s1).not tn) hH) (.cons (g1.to (hide_mono s2)) (.cons (g2.to (hide_mono s2)) .nil))⟩
def tLR (ta : TA) : TE := fun σ H Q => ta σ H fun vs H1 => ∃ i j : Int, vs = [.int i, .int j] ∧ (-(2 ^ 62) ≤ i ∧ i < 2 ^ 62 ∧ -(2 ^ 62) ≤ j ∧ j < 2 ^ 62) ∧ (j - i).toNat ≤ 2 ^ 20 ∧
  ∀ l, H1 l = none → Q (.ref l) (upd H1 l (.lst ((List.range (j - i).toNat).map fun (k : Nat) => V.int (i + (k : Int)))))
theorem vals_of_items : ∀ {acc : Array Value} {n : Nat} {f : Nat → Int}, ItemsOf (fun i v => ∃ t, v = .int (f i) t) acc n → Vals ((List.range n).map fun (k : Nat) => V.int (f k)) acc.toList := by
  intro acc n f h
  have key : ∀ (l : List Value) (m : Nat), (∀ (j : Nat) (v : Value), l[j]? = some v → ∃ t, v = Value.int (f (m + j)) t) → Vals ((List.range' m l.length).map fun (k : Nat) => V.int (f k)) l := by
    intro l
    induction l with
    | nil => intro m _; exact .nil
    | cons x l ih =>
      intro m hl
      rw [List.length_cons, List.range'_succ, List.map_cons]
      refine .cons ?_ (ih (m + 1) fun j v hv => ?_)
      · obtain ⟨t, ht⟩ := hl 0 x rfl
        exact ⟨t, by simpa using ht⟩
      · obtain ⟨t, ht⟩ := hl (j + 1) v (by simpa using hv)
        exact ⟨t, by rw [ht]; congr 2; omega⟩
  have := key acc.toList 0 fun j v hv => by
    rw [Array.getElem?_toList] at hv
    obtain ⟨t, ht⟩ := h.2 j v hv
    exact ⟨t, by rw [ht]; simp⟩
  rw [Array.length_toList, h.1, ← List.range_eq_range'] at this
  exact this
theorem pe_listRange {ta : TA} (hc : X.calm = true) (hm : X.mg "list" = none) (hm2 : X.mg "range" = none) (ha : PA X [a, b] ta) (hg : Gl X "list" := by rfl) (hg2 : Gl X "range" := by rfl)
    (hs : starEach [Expr.Call (.Name "range" p2) [a, b] [] pos2] X.env = (false, eval (.Call (.Name "range" p2) [a, b] [] pos2) X.env) :: starEach [] X.env := by rfl)
    (he : starEach [a, b] X.env = (false, eval a X.env) :: starEach [b] X.env := by rfl) (hpl : (backTo pos2 (starEach [b] X.env)).any (·.1) = false := by rfl) :
    PE X (.Call (.Name "list" p) [.Call (.Name "range" p2) [a, b] [] pos2] [] pos) (tLR ta) := by
  intro pins s σ H Q I h
  refine wpAny_Call_Name_kw (ld_blt I hg hm bt_list ?_)
  refine PyProof.Rows.callWith_type1 ?_ hs rfl
  rw [hs]
  show wpAny _ _ (spliced ((false, eval _ X.env) :: backTo pos (starEach [] X.env))) _ _ s
  refine Calls.spliced_cons ?_
  refine wpAny_Call_Name_kw (ld_blt I hg2 hm2 boot_range ?_)
  refine PyProof.Rows.callWith_type1 (thn (ha pos2 pins s σ H _ I h) fun vs' s1 ⟨vs, H1, I1, r1, q1⟩ => ?_) he hpl
  obtain ⟨i, j, rfl, ⟨b1, b2, b3, b4⟩, hn, q⟩ := q1
  cases r1 with
  | cons r1 rr =>
    cases rr with
    | cons r2 rr =>
      cases rr
      obtain ⟨t, rfl⟩ := r1
      obtain ⟨t', rfl⟩ := r2
      refine call_range_2 ?_
      refine Calls.spliced_nil ?_
      have hsz : Builtin.Range.rangeSize i j 1 = (((j - i).toNat : Nat) : Int) := by rw [rangeSize_one]; split <;> omega
      refine call_list_range (n := (j - i).toNat) (I1.ok.hd hc) (IsRange.new ..) (small_one b1 b2 b3 b4) hsz (by omega) fun h' tk acc c hk hS it => ?_
      have I2 : Inv X pins σ H1 { s1 with heap := s1.heap.push { cls := .type "range", data := .fields #[.int i t, .int j t', .int 1 s1.toks] }, toks := s1.toks + 1 } := I1.kept fun b o e => Heap.get?_push_of_some _ e
      have it' : ItemsOf (fun k v => ∃ t, v = .int (i + (k : Int)) t) acc (j - i).toNat := ⟨it.1, fun k v hv => by
        obtain ⟨t, ht⟩ := it.2 k v hv
        exact ⟨t, by rw [ht, Int.mul_one]⟩⟩
      refine ⟨.ref _, _, I2.laid (t' := tk) hk (Nat.le_refl _) (show ObjOk X.prog X.w _ h' _ (.lst _) from ⟨?_, acc.toList, c, vals_of_items it', ?_⟩), rfl, q _ (I2.hok.fresh (Nat.le_refl _))⟩
      · rw [List.length_map, List.length_range]
        exact Nat.le_trans hn (by decide)
      · simpa using hS
theorem pp_listRange {i j : Int} (hc : X.calm = true) (hm : X.mg "list" = none) (hm2 : X.mg "range" = none) (hb : -(2 ^ 62) ≤ i ∧ i < 2 ^ 62 ∧ -(2 ^ 62) ≤ j ∧ j < 2 ^ 62) (hn : (j - i).toNat ≤ 2 ^ 20) (ha : PP X ρ a (.int i)) (hb' : PP X ρ b (.int j)) (hg : Gl X "list" := by rfl) (hg2 : Gl X "range" := by rfl)
    (hs : starEach [Expr.Call (.Name "range" p2) [a, b] [] pos2] X.env = (false, eval (.Call (.Name "range" p2) [a, b] [] pos2) X.env) :: starEach [] X.env := by rfl)
    (he : starEach [a, b] X.env = (false, eval a X.env) :: starEach [b] X.env := by rfl) (he2 : starEach [b] X.env = (false, eval b X.env) :: starEach [] X.env := by rfl) (hpl : (backTo pos2 (starEach [b] X.env)).any (·.1) = false := by rfl) :
    PP X ρ (.Call (.Name "list" p) [.Call (.Name "range" p2) [a, b] [] pos2] [] pos) (.lst (upFrom i (j - i).toNat)) :=
  (pe_listRange hc hm hm2 (ppa_cons ha (ppa_cons hb' ppa_nil he2) he) hg hg2 hs he hpl).imp fun σ H Q ⟨O, dom, env, k⟩ => ⟨O, dom, env, fun vs H1 s1 r => by
    cases r with
    | cons r1 r2 =>
      cases r2 with
      | cons r2 r3 =>
        cases r3
        refine ⟨i, j, by rw [r1.int_inv, r2.int_inv], hb, hn, fun l hl => k _ _ (s1.trans (same_upd hl)) (.lst (seen_new (dom.to s1) hl) ?_)⟩
        unfold upFrom
        have := RpAll.of_ints (K := X.K) (H := hide (upd H1 l (.lst ((List.range (j - i).toNat).map fun (k : Nat) => V.int (i + (k : Int))))) O) ((List.range (j - i).toNat).map fun (k : Nat) => i + (k : Int))
        rw [List.map_map, List.map_map] at this
        exact this⟩
end
section
variable {X : Cx} {ρ : Rho} {ds : List Da} {d : Da}
theorem pp1_pop (i j : Nat) {x y : Str} {p py pos apos cpos : Pos} (nd : X.N.Nodup) (hρ : ρ[i]? = some (.own (ds ++ [d]))) (hN : X.N[i]? = some x := by rfl) (hv : Vis X.env.scope x := by first | exact Or.inl rfl | exact Or.inr (Or.inl rfl) | exact Or.inr (Or.inr rfl))
    (hd : (x == ("__debug__" : Str)) = false := by decide) (hcd : (x == ("__classdict__" : Str)) = false := by decide) (hj : X.N[j]? = some y := by rfl) (hy : Loc X.env.scope y := by first | exact Or.inl rfl | exact Or.inr rfl)
    (hbase : attributeBase (.Name x p) "pop" X.env (eval (.Name x p) X.env) = eval (.Name x p) X.env := by rfl) (hline : (apos.endLine == cpos.line) = true := by rfl)
    (hs : swapsWith (.Call (.Attribute (.Name x p) "pop" apos) [] [] cpos) (some (.Name y py)) pos.line X.env = pure false := by rfl) (hf : X.fn y = true ∨ X.env.scope.names.lookup y = some .local := by first | exact .inl rfl | exact .inr rfl) :
    PP1 X ρ (.Assign [.Name y py] (.Call (.Attribute (.Name x p) "pop" apos) [] [] cpos) pos) (.next ((ρ.set i (.own ds)).set j (.val d))) :=
  (ps_set nd hj hy (pe_bm0 PySem.F.plainAttrs_list PySem.F.slot_list_pop PySem.F.type_list_pop mt_pop (pe_var hN hv hd hcd) hbase hline) hs hf).imp fun D σ H ⟨H0, O0, L, x, k⟩ => by
    obtain ⟨a, xs, h1, h2, h3, h4⟩ := x.env.own i _ hρ
    obtain ⟨ys, y', rfl, r1, r2⟩ := h4.snoc_inv
    refine ⟨_, h1, .inl ⟨rfl, _, SqL.of h3⟩, a, ys ++ [y'], y', rfl, rfl, h3, by simp, ?_⟩
    rw [List.dropLast_concat]
    have w := x.write (us := ds) hρ h1 r1
    exact k _ _ L (w.set (by rw [hide_upd h2]; exact r2)) (by rw [hide_upd h2]; exact Same.refl _)
end
end PP

end

section
set_option Elab.async false
set_option linter.all false
set_option maxRecDepth 100000
namespace PP
open PySem PySem.Spec PyProof.Rows L2
section
variable {X : Cx} {ρ ρ' : Rho} {st : Stmt} {sts : List Stmt} {d : Da}
theorem EnvOk.weak {K : PySem.W.Frag} {σ : L2.St} {H : Hp} {O : List Addr} (i : Nat) (e : EnvOk K ρ σ H O) : EnvOk K (ρ.set i .no) σ H O where
  len := by rw [List.length_set]; exact e.len
  val := fun j d' h => by
    rcases set_get h with ⟨rfl, q⟩ | ⟨hj, h⟩
    · cases q
    · exact e.val j d' h
  own := fun j ds h => by
    rcases set_get h with ⟨rfl, q⟩ | ⟨hj, h⟩
    · cases q
    · exact e.own j ds h
  inj := fun j k ds es a h1 h2 h3 h4 => by
    rcases set_get h1 with ⟨rfl, q⟩ | ⟨hj, h1⟩
    · cases q
    rcases set_get h2 with ⟨rfl, q⟩ | ⟨hk, h2⟩
    · cases q
    exact e.inj j k ds es a h1 h2 h3 h4
theorem SOk.weak {K : PySem.W.Frag} {σ : L2.St} {H H0 : Hp} {O0 L : List Addr} (i : Nat) (x : SOk K ρ σ H H0 O0 L) : SOk K (ρ.set i .no) σ H H0 O0 L :=
  ⟨x.d0, x.s0, x.dL, x.fr, x.env.weak i, fun j ds a h1 h2 => by
    rcases set_get h1 with ⟨rfl, q⟩ | ⟨hj, h1⟩
    · cases q
    · exact x.inL j ds a h1 h2⟩
theorem pps_weak (i : Nat) (h : PPs X ρ sts (.next ρ')) : PPs X ρ sts (.next (ρ'.set i .no)) := h.imp fun D σ H ⟨H0, O0, L, x, k⟩ => ⟨H0, O0, L, x, fun σ' H' L' x' s' => k σ' H' L' (x'.weak i) s'⟩
theorem pps_eq {o o' : Out} (h : PPs X ρ sts o) (e : o = o') : PPs X ρ sts o' := e ▸ h
theorem pp1_eq {o o' : Out} (h : PP1 X ρ st o) (e : o = o') : PP1 X ρ st o' := e ▸ h
theorem ppi_eq {tg e : Expr} {ds us : List Da} (h : PPi X ρ tg e ds) (q : ds = us) : PPi X ρ tg e us := q ▸ h
end
section
variable {X : Cx} {ρ : Rho}
theorem lc_pairIf {α : Type} (i j : Nat) {x y : Str} {px py tp : Pos} {kt : Nat} {elt iter c : Expr} {scope : Scope} {l : List α} {e1 e2 f : α → Da} {b : α → Bool} (calm : X.calm = true) (nd : X.N.Nodup) (ok : BlkOk X.N X.env.scope scope [(x, i), (y, j)]) (len : l.length ≤ sizeLine)
    (it : PPi X ρ (.Tuple [.Name x px, .Name y py] kt tp) iter (l.map fun d => .tup [e1 d, e2 d]))
    (ts : ∀ d ∈ l, ∀ (s : Shared) (H : Hp) (C : Addr) (cl : List (Str × Addr)) (fp : List Addr), PPt (X.blk s H scope (compEnvC scope cl C X.env) fp) (((wipeR ρ [i, j]).set i (.val (e1 d))).set j (.val (e2 d))) c (b d))
    (el : ∀ d ∈ l, b d = true → ∀ (s : Shared) (H : Hp) (C : Addr) (cl : List (Str × Addr)) (fp : List Addr), PP (X.blk s H scope (compEnvC scope cl C X.env) fp) (((wipeR ρ [i, j]).set i (.val (e1 d))).set j (.val (e2 d))) elt (f d))
    (hi : X.N[i]? = some x := by rfl) (hj : X.N[j]? = some y := by rfl)
    (hx : ∀ (s : Shared) (H : Hp) (C : Addr) (cl : List (Str × Addr)) (fp : List Addr), Loc (X.blk s H scope (compEnvC scope cl C X.env) fp).env.scope x := by exact fun _ _ _ _ _ => Or.inl rfl)
    (hy : ∀ (s : Shared) (H : Hp) (C : Addr) (cl : List (Str × Addr)) (fp : List Addr), Loc (X.blk s H scope (compEnvC scope cl C X.env) fp).env.scope y := by exact fun _ _ _ _ _ => Or.inl rfl)
    (hf : ∀ (s : Shared) (H : Hp) (C : Addr) (cl : List (Str × Addr)) (fp : List Addr), (X.blk s H scope (compEnvC scope cl C X.env) fp).fn x = true ∨ (X.blk s H scope (compEnvC scope cl C X.env) fp).env.scope.names.lookup x = some .local := by exact fun _ _ _ _ _ => Or.inr rfl)
    (hf2 : ∀ (s : Shared) (H : Hp) (C : Addr) (cl : List (Str × Addr)) (fp : List Addr), (X.blk s H scope (compEnvC scope cl C X.env) fp).fn y = true ∨ (X.blk s H scope (compEnvC scope cl C X.env) fp).env.scope.names.lookup y = some .local := by exact fun _ _ _ _ _ => Or.inr rfl) :
    LcOk X ρ elt (.Tuple [.Name x px, .Name y py] kt tp) iter [c] scope [(x, i), (y, j)] (gTup X.K 2 (gCons (gName i) (gCons (gName j) gNil))) l (fun d => .tup [e1 d, e2 d]) f b (fun d => ((wipeR ρ [i, j]).set i (.val (e1 d))).set j (.val (e2 d))) :=
  ⟨calm, nd, ok, len, it, fun s H C cl fp => pg_tup calm (pgs_cons (pg_name nd hi (hx s H C cl fp) (hf s H C cl fp)) (pgs_cons (pg_name nd hj (hy s H C cl fp) (hf2 s H C cl fp)) pgs_nil)), fun d _ => tg_pair i j, fun d hd s H C cl fp => ppts_one (ts d hd s H C cl fp), fun d hd hb s H C cl fp => el d hd hb s H C cl fp⟩
theorem numbered_eq {α : Type} (enc : α → Da) (dd : α) (l : List α) : numbered (l.map enc) = (List.range l.length).map fun i => .tup [.int (i : Nat), enc (l.getD i dd)] := by
  unfold numbered
  apply List.ext_getElem?
  intro i
  rw [List.getElem?_mapIdx, List.getElem?_map, List.getElem?_map]
  by_cases h : i < l.length
  · rw [List.getElem?_range h, List.getElem?_eq_getElem h]
    simp [List.getD_eq_getElem?_getD, List.getElem?_eq_getElem h]
  · rw [List.getElem?_eq_none (by omega), List.getElem?_eq_none (by simp; omega)]
    rfl
end
theorem toPys_ints : ∀ w : List Int, toPys (w.map Da.int) = w.map PyData.int
  | [] => rfl
  | n :: w => by rw [List.map_cons, toPys, toPys_ints w]; rfl
theorem eqv_intsL : ∀ a b : List Int, PyData.eqvAll (a.map PyData.int) (b.map PyData.int) = decide (a = b)
  | [], [] => by simp [PyData.eqvAll]
  | [], _ :: _ => by simp [PyData.eqvAll]
  | _ :: _, [] => by simp [PyData.eqvAll]
  | x :: a, y :: b => by
    rw [List.map_cons, List.map_cons, PyData.eqvAll, eqv_intsL a b, Bool.eq_iff_iff]
    simp [PyData.eqv]
theorem eqv_ints (a b : List Int) : PyData.eqv (toPy (.lst (a.map Da.int))) (toPy (.lst (b.map Da.int))) = decide (a = b) := by
  rw [toPy, toPy, toPys_ints, toPys_ints, PyData.eqv, eqv_intsL]
theorem lay_ints : ∀ w : List Int, PyData.canLayAll0 (w.map PyData.int) = true
  | [] => by simp [PyData.canLayAll0]
  | n :: w => by
    rw [List.map_cons, PyData.canLayAll0, lay_ints w]
    simp [PyData.canLay0]
theorem depth_ints : ∀ w : List Int, PyData.depthAll (w.map PyData.int) ≤ 1
  | [] => by simp [PyData.depthAll]
  | n :: w => by
    have := depth_ints w
    rw [List.map_cons, PyData.depthAll]
    simp [PyData.depth]
    omega
theorem shaped_ints (w : List Int) : SeqAt.shaped (toPy (.lst (w.map Da.int))) = true := by
  rw [toPy, toPys_ints]
  unfold SeqAt.shaped
  rw [PyData.canLay0, lay_ints, PyData.depth]
  have := depth_ints w
  simp
  omega
end PP

end

section
namespace DG
open Neon

def up (b : UInt8) : Int := (b.toNat : Int)
theorem up_inj {a b : UInt8} : up a = up b ↔ a = b := by
  unfold up
  constructor
  · intro h
    exact UInt8.toNat_inj.mp (by omega)
  · rintro rfl
    rfl
theorem up_map_inj : ∀ {l m : List UInt8}, l.map up = m.map up ↔ l = m := by
  intro l m
  constructor
  · intro h
    induction l generalizing m with
    | nil =>
      cases m with
      | nil => rfl
      | cons => cases h
    | cons a l ih =>
      cases m with
      | nil => cases h
      | cons b m =>
        simp only [List.map_cons, List.cons.injEq] at h
        rw [up_inj.mp h.1, ih h.2]
  · rintro rfl
    rfl

def cutI (c : Int) : List Int → List (List Int)
  | [] => [[]]
  | x :: r => if x = c then [] :: cutI c r else match cutI c r with
    | [] => [[x]]
    | w :: l => (x :: w) :: l
theorem cutI_ne (c : Int) (l : List Int) : cutI c l ≠ [] := by
  cases l with
  | nil => simp [cutI]
  | cons x r =>
    unfold cutI
    split
    · simp
    · split <;> simp
theorem cutI_up (c : UInt8) : ∀ l : List UInt8, cutI (up c) (l.map up) = (cutAt c l).map (List.map up)
  | [] => rfl
  | x :: r => by
    have ih := cutI_up c r
    show cutI (up c) (up x :: r.map up) = _
    unfold cutI cutAt
    by_cases h : x = c
    · rw [if_pos (up_inj.mpr h), if_pos h, ih]
      rfl
    · rw [if_neg (fun e => h (up_inj.mp e)), if_neg h, ih]
      cases cutAt c r <;> rfl
theorem cut_snoc (c x : Int) : ∀ (l : List Int) (A : List (List Int)) (w : List Int), cutI c l = A ++ [w] → cutI c (l ++ [x]) = if x = c then A ++ [w, []] else A ++ [w ++ [x]]
  | [], A, w, h => by
    have h : [[]] = A ++ [w] := h
    cases A with
    | nil =>
      simp at h
      subst h
      show cutI c [x] = _
      unfold cutI
      split <;> rfl
    | cons a A => simp at h
  | y :: r, A, w, h => by
    show cutI c (y :: (r ++ [x])) = _
    unfold cutI at h ⊢
    by_cases hy : y = c
    · rw [if_pos hy] at h ⊢
      cases A with
      | nil =>
        simp at h
        exact absurd h.2 (cutI_ne c r)
      | cons a A =>
        simp only [List.cons_append, List.cons.injEq] at h
        rw [cut_snoc c x r A w h.2, ← h.1]
        split <;> rfl
    · rw [if_neg hy] at h ⊢
      cases e : cutI c r with
      | nil => exact absurd e (cutI_ne c r)
      | cons v l =>
        rw [e] at h
        cases A with
        | nil =>
          simp at h
          obtain ⟨h1, h2⟩ := h
          subst h2
          rw [cut_snoc c x r [] v e, ← h1]
          by_cases hx : x = c <;> simp [hx]
        | cons a A =>
          simp only [List.cons_append, List.cons.injEq] at h
          obtain ⟨h1, h2⟩ := h
          rw [cut_snoc c x r (v :: A) w (by rw [e, h2]; rfl), ← h1]
          by_cases hx : x = c <;> simp [hx]
theorem cutI_len (c : Int) : ∀ l : List Int, (cutI c l).length ≤ l.length + 1
  | [] => by simp [cutI]
  | x :: r => by
    have ih := cutI_len c r
    unfold cutI
    split
    · simp; omega
    · split
      · simp
      · next e =>
        rw [e] at ih
        simp at ih ⊢
        omega
theorem cutI_sum (c : Int) : ∀ (l w : List Int), w ∈ cutI c l → w.length ≤ l.length
  | [], w, h => by
    simp [cutI] at h
    simp [h]
  | x :: r, w, h => by
    unfold cutI at h
    split at h
    · rcases List.mem_cons.mp h with rfl | h
      · simp
      · have := cutI_sum c r w h
        simp; omega
    · split at h
      · simp at h
        simp [h]
      · next v l e =>
        rcases List.mem_cons.mp h with rfl | h
        · have := cutI_sum c r v (by rw [e]; simp)
          simp; omega
        · have := cutI_sum c r w (by rw [e]; exact List.mem_cons_of_mem _ h)
          simp; omega
def linesI (t : List Int) : List (List Int) :=
  let l := cutI 10 t
  if (decide (0 < (l.getLastD []).length) || decide (l.dropLast.length < 2)) = true then l.dropLast ++ [[]] else l.dropLast

def isLetterI (b : Int) : Bool := (decide (65 ≤ b) && decide (b ≤ 90)) || (decide (97 ≤ b) && decide (b ≤ 122))
def isDigitI (b : Int) : Bool := decide (48 ≤ b) && decide (b ≤ 57)
def isNameI (w : List Int) : Bool := (decide ((1 : Int) ≤ w.length) && decide ((w.length : Int) ≤ 12)) && (w.map fun b => isLetterI b || isDigitI b).all id
def isNumI (w : List Int) : Bool := if (decide ((w.length : Int) = 0) || !((w.map isDigitI).all id)) = true then false else decide ((w.length : Int) = 1) || !decide (w.headD 0 = 48)
def coordI (w : List Int) : Int := if (4 : Int) < w.length then 4096 else w.foldl (fun v d => v * 10 + d - 48) 0
abbrev Pt := Int × Int
abbrev Pc := Pt × Pt
def pointI (w : List Int) : Option Pt := match cutI 44 w with
  | [u, v] => if (isNumI u && isNumI v) = true then some (coordI u, coordI v) else none
  | _ => none
def signW : List Int := [115, 105, 103, 110]
def strokeW : List Int := [115, 116, 114, 111, 107, 101]
def signI (line : List Int) : Bool := match cutI 32 line with
  | [w, n] => decide (w = signW) && isNameI n
  | _ => false
def pointsI (line : List Int) : Option (List Pt) := match cutI 32 line with
  | w :: r => if w = strokeW ∧ 2 ≤ r.length ∧ r.length ≤ 65 then r.mapM pointI else none
  | [] => none

def ptI (p : Point) : Pt := ((p.x : Int), (p.y : Int))
def pcI (p : Piece) : Pc := (ptI p.a, ptI p.b)
def cap (n : Nat) : Nat := if 10000 ≤ n then 4096 else n
def capP (p : Point) : Point := ⟨cap p.x, cap p.y⟩

theorem isDigit_up (c : UInt8) : isDigitI (up c) = (decide (48 ≤ c.toNat) && decide (c.toNat ≤ 57)) := by
  unfold isDigitI up
  congr 1 <;> exact decide_eq_decide.mpr (by omega)
theorem isSign_up (c : UInt8) : (isLetterI (up c) || isDigitI (up c)) = isSign c := by
  unfold isSign
  rw [isDigit_up]
  unfold isLetterI up
  rw [Bool.or_assoc]
  congr 1
  · congr 1 <;> exact decide_eq_decide.mpr (by omega)
  · congr 1
    congr 1 <;> exact decide_eq_decide.mpr (by omega)
theorem all_up (f : Int → Bool) (g : UInt8 → Bool) (h : ∀ c, f (up c) = g c) (w : List UInt8) : ((w.map up).map f).all id = w.all g := by
  induction w with
  | nil => rfl
  | cons a w ih => simp only [List.map_cons, List.all_cons, ih, h, id]
theorem isName_up (n : List UInt8) : isNameI (n.map up) = isName n := by
  unfold isNameI isName
  rw [all_up _ _ isSign_up, List.length_map, ← Bool.and_assoc]
  congr 2 <;> exact decide_eq_decide.mpr (by omega)
theorem sign_up (line : List UInt8) : signI (line.map up) = (nameIn line).isSome := by
  unfold signI nameIn
  have e := cutI_up 32 line
  have e32 : up 32 = 32 := rfl
  rw [e32] at e
  rw [e]
  have hw : signW = (ascii "sign").map up := by decide
  match cutAt 32 line with
  | [] => rfl
  | [_] => rfl
  | [w, n] =>
    show (decide (w.map up = signW) && isNameI (n.map up)) = _
    rw [isName_up, hw]
    show _ = Option.isSome (if w = ascii "sign" ∧ isName n = true then some n else none)
    by_cases h1 : w = ascii "sign"
    · rw [decide_eq_true (up_map_inj.mpr h1)]
      by_cases h2 : isName n = true
      · rw [if_pos ⟨h1, h2⟩, h2]
        rfl
      · rw [if_neg (fun h => h2 h.2), Bool.eq_false_iff.mpr h2]
        rfl
    · rw [decide_eq_false (fun h => h1 (up_map_inj.mp h)), if_neg (fun h => h1 h.1)]
      rfl
  | _ :: _ :: _ :: _ => rfl
def digVal (b : List UInt8) (a : Nat) : Nat := b.foldl (fun (n : Nat) (c : UInt8) => 10 * n + (c.toNat - 48)) a
theorem fold_up : ∀ (b : List UInt8) (a : Nat), (b.all fun (c : UInt8) => decide (48 ≤ c.toNat) && decide (c.toNat ≤ 57)) = true →
    (b.map up).foldl (fun (v : Int) d => v * 10 + d - 48) (a : Int) = (digVal b a : Nat)
  | [], a, _ => rfl
  | c :: b, a, h => by
    rw [List.all_cons, Bool.and_eq_true] at h
    have h1 : 48 ≤ c.toNat := by have := h.1; simp at this; exact this.1
    show (b.map up).foldl _ ((a : Int) * 10 + up c - 48) = ((digVal b (10 * a + (c.toNat - 48)) : Nat) : Int)
    rw [← fold_up b (10 * a + (c.toNat - 48)) h.2]
    congr 1
    unfold up
    omega
theorem digVal_ge : ∀ (b : List UInt8) (a : Nat), a * 10 ^ b.length ≤ digVal b a
  | [], a => by simp [digVal]
  | c :: b, a => by
    show a * 10 ^ (b.length + 1) ≤ digVal b (10 * a + (c.toNat - 48))
    refine Nat.le_trans ?_ (digVal_ge b _)
    rw [Nat.pow_succ, ← Nat.mul_assoc, Nat.mul_right_comm]
    exact Nat.mul_le_mul_right _ (by omega)
theorem digVal_lt : ∀ (b : List UInt8) (a : Nat), (b.all fun (c : UInt8) => decide (48 ≤ c.toNat) && decide (c.toNat ≤ 57)) = true → digVal b a < (a + 1) * 10 ^ b.length
  | [], a, _ => by simp [digVal]
  | c :: b, a, h => by
    rw [List.all_cons, Bool.and_eq_true] at h
    have h1 : c.toNat ≤ 57 := by have := h.1; simp at this; exact this.2
    show digVal b (10 * a + (c.toNat - 48)) < (a + 1) * 10 ^ (b.length + 1)
    refine Nat.lt_of_lt_of_le (digVal_lt b _ h.2) ?_
    rw [Nat.pow_succ, Nat.mul_comm (10 ^ b.length) 10, ← Nat.mul_assoc]
    exact Nat.mul_le_mul_right _ (by omega)
theorem num_up (b : List UInt8) : isNumI (b.map up) = (numberIn b).isSome ∧ ∀ n, numberIn b = some n → coordI (b.map up) = (cap n : Nat) := by
  have hd : ((b.map up).map isDigitI).all id = b.all fun (c : UInt8) => decide (48 ≤ c.toNat) && decide (c.toNat ≤ 57) := all_up _ _ isDigit_up b
  constructor
  · unfold isNumI numberIn
    rw [hd, List.length_map]
    cases b with
    | nil => rfl
    | cons c r =>
      cases ha : ((c :: r).all fun (c : UInt8) => decide (48 ≤ c.toNat) && decide (c.toNat ≤ 57)) with
      | false => simp
      | true =>
        have e48 : (up c = 48) ↔ (c = 48) := by
          have : (48 : Int) = up 48 := rfl
          rw [this, up_inj]
        cases r with
        | nil => simp
        | cons c2 r =>
          have hz : ¬ (((r.length : Int) + 1 + 1) = 0) := by omega
          have hz1 : ¬ (((r.length : Int) + 1 + 1) = 1) := by omega
          by_cases h : c = 48
          · have h' := e48.mpr h
            simp [h, hz, hz1]
            rfl
          · have h' : ¬ up c = 48 := fun q => h (e48.mp q)
            simp [h, h', hz]
  · intro n hn
    unfold numberIn at hn
    split at hn
    · cases hn
    · next hc =>
      simp only [not_or, Bool.not_eq_false] at hc
      obtain ⟨h1, h2, h3⟩ := hc
      have hn : digVal b 0 = n := Option.some.inj hn
      unfold coordI
      rw [List.length_map]
      have hf := fold_up b 0 h2
      rw [hn] at hf
      by_cases hl : 4 < b.length
      · rw [if_pos (by omega)]
        match b, h1, h2, h3, hl with
        | c :: r, _, h2, h3, hl =>
          rw [List.all_cons, Bool.and_eq_true] at h2
          have hc : 48 ≤ c.toNat := by have := h2.1; simp at this; exact this.1
          have hc' : c ≠ 48 := fun e => h3 ⟨by simp at hl ⊢; omega, by simp [e]⟩
          have hc2 : c.toNat ≠ 48 := fun e => hc' (UInt8.toNat_inj.mp e)
          have hg := digVal_ge r (10 * 0 + (c.toNat - 48))
          have hn' : digVal r (10 * 0 + (c.toNat - 48)) = n := hn
          rw [hn'] at hg
          have h4 : 4 ≤ r.length := by simp at hl; omega
          have hp : 10 ^ 4 ≤ 10 ^ r.length := Nat.pow_le_pow_right (by omega) h4
          have hm : 1 * 10 ^ r.length ≤ (10 * 0 + (c.toNat - 48)) * 10 ^ r.length := Nat.mul_le_mul_right _ (by omega)
          have : 10000 ≤ n := by
            have : (10 : Nat) ^ 4 = 10000 := rfl
            omega
          unfold cap
          rw [if_pos this]
          rfl
      · rw [if_neg (by omega)]
        have hlt := digVal_lt b 0 h2
        rw [hn] at hlt
        have hp : 10 ^ b.length ≤ 10 ^ 4 := Nat.pow_le_pow_right (by omega) (by omega)
        unfold cap
        rw [if_neg (by have : (10 : Nat) ^ 4 = 10000 := rfl; omega)]
        exact hf
theorem point_up (w : List UInt8) : pointI (w.map up) = (pointIn w).map fun p => ptI (capP p) := by
  unfold pointI pointIn
  have e := cutI_up 44 w
  have e44 : up 44 = 44 := rfl
  rw [e44] at e
  rw [e]
  match cutAt 44 w with
  | [] => rfl
  | [_] => rfl
  | [u, v] =>
    obtain ⟨hu1, hu2⟩ := num_up u
    obtain ⟨hv1, hv2⟩ := num_up v
    simp only [List.map_cons, List.map_nil, hu1, hv1]
    cases hnu : numberIn u with
    | none => rfl
    | some x =>
      cases hnv : numberIn v with
      | none => rfl
      | some y =>
        rw [hu2 x hnu, hv2 y hnv]
        rfl
  | _ :: _ :: _ :: _ => rfl
theorem mapM_up : ∀ r : List (List UInt8), (r.map (List.map up)).mapM pointI = (r.mapM pointIn).map (List.map fun p => ptI (capP p))
  | [] => rfl
  | w :: r => by
    rw [List.map_cons, List.mapM_cons, List.mapM_cons, point_up, mapM_up r]
    cases pointIn w with
    | none => rfl
    | some p =>
      cases r.mapM pointIn <;> rfl
theorem points_up (line : List UInt8) : pointsI (line.map up) = (strokeIn line).map (List.map fun p => ptI (capP p)) := by
  unfold pointsI strokeIn
  have e := cutI_up 32 line
  have e32 : up 32 = 32 := rfl
  rw [e32] at e
  rw [e]
  have hw : strokeW = (ascii "stroke").map up := by decide
  match cutAt 32 line with
  | [] => rfl
  | w :: r =>
    show (if w.map up = strokeW ∧ 2 ≤ (r.map (List.map up)).length ∧ (r.map (List.map up)).length ≤ 65 then (r.map (List.map up)).mapM pointI else none) = Option.map _ (if w = ascii "stroke" ∧ 2 ≤ r.length ∧ r.length ≤ 65 then r.mapM pointIn else none)
    rw [hw, List.length_map]
    by_cases h : w = ascii "stroke" ∧ 2 ≤ r.length ∧ r.length ≤ 65
    · rw [if_pos h, if_pos ⟨up_map_inj.mpr h.1, h.2⟩, mapM_up]
    · rw [if_neg h, if_neg (fun q => h ⟨up_map_inj.mp q.1, q.2⟩)]
      rfl

def sideI (p : Pc) (c : Pt) : Int := (p.2.1 - p.1.1) * (c.2 - p.1.2) - (p.2.2 - p.1.2) * (c.1 - p.1.1)
def betweenI (v a b : Int) : Bool := decide (min a b ≤ v) && decide (v ≤ max a b)
def liesOnI (c : Pt) (p : Pc) : Bool := if sideI p c ≠ 0 then false else betweenI c.1 p.1.1 p.2.1 && betweenI c.2 p.1.2 p.2.2
def endOfI (c : Pt) (p : Pc) : Bool := decide (p.1 = c) || decide (p.2 = c)
def midstI (one other : Pc) : Bool := (!endOfI one.1 other && liesOnI one.1 other) || (!endOfI one.2 other && liesOnI one.2 other)
def dividesI (one other : Pc) : Bool := decide (sideI one other.1 * sideI one other.2 < 0)
def badI (one other : Pc) : Bool := if (dividesI one other && dividesI other one) = true then true else if (midstI one other || midstI other one) = true then true else endOfI one.1 other && endOfI one.2 other
def degreeI (c : Pt) (l : List Pc) : Nat := (l.filter fun p => endOfI c p).length
def ninthI (p : Pc) (l : List Pc) : Bool := decide (8 ≤ degreeI p.1 l) || decide (8 ≤ degreeI p.2 l)

theorem ptI_inj {a b : Point} : ptI a = ptI b ↔ a = b := by
  unfold ptI
  constructor
  · intro h
    cases a
    cases b
    simp only [Prod.mk.injEq, Int.natCast_inj] at h
    rw [h.1, h.2]
  · rintro rfl
    rfl
theorem side_up (p : Piece) (c : Point) : sideI (pcI p) (ptI c) = side p.a p.b c := rfl
theorem between_up (u v w : Nat) : betweenI (w : Int) (u : Int) (v : Int) = within u v w := by
  unfold betweenI within
  rw [Bool.eq_iff_iff]
  simp only [Bool.and_eq_true, Bool.or_eq_true, decide_eq_true_eq]
  omega
theorem lies_up (p : Piece) (c : Point) : liesOnI (ptI c) (pcI p) = p.has c := by
  unfold liesOnI Piece.has
  rw [side_up]
  show (if side p.a p.b c ≠ 0 then false else betweenI (c.x : Int) (p.a.x : Int) (p.b.x : Int) && betweenI (c.y : Int) (p.a.y : Int) (p.b.y : Int)) = _
  rw [between_up, between_up]
  by_cases h : side p.a p.b c = 0
  · rw [if_neg (fun q => q h), h]
    rfl
  · rw [if_pos h, beq_eq_false_iff_ne.mpr h]
    rfl
theorem ends_contains (p : Piece) (c : Point) : p.ends.contains c = (decide (p.a = c) || decide (p.b = c)) := by
  unfold Piece.ends
  rw [Bool.eq_iff_iff]
  simp only [List.contains_iff_mem, List.mem_cons, List.not_mem_nil, or_false, Bool.or_eq_true, decide_eq_true_eq]
  constructor
  · rintro (h | h)
    · exact .inl h.symm
    · exact .inr h.symm
  · rintro (h | h)
    · exact .inl h.symm
    · exact .inr h.symm
theorem endOf_up (c : Point) (p : Piece) : endOfI (ptI c) (pcI p) = p.ends.contains c := by
  rw [ends_contains]
  unfold endOfI
  show (decide (ptI p.a = ptI c) || decide (ptI p.b = ptI c)) = _
  congr 1 <;> exact decide_eq_decide.mpr ptI_inj
theorem any_ends (p : Piece) (f : Point → Bool) : p.ends.any f = (f p.a || f p.b) := by simp [Piece.ends]
theorem all_ends (p : Piece) (f : Point → Bool) : p.ends.all f = (f p.a && f p.b) := by simp [Piece.ends]
theorem midst_up (p q : Piece) : midstI (pcI p) (pcI q) = p.ends.any fun (c : Point) => q.has c && !q.ends.contains c := by
  unfold midstI
  rw [any_ends]
  show ((!endOfI (ptI p.a) (pcI q) && liesOnI (ptI p.a) (pcI q)) || (!endOfI (ptI p.b) (pcI q) && liesOnI (ptI p.b) (pcI q))) = _
  rw [endOf_up, endOf_up, lies_up, lies_up, Bool.and_comm, Bool.and_comm (!q.ends.contains p.b)]
theorem mul_neg_iff {a b : Int} : a * b < 0 ↔ (a < 0 ∧ 0 < b) ∨ (0 < a ∧ b < 0) := by
  constructor
  · intro h
    rcases Int.lt_trichotomy a 0 with ha | ha | ha
    · rcases Int.lt_trichotomy b 0 with hb | hb | hb
      · have := Int.mul_pos_of_neg_of_neg ha hb; omega
      · subst hb; simp at h
      · exact .inl ⟨ha, hb⟩
    · subst ha; simp at h
    · rcases Int.lt_trichotomy b 0 with hb | hb | hb
      · exact .inr ⟨ha, hb⟩
      · subst hb; simp at h
      · have := Int.mul_pos ha hb; omega
  · rintro (⟨ha, hb⟩ | ⟨ha, hb⟩)
    · exact Int.mul_neg_of_neg_of_pos ha hb
    · exact Int.mul_neg_of_pos_of_neg ha hb
theorem sign_parts (a b : Int) : decide (a * b < 0) = ((decide (a < 0) != decide (b < 0)) && (a != 0 && b != 0)) := by
  rw [Bool.eq_iff_iff, decide_eq_true_eq, mul_neg_iff]
  simp only [Bool.and_eq_true, bne_iff_ne, ne_eq, decide_eq_decide]
  omega
theorem crossing_up (p q : Piece) : (dividesI (pcI p) (pcI q) && dividesI (pcI q) (pcI p)) = crossing p q := by
  unfold dividesI crossing
  rw [sign_parts, sign_parts]
  show (((decide (side p.a p.b q.a < 0) != decide (side p.a p.b q.b < 0)) && (side p.a p.b q.a != 0 && side p.a p.b q.b != 0)) && ((decide (side q.a q.b p.a < 0) != decide (side q.a q.b p.b < 0)) && (side q.a q.b p.a != 0 && side q.a q.b p.b != 0))) = _
  simp only [Bool.and_assoc]
def Two (p : Piece) : Prop := p.a ≠ p.b
theorem bad_up {p q : Piece} (hp : Two p) (hq : Two q) : badI (pcI p) (pcI q) = (meets q p == 2) := by
  have hc : crossing q p = crossing p q := by rw [← crossing_up, ← crossing_up, Bool.and_comm]
  have he : (q.ends.all fun (c : Point) => p.ends.contains c) = (p.ends.all fun (c : Point) => q.ends.contains c) := by
    rw [Bool.eq_iff_iff, all_ends, all_ends]
    simp only [ends_contains, Bool.and_eq_true, Bool.or_eq_true, decide_eq_true_eq]
    unfold Two at hp hq
    constructor
    · rintro ⟨h1 | h1, h2 | h2⟩
      · exact absurd (h1.symm.trans h2) hq
      · exact ⟨.inl h1.symm, .inr h2.symm⟩
      · exact ⟨.inr h2.symm, .inl h1.symm⟩
      · exact absurd (h1.symm.trans h2) hq
    · rintro ⟨h1 | h1, h2 | h2⟩
      · exact absurd (h1.symm.trans h2) hp
      · exact ⟨.inl h1.symm, .inr h2.symm⟩
      · exact ⟨.inr h2.symm, .inl h1.symm⟩
      · exact absurd (h1.symm.trans h2) hp
  unfold badI meets
  rw [crossing_up, midst_up, midst_up, hc, he, all_ends p]
  show (if crossing p q = true then true else if _ then true else endOfI (ptI p.a) (pcI q) && endOfI (ptI p.b) (pcI q)) = _
  rw [endOf_up, endOf_up]
  generalize crossing p q = a
  generalize (p.ends.any fun (c : Point) => q.has c && !q.ends.contains c) = b
  generalize (q.ends.any fun (c : Point) => p.has c && !p.ends.contains c) = c
  generalize (q.ends.contains p.a && q.ends.contains p.b) = d
  generalize (q.ends.any fun (c : Point) => p.ends.contains c) = e
  revert a b c d e
  decide
theorem degree_up (c : Point) (l : List Piece) : degreeI (ptI c) (l.map pcI) = endsAt l c := by
  unfold degreeI endsAt
  induction l with
  | nil => rfl
  | cons p l ih =>
    rw [List.map_cons, List.filter_cons, List.filter_cons, endOf_up]
    split <;> simp [ih]
theorem ninth_up (p : Piece) (l : List Piece) : ninthI (pcI p) (l.map pcI) = p.ends.any fun (c : Point) => decide (DEGREE ≤ endsAt l c) := by
  unfold ninthI
  rw [any_ends]
  show (decide (8 ≤ degreeI (ptI p.a) (l.map pcI)) || decide (8 ≤ degreeI (ptI p.b) (l.map pcI))) = _
  rw [degree_up, degree_up]
  rfl

def firstI (l : List Bool) : Option Nat := l.findIdx? id
def piecesI (s : List Pt) : List Pc := s.zip s.tail
theorem pieces_up : ∀ s : List Point, piecesI (s.map ptI) = (piecesOf s).map pcI
  | [] => rfl
  | [_] => rfl
  | a :: b :: r => by
    have ih := pieces_up (b :: r)
    show (ptI a, ptI b) :: piecesI ((b :: r).map ptI) = pcI ⟨a, b⟩ :: (piecesOf (b :: r)).map pcI
    rw [ih]
    rfl
def firstNewI (f : Pc → List Pc → Bool) (past new : List Pc) : Option Nat :=
  firstI ((List.range new.length).map fun j => f (new.getD j ((0, 0), (0, 0))) ((past ++ new).take (past.length + j)))
def strokeFaultI (s : List Pt) (past : List Pc) : Option (Nat × Nat) :=
  match firstI (s.map fun c => decide (4095 < max c.1 c.2)) with
  | some i => some (2, i)
  | none => match firstI ((piecesI s).map fun p => decide (p.1 = p.2)) with
    | some i => some (3, i + 1)
    | none => if 64 < past.length + (piecesI s).length then some (4, 0) else
      match firstNewI (fun p l => l.any fun q => badI p q) past (piecesI s) with
      | some i => some (5, past.length + i)
      | none => match firstNewI ninthI past (piecesI s) with
        | some i => some (6, past.length + i)
        | none => none
theorem first_new (f : List Piece → Piece → Bool) (g : Pc → List Pc → Bool) : ∀ (new past : List Piece), (∀ p ∈ new, ∀ l : List Piece, (∀ q ∈ l, q ∈ past ∨ q ∈ new) → g (pcI p) (l.map pcI) = f l p) →
    (firstNewI g (past.map pcI) (new.map pcI)).map (past.length + ·) = firstPiece f past new
  | [], past, _ => rfl
  | p :: r, past, h => by
    have ih := first_new f g r (past ++ [p]) fun q hq l hl => h q (List.mem_cons_of_mem _ hq) l fun z hz => by
      rcases hl z hz with h1 | h1
      · rcases List.mem_append.mp h1 with h2 | h2
        · exact .inl h2
        · exact .inr (by simp at h2; simp [h2])
      · exact .inr (List.mem_cons_of_mem _ h1)
    have h0 := h p (by simp) past fun q hq => .inl hq
    unfold firstPiece
    unfold firstNewI firstI
    rw [List.map_cons, List.length_cons, List.range_succ_eq_map, List.map_cons, List.findIdx?_cons, List.map_map]
    have e0 : ((past.map pcI ++ pcI p :: r.map pcI).take ((past.map pcI).length + 0)) = past.map pcI := by simp
    rw [e0]
    show Option.map _ (if g (pcI p) (past.map pcI) = true then some 0 else _) = _
    rw [h0]
    by_cases hf : f past p = true
    · rw [if_pos hf, if_pos hf]
      rfl
    · rw [if_neg hf, if_neg hf, ← ih]
      unfold firstNewI firstI
      rw [Option.map_map]
      have el : ((List.range (r.map pcI).length).map ((fun j => g ((pcI p :: r.map pcI).getD j ((0, 0), (0, 0))) ((past.map pcI ++ pcI p :: r.map pcI).take ((past.map pcI).length + j))) ∘ Nat.succ))
          = (List.range (r.map pcI).length).map fun j => g ((r.map pcI).getD j ((0, 0), (0, 0))) (((past ++ [p]).map pcI ++ r.map pcI).take (((past ++ [p]).map pcI).length + j)) := by
        apply List.map_congr_left
        intro j _
        show g ((r.map pcI).getD j ((0, 0), (0, 0))) ((past.map pcI ++ pcI p :: r.map pcI).take ((past.map pcI).length + (j + 1))) = _
        have e1 : (past ++ [p]).map pcI ++ r.map pcI = past.map pcI ++ pcI p :: r.map pcI := by simp
        have e2 : ((past ++ [p]).map pcI).length + j = (past.map pcI).length + (j + 1) := by simp; omega
        rw [e1, e2]
      rw [el]
      congr 1
      funext i
      simp
      omega

theorem first_map {α : Type} (l : List α) (f : α → Bool) : firstI (l.map f) = l.findIdx? f := by
  unfold firstI
  induction l with
  | nil => rfl
  | cons a l ih =>
    rw [List.map_cons, List.findIdx?_cons, List.findIdx?_cons, ih]
    rfl
theorem far_up (p : Point) : decide (4095 < max (ptI (capP p)).1 (ptI (capP p)).2) = !p.fine := by
  unfold Point.fine ptI capP cap FAR
  rw [Bool.eq_iff_iff]
  simp only [decide_eq_true_eq, Bool.not_eq_true', Bool.and_eq_false_iff, decide_eq_false_iff_not]
  split <;> split <;> omega
theorem cap_fine {p : Point} (h : p.fine = true) : capP p = p := by
  unfold Point.fine FAR at h
  simp only [Bool.and_eq_true, decide_eq_true_eq] at h
  unfold capP cap
  rw [if_neg (by omega), if_neg (by omega)]
theorem rep_up : ∀ s : List Point, ((List.range s.length).find? fun (i : Nat) => decide (1 ≤ i) && s[i]? == s[i - 1]?) = (((piecesOf s).findIdx? fun p => decide (p.a = p.b))).map (· + 1)
  | [] => rfl
  | [_] => rfl
  | a :: b :: r => by
    have ih := rep_up (b :: r)
    have e1 : (List.range (a :: b :: r).length) = 0 :: (List.range (b :: r).length).map Nat.succ := by
      rw [List.length_cons, List.range_succ_eq_map]
    rw [e1, List.find?_cons]
    show (List.find? _ ((List.range (b :: r).length).map Nat.succ)) = Option.map _ (List.findIdx? _ (⟨a, b⟩ :: piecesOf (b :: r)))
    rw [List.find?_map, List.findIdx?_cons]
    have e2 : List.range (b :: r).length = 0 :: (List.range r.length).map Nat.succ := by
      rw [List.length_cons, List.range_succ_eq_map]
    by_cases hab : a = b
    · subst hab
      rw [e2, List.find?_cons]
      simp
    · rw [if_neg (show ¬ decide (a = b) = true by simp [hab])]
      have e3 : (List.range (b :: r).length).find? ((fun (i : Nat) => decide (1 ≤ i) && (a :: b :: r)[i]? == (a :: b :: r)[i - 1]?) ∘ Nat.succ) = (List.range (b :: r).length).find? fun (i : Nat) => decide (1 ≤ i) && (b :: r)[i]? == (b :: r)[i - 1]? := by
        rw [e2, List.find?_cons, List.find?_cons]
        have h0 : ((fun (i : Nat) => decide (1 ≤ i) && (a :: b :: r)[i]? == (a :: b :: r)[i - 1]?) ∘ Nat.succ) 0 = false := by
          simp [Ne.symm hab]
        rw [h0]
        simp only [Nat.le_zero_eq, decide_false, Bool.false_and, Nat.one_ne_zero]
        rw [List.find?_map, List.find?_map]
        congr 1
      rw [e3, ih]
theorem findIdx_cap (s : List Point) : firstI ((s.map fun p => ptI (capP p)).map fun c => decide (4095 < max c.1 c.2)) = s.findIdx? fun (p : Point) => !p.fine := by
  rw [List.map_map, first_map]
  congr 1
  funext p
  exact far_up p
theorem fine_all {s : List Point} (h : (s.findIdx? fun (p : Point) => !p.fine) = none) : ∀ p ∈ s, p.fine = true := by
  intro p hp
  have := List.findIdx?_eq_none_iff.mp h p hp
  simpa using this
theorem cap_all {s : List Point} (h : ∀ p ∈ s, p.fine = true) : (s.map fun p => ptI (capP p)) = s.map ptI := by
  apply List.map_congr_left
  intro p hp
  rw [cap_fine (h p hp)]
theorem two_all {s : List Point} (h : ((piecesOf s).findIdx? fun p => decide (p.a = p.b)) = none) : ∀ p ∈ piecesOf s, Two p := by
  intro p hp
  have := List.findIdx?_eq_none_iff.mp h p hp
  simpa [Two] using this
theorem firstNew_map {f : List Piece → Piece → Bool} {g : Pc → List Pc → Bool} {new past : List Piece} (h : ∀ p ∈ new, ∀ l : List Piece, (∀ q ∈ l, q ∈ past ∨ q ∈ new) → g (pcI p) (l.map pcI) = f l p) :
    firstPiece f past new = (firstNewI g (past.map pcI) (new.map pcI)).map (past.length + ·) := (first_new f g new past h).symm
theorem strokeFault_up (s : List Point) (past : List Piece) (hp : ∀ q ∈ past, Two q) :
    strokeFaultI (s.map fun p => ptI (capP p)) (past.map pcI) = wrongStroke past s := by
  unfold strokeFaultI wrongStroke
  rw [findIdx_cap]
  cases h1 : s.findIdx? fun (p : Point) => !p.fine with
  | some i => rfl
  | none =>
    have hf := fine_all h1
    rw [cap_all hf, pieces_up, rep_up, first_map, List.findIdx?_map]
    have e3 : ((fun (p : Pc) => decide (p.1 = p.2)) ∘ pcI) = fun (p : Piece) => decide (p.a = p.b) := by
      funext p
      exact decide_eq_decide.mpr ptI_inj
    rw [e3]
    dsimp only
    cases h2 : (piecesOf s).findIdx? fun p => decide (p.a = p.b) with
    | some i => rfl
    | none =>
      have ht := two_all h2
      dsimp only [Option.map_none]
      rw [List.length_map, List.length_map]
      show (if 64 < past.length + (piecesOf s).length then _ else _) = (if 64 < past.length + (piecesOf s).length then _ else _)
      have tw : ∀ q, (q ∈ past ∨ q ∈ piecesOf s) → Two q := fun q h => h.elim (hp q) (ht q)
      rw [firstNew_map (g := fun p l => l.any fun q => badI p q) (fun p hpn l hl => by
        have tp := ht p hpn
        show (l.map pcI).any (fun q => badI (pcI p) q) = l.any fun q => meets q p == 2
        rw [List.any_map]
        have : ∀ m : List Piece, (∀ q ∈ m, Two q) → m.any ((fun q => badI (pcI p) q) ∘ pcI) = m.any fun q => meets q p == 2 := by
          intro m hm
          induction m with
          | nil => rfl
          | cons q m ih =>
            rw [List.any_cons, List.any_cons, ih fun z hz => hm z (List.mem_cons_of_mem _ hz)]
            show (badI (pcI p) (pcI q) || _) = _
            rw [bad_up tp (hm q (by simp))]
        exact this l fun q hq => tw q (hl q hq)),
        firstNew_map (g := ninthI) (fun p _ l _ => ninth_up p l)]
      split
      · rfl
      · cases firstNewI (fun p l => l.any fun q => badI p q) (past.map pcI) ((piecesOf s).map pcI) with
        | some i => rfl
        | none =>
          cases firstNewI ninthI (past.map pcI) ((piecesOf s).map pcI) <;> rfl
theorem wrong_none {s : List Point} {past : List Piece} (h : wrongStroke past s = none) : (∀ p ∈ s, p.fine = true) ∧ (∀ p ∈ piecesOf s, Two p) ∧ past.length + (piecesOf s).length ≤ 64 := by
  unfold wrongStroke at h
  cases h1 : s.findIdx? fun (p : Point) => !p.fine with
  | some i => rw [h1] at h; cases h
  | none =>
    rw [h1, rep_up] at h
    dsimp only at h
    cases h2 : (piecesOf s).findIdx? fun p => decide (p.a = p.b) with
    | some i => rw [h2] at h; cases h
    | none =>
      rw [h2] at h
      dsimp only [Option.map_none] at h
      refine ⟨fine_all h1, two_all h2, ?_⟩
      split at h
      · cases h
      · next hc =>
        unfold PIECES at hc
        omega

def loopI : Nat → List Pc → List (List Int) → Option (Nat × Nat × Nat)
  | _, _, [] => none
  | i, past, w :: r => match pointsI w with
    | none => some (1, i, 0)
    | some s => match strokeFaultI s past with
      | some e => some (e.1, i, e.2)
      | none => loopI (i + 1) (past ++ piecesI s) r
def faultI (t : List Int) : Option (Nat × Nat × Nat) := match linesI t with
  | w :: r => if signI w = true then loopI 1 [] r else some (1, 0, 0)
  | [] => some (1, 0, 0)
theorem points_nil : pointsI [] = none := rfl
theorem getLastD_map (w : List UInt8) (r : List (List UInt8)) : ((w :: r).map (List.map up)).getLastD [] = ((w :: r).getLast (by simp)).map up := by
  rw [List.getLastD_eq_getLast?, List.getLast?_eq_some_getLast (by simp), List.getLast_map]
  rfl
def markI (long : Bool) (rest : List (List UInt8)) : List (List Int) :=
  (rest.dropLast.map (List.map up)) ++ (if (decide (0 < (rest.getLastD []).length) || long) = true then [[]] else [])
theorem loop_up : ∀ (rest : List (List UInt8)) (i : Nat) (strokes : List Stroke), rest ≠ [] → (∀ q ∈ strokes.flatMap piecesOf, Two q) →
    (match judgeLines i strokes rest with | .error e => some e | .ok _ => none) = loopI i ((strokes.flatMap piecesOf).map pcI) (markI (decide (strokes = [] ∧ rest.length < 2)) rest)
  | [], _, _, h, _ => absurd rfl h
  | [w], i, strokes, _, _ => by
    unfold judgeLines markI
    cases w with
    | nil =>
      by_cases hs : strokes = []
      · simp [hs, loopI, points_nil]
      · simp [hs, loopI]
    | cons c w => simp [loopI, points_nil]
  | w :: x :: r, i, strokes, _, ht => by
    unfold judgeLines
    have e : markI (decide (strokes = [] ∧ (w :: x :: r).length < 2)) (w :: x :: r) = w.map up :: markI false (x :: r) := by
      have h2 : ¬ r.length + 1 + 1 < 2 := by omega
      unfold markI
      simp [h2]
    rw [e]
    unfold loopI
    rw [points_up]
    cases hs : strokeIn w with
    | none => rfl
    | some s =>
      dsimp only [Option.map_some]
      rw [strokeFault_up s _ ht]
      cases hw : wrongStroke (strokes.flatMap piecesOf) s with
      | some q => rfl
      | none =>
        dsimp only
        obtain ⟨h1, h2, _⟩ := wrong_none hw
        have e2 : (strokes ++ [s]).flatMap piecesOf = strokes.flatMap piecesOf ++ piecesOf s := by simp
        have ih := loop_up (x :: r) (i + 1) (strokes ++ [s]) (by simp) (by
          rw [e2]
          intro q hq
          rcases List.mem_append.mp hq with h | h
          · exact ht q h
          · exact h2 q h)
        have e3 : decide (strokes ++ [s] = [] ∧ (x :: r).length < 2) = false := by simp
        rw [e3, e2] at ih
        rw [cap_all h1, pieces_up, ← List.map_append]
        exact ih
theorem fault_up (t : List UInt8) : faultI (t.map up) = (match Neon.judge t with | .error e => some e | .ok _ => none) := by
  unfold faultI linesI Neon.judge
  have e := cutI_up 10 t
  have e10 : up 10 = 10 := rfl
  rw [e10] at e
  rw [e]
  match cutAt 10 t with
  | [] => rfl
  | [w] =>
    have h1 : signI [] = false := rfl
    simp [h1]
  | w :: x :: r =>
    have hl : ((w :: x :: r).map (List.map up)).getLastD [] = (((x :: r).getLastD []).map up) := by
      rw [getLastD_map, List.getLastD_eq_getLast?, List.getLast?_eq_some_getLast (by simp)]
      rfl
    have hd : ((w :: x :: r).map (List.map up)).dropLast = w.map up :: ((x :: r).dropLast.map (List.map up)) := by
      simp [List.map_dropLast]
    dsimp only
    rw [hl, hd, List.length_map]
    have hm : ((x :: r).dropLast.map (List.map up)).length + 1 < 2 ↔ (x :: r).length < 2 := by
      rw [List.length_map, List.length_dropLast]
      simp
    have e2 : (if (decide (0 < ((x :: r).getLastD []).length) || decide ((w.map up :: ((x :: r).dropLast.map (List.map up))).length < 2)) = true then w.map up :: ((x :: r).dropLast.map (List.map up)) ++ [[]] else w.map up :: ((x :: r).dropLast.map (List.map up)))
        = w.map up :: markI (decide (([] : List Stroke) = [] ∧ (x :: r).length < 2)) (x :: r) := by
      unfold markI
      have h3 : decide ((w.map up :: ((x :: r).dropLast.map (List.map up))).length < 2) = decide (([] : List Stroke) = [] ∧ (x :: r).length < 2) := by
        rw [decide_eq_decide, List.length_cons]
        exact ⟨fun h => ⟨rfl, hm.mp h⟩, fun h => hm.mpr h.2⟩
      rw [h3]
      split <;> simp
    rw [e2]
    dsimp only
    rw [sign_up]
    cases nameIn w with
    | none => rfl
    | some n =>
      have lu := loop_up (x :: r) 1 [] (by simp) (by simp)
      show loopI 1 [] _ = _
      have e4 : (([] : List Stroke).flatMap piecesOf).map pcI = [] := rfl
      rw [e4] at lu
      rw [← lu]
      cases judgeLines 1 [] (x :: r) <;> rfl

theorem text_ok (bs : List UInt8) : NeonANeutral.text? (bs.map up) = some bs := by
  unfold NeonANeutral.text?
  have h1 : NeutralIO.bytes (bs.map up) = true := by
    unfold NeutralIO.bytes
    rw [List.all_eq_true]
    intro x hx
    obtain ⟨b, _, rfl⟩ := List.mem_map.mp hx
    have := b.toNat_lt
    unfold up
    simp
    omega
  rw [if_pos h1, List.map_map]
  have h2 : ((fun (n : Int) => UInt8.ofNat n.toNat) ∘ up) = id := by
    funext b
    show UInt8.ofNat (Int.toNat (b.toNat : Int)) = b
    rw [Int.toNat_natCast]
    exact UInt8.ofNat_toNat
  rw [h2, List.map_id]
theorem bytes_of {t : List Int} (h : ∀ x ∈ t, 0 ≤ x ∧ x ≤ 255) : ∃ bs : List UInt8, t = bs.map up := by
  refine ⟨t.map fun n => UInt8.ofNat n.toNat, ?_⟩
  rw [List.map_map]
  have : ∀ x ∈ t, (up ∘ fun n : Int => UInt8.ofNat n.toNat) x = x := by
    intro x hx
    obtain ⟨h0, h1⟩ := h x hx
    show ((UInt8.ofNat x.toNat).toNat : Int) = x
    rw [UInt8.toNat_ofNat']
    omega
  rw [List.map_congr_left this, List.map_id']
def faultOut : Option (Nat × Nat × Nat) → List Int
  | none => [0]
  | some e => [-6, (e.1 : Int), (e.2.1 : Int), (e.2.2 : Int)]
def ptsOf (w : List Int) : List Pt := (pointsI w).getD []
def pastAt (past : List Pc) (rest : List (List Int)) (j : Nat) : List Pc := past ++ (rest.take j).flatMap fun w => piecesI (ptsOf w)
def Goes (past : List Pc) (rest : List (List Int)) (j : Nat) : Prop := ∃ w s, rest[j]? = some w ∧ pointsI w = some s ∧ strokeFaultI s (pastAt past rest j) = none
theorem pastAt_zero (past : List Pc) (rest : List (List Int)) : pastAt past rest 0 = past := by simp [pastAt]
theorem pastAt_cons (past : List Pc) (w : List Int) (rest : List (List Int)) (j : Nat) : pastAt past (w :: rest) (j + 1) = pastAt (past ++ piecesI (ptsOf w)) rest j := by
  simp [pastAt]
theorem pastAt_succ {past : List Pc} {rest : List (List Int)} {j : Nat} {w : List Int} (h : rest[j]? = some w) : pastAt past rest (j + 1) = pastAt past rest j ++ piecesI (ptsOf w) := by
  obtain ⟨hj, e⟩ := List.getElem?_eq_some_iff.mp h
  unfold pastAt
  rw [← List.take_append_getElem hj, e]
  simp
theorem loop_cases : ∀ (rest : List (List Int)) (i : Nat) (past : List Pc),
    (loopI i past rest = none ∧ ∀ j, j < rest.length → Goes past rest j) ∨
    (∃ k x w, loopI i past rest = some x ∧ rest[k]? = some w ∧ (∀ j, j < k → Goes past rest j) ∧
      ((pointsI w = none ∧ x = (1, i + k, 0)) ∨ ∃ s e, pointsI w = some s ∧ strokeFaultI s (pastAt past rest k) = some e ∧ x = (e.1, i + k, e.2)))
  | [], i, past => .inl ⟨rfl, fun j h => absurd h (by simp)⟩
  | w :: r, i, past => by
    cases hp : pointsI w with
    | none => exact .inr ⟨0, (1, i, 0), w, by unfold loopI; rw [hp], rfl, fun j h => absurd h (by omega), .inl ⟨hp, rfl⟩⟩
    | some s =>
      have es : ptsOf w = s := by unfold ptsOf; rw [hp]; rfl
      cases hf : strokeFaultI s past with
      | some e => exact .inr ⟨0, (e.1, i, e.2), w, by unfold loopI; rw [hp]; dsimp only; rw [hf], rfl, fun j h => absurd h (by omega), .inr ⟨s, e, hp, by rw [pastAt_zero]; exact hf, rfl⟩⟩
      | none =>
        have el : loopI i past (w :: r) = loopI (i + 1) (past ++ piecesI s) r := by
          rw [loopI]
          rw [hp]
          dsimp only
          rw [hf]
        have g0 : Goes past (w :: r) 0 := ⟨w, s, rfl, hp, by rw [pastAt_zero]; exact hf⟩
        have gs : ∀ j, Goes (past ++ piecesI s) r j → Goes past (w :: r) (j + 1) := by
          rintro j ⟨w', s', h1, h2, h3⟩
          exact ⟨w', s', by simpa using h1, h2, by rw [pastAt_cons, es]; exact h3⟩
        rcases loop_cases r (i + 1) (past ++ piecesI s) with ⟨h1, h2⟩ | ⟨k, x, w', h1, h2, h3, h4⟩
        · refine .inl ⟨by rw [el]; exact h1, fun j hj => ?_⟩
          cases j with
          | zero => exact g0
          | succ j => exact gs j (h2 j (by simpa using hj))
        · refine .inr ⟨k + 1, x, w', by rw [el]; exact h1, by simpa using h2, fun j hj => ?_, ?_⟩
          · cases j with
            | zero => exact g0
            | succ j => exact gs j (h3 j (by omega))
          · rcases h4 with ⟨h5, h6⟩ | ⟨s', e, h5, h6, h7⟩
            · exact .inl ⟨h5, by rw [h6]; simp; omega⟩
            · exact .inr ⟨s', e, h5, by rw [pastAt_cons, es]; exact h6, by rw [h7]; simp; omega⟩
end DG

end

section
namespace DG
open Neon

def strokesI (t : List Int) : List (List Pt) := (linesI t).tail.map ptsOf
def piecesT (t : List Int) : List Pc := (strokesI t).flatMap piecesI
def refusalI (t : List Int) : Option (List Int) := if 65536 < t.length then some [-2] else match faultI t with
  | none => none
  | some _ => some [-6]
theorem lines_ok : ∀ (rest : List Bytes) (i : Nat) (past l : List Stroke), judgeLines i past rest = .ok l → (∀ q ∈ past.flatMap piecesOf, Two q) → (past.flatMap piecesOf).length ≤ 64 → (∀ s ∈ past, ∀ p ∈ s, p.fine = true) →
    ∃ new, l = past ++ new ∧ rest.dropLast.map strokeIn = new.map some ∧ rest ≠ [] ∧ rest.getLastD [] = [] ∧ l ≠ [] ∧ (∀ s ∈ l, ∀ p ∈ s, p.fine = true) ∧ (∀ q ∈ l.flatMap piecesOf, Two q) ∧ (l.flatMap piecesOf).length ≤ 64
  | [], i, past, l, h, _, _, _ => by cases h
  | [w], i, past, l, h, ht, hl, hf => by
    unfold judgeLines at h
    split at h
    · cases h
    · next hc =>
      simp only [not_or, ne_eq, Decidable.not_not] at hc
      cases h
      exact ⟨[], by simp, rfl, by simp, by simp [hc.1], hc.2, hf, ht, hl⟩
  | w :: x :: r, i, past, l, h, ht, hl, hf => by
    unfold judgeLines at h
    cases hs : strokeIn w with
    | none => rw [hs] at h; cases h
    | some s =>
      rw [hs] at h
      dsimp only at h
      cases hw : wrongStroke (past.flatMap piecesOf) s with
      | some q => rw [hw] at h; cases h
      | none =>
        rw [hw] at h
        dsimp only at h
        obtain ⟨h1, h2, h3⟩ := wrong_none hw
        have e2 : (past ++ [s]).flatMap piecesOf = past.flatMap piecesOf ++ piecesOf s := by simp
        obtain ⟨new, a1, a2, a3, a4, a5, a6⟩ := lines_ok (x :: r) (i + 1) (past ++ [s]) l h (by
          rw [e2]
          intro q hq
          rcases List.mem_append.mp hq with h | h
          · exact ht q h
          · exact h2 q h) (by rw [e2, List.length_append]; exact h3) (by
          intro s' hs' p hp
          rcases List.mem_append.mp hs' with h | h
          · exact hf s' h p hp
          · simp at h
            subst h
            exact h1 p hp)
        refine ⟨s :: new, by rw [a1]; simp, ?_, by simp, ?_, a5, a6⟩
        · rw [List.dropLast_cons_of_ne_nil (by simp), List.map_cons, a2, hs]
          rfl
        · rw [List.getLastD_eq_getLast?] at a4 ⊢
          rw [List.getLast?_cons_cons]
          exact a4
structure OkD (t : List Int) (D : Drawing) : Prop where
  strokes : strokesI t = D.strokes.map (List.map ptI)
  pts : ∀ w ∈ (linesI t).tail, ∃ s, pointsI w = some s
  ne : ∃ w r, linesI t = w :: r
  two : ∀ q ∈ D.pieces, Two q
  few : D.pieces.length ≤ 64
  fine : ∀ s ∈ D.strokes, ∀ p ∈ s, p.fine = true
theorem ok_up {bs : List UInt8} {D : Drawing} (h : Neon.judge bs = .ok D) : OkD (bs.map up) D := by
  unfold Neon.judge at h
  have e := cutI_up 10 bs
  have e10 : up 10 = 10 := rfl
  rw [e10] at e
  match hc : cutAt 10 bs, h with
  | [], h => cases h
  | [_], h => cases h
  | w :: x :: r, h =>
    rw [hc] at e
    dsimp only at h
    cases hn : nameIn w with
    | none => rw [hn] at h; cases h
    | some n =>
      rw [hn] at h
      dsimp only at h
      cases hj : judgeLines 1 [] (x :: r) with
      | error q => rw [hj] at h; cases h
      | ok l =>
        rw [hj] at h
        cases h
        obtain ⟨new, a1, a2, a3, a4, a5, a6, a7, a8⟩ := lines_ok (x :: r) 1 [] l hj (by simp) (by simp) (by simp)
        simp only [List.nil_append] at a1
        subst a1
        have hlast : ((w :: x :: r).map (List.map up)).getLastD [] = [] := by
          rw [getLastD_map]
          rw [List.getLastD_eq_getLast?, List.getLast?_eq_some_getLast (by simp)] at a4
          have : (w :: x :: r).getLast (by simp) = [] := a4
          rw [this]
          rfl
        have hd : ((w :: x :: r).map (List.map up)).dropLast = w.map up :: ((x :: r).dropLast.map (List.map up)) := by
          simp [List.map_dropLast]
        have hlen : (x :: r).dropLast.length = l.length := by
          have := congrArg List.length a2
          simpa using this
        have hpos : 0 < l.length := List.length_pos_iff.mpr a5
        have hL : linesI (bs.map up) = w.map up :: ((x :: r).dropLast.map (List.map up)) := by
          unfold linesI
          rw [e]
          dsimp only
          rw [hlast, hd, List.length_cons, List.length_map, hlen]
          rw [if_neg]
          simp
          omega
        have hT : (linesI (bs.map up)).tail = (x :: r).dropLast.map (List.map up) := by rw [hL]; rfl
        have hS : ∀ (m : List Bytes) (l : List Stroke), m.map strokeIn = l.map some → (∀ s ∈ l, ∀ p ∈ s, p.fine = true) → (m.map (List.map up)).map ptsOf = l.map (List.map ptI) ∧ ∀ w ∈ m.map (List.map up), ∃ s, pointsI w = some s := by
          intro m
          induction m with
          | nil =>
            intro l h _
            cases l with
            | nil => exact ⟨rfl, by simp⟩
            | cons => cases h
          | cons a m ih =>
            intro l h hf
            cases l with
            | nil => cases h
            | cons s l =>
              simp only [List.map_cons, List.cons.injEq] at h
              obtain ⟨i1, i2⟩ := ih l h.2 fun s' hs' => hf s' (List.mem_cons_of_mem _ hs')
              have ep : pointsI (a.map up) = some (s.map ptI) := by
                rw [points_up, h.1]
                show some (s.map fun p => ptI (capP p)) = _
                rw [cap_all (hf s (by simp))]
              refine ⟨?_, ?_⟩
              · rw [List.map_cons, List.map_cons, List.map_cons, i1]
                unfold ptsOf
                rw [ep]
                rfl
              · intro w hw
                rcases List.mem_cons.mp hw with rfl | hw
                · exact ⟨_, ep⟩
                · exact i2 w hw
        obtain ⟨b1, b2⟩ := hS _ _ a2 a6
        exact ⟨by unfold strokesI; rw [hT]; exact b1, by rw [hT]; exact b2, ⟨_, _, hL⟩, a7, a8, a6⟩
theorem OkD.pieces {t : List Int} {D : Drawing} (h : OkD t D) : piecesT t = D.pieces.map pcI := by
  unfold piecesT Drawing.pieces
  rw [h.strokes, List.flatMap_map, List.map_flatMap]
  congr 1
  funext s
  exact pieces_up s
theorem of_drawing (bs : List UInt8) (f : Drawing → Reply) (g : List Int) (h : ∀ D, OkD (bs.map up) D → (f D).ret :: ((f D).nums.map fun (n : Nat) => (n : Int)) = g) :
    (ofDrawing bs f).ret :: ((ofDrawing bs f).nums.map fun (n : Nat) => (n : Int)) = (refusalI (bs.map up)).getD g := by
  unfold ofDrawing refusalI LOOKED
  rw [List.length_map, fault_up]
  by_cases hl : 65536 < bs.length
  · rw [if_pos hl, if_pos hl]
    rfl
  · rw [if_neg hl, if_neg hl]
    cases hj : Neon.judge bs with
    | error e => rfl
    | ok D => exact h D (ok_up hj)
theorem nat_ok {n : Int} (h : 0 ≤ n) : NeonANeutral.nat? n = some n.toNat := if_pos h

def isPointI (c : Pt) : Bool := decide (max c.1 c.2 ≤ 4095)
def shareI (p q : Pc) : Bool := endOfI p.1 q || endOfI p.2 q
theorem share_up (p q : Piece) : shareI (pcI p) (pcI q) = share p q := by
  unfold shareI share
  rw [any_ends]
  show (endOfI (ptI p.a) (pcI q) || endOfI (ptI p.b) (pcI q)) = _
  rw [endOf_up, endOf_up]
end DG

end

section
namespace DG
open Neon

def stepI (l : List Pc) (p : Pc) (least : List Nat) : List Nat :=
  let touched := ((List.range least.length).filter fun k => shareI p (l.getD k ((0, 0), (0, 0)))).map fun k => least.getD k 0
  let lowest := (touched.min?).getD least.length
  (least.map fun m => if m ∈ touched then lowest else m) ++ [lowest]
def leastI (l : List Pc) : Nat → List Nat
  | 0 => []
  | n + 1 => stepI l (l.getD n ((0, 0), (0, 0))) (leastI l n)
abbrev pcAt (l : List Pc) (i : Nat) : Pc := l.getD i ((0, 0), (0, 0))
theorem endOf_iff {c : Pt} {p : Pc} : endOfI c p = true ↔ p.1 = c ∨ p.2 = c := by
  unfold endOfI
  simp
theorem share_iff {p q : Pc} : shareI p q = true ↔ (q.1 = p.1 ∨ q.2 = p.1) ∨ (q.1 = p.2 ∨ q.2 = p.2) := by
  unfold shareI
  rw [Bool.or_eq_true, endOf_iff, endOf_iff]
theorem share_symm {p q : Pc} (h : shareI p q = true) : shareI q p = true := by
  rw [share_iff] at h ⊢
  rcases h with (h | h) | (h | h)
  · exact .inl (.inl h.symm)
  · exact .inr (.inl h.symm)
  · exact .inl (.inr h.symm)
  · exact .inr (.inr h.symm)
def Linked (l : List Pc) (n i k : Nat) : Prop := ∀ S : Nat → Prop, S i → (∀ a b, a < n → b < n → shareI (pcAt l a) (pcAt l b) = true → S a → S b) → S k
theorem Linked.refl {l : List Pc} {n i : Nat} : Linked l n i i := fun _ h _ => h
theorem Linked.trans {l : List Pc} {n i j k : Nat} (a : Linked l n i j) (b : Linked l n j k) : Linked l n i k := fun S h c => b S (a S h c) c
theorem Linked.one {l : List Pc} {n i j : Nat} (hi : i < n) (hj : j < n) (h : shareI (pcAt l i) (pcAt l j) = true) : Linked l n i j := fun _ s c => c i j hi hj h s
theorem Linked.symm {l : List Pc} {n i j : Nat} (h : Linked l n i j) : Linked l n j i :=
  h (fun x => Linked l n x i) .refl fun _ _ ha hb s c => (Linked.one hb ha (share_symm s)).trans c
theorem Linked.mono {l : List Pc} {n m i j : Nat} (hm : n ≤ m) (h : Linked l n i j) : Linked l m i j := fun S s c => h S s fun a b ha hb => c a b (by omega) (by omega)
structure Parted (l : List Pc) (n : Nat) (least : List Nat) : Prop where
  len : least.length = n
  le : ∀ i, i < n → least.getD i 0 ≤ i
  lk : ∀ i, i < n → Linked l n i (least.getD i 0)
  eq : ∀ i j, i < n → j < n → shareI (pcAt l i) (pcAt l j) = true → least.getD i 0 = least.getD j 0
theorem getD_map {α β : Type} (f : α → β) (l : List α) (i : Nat) (d : α) (e : β) (h : i < l.length) : (l.map f).getD i e = f (l.getD i d) := by
  simp [List.getD_eq_getElem?_getD, List.getElem?_map, List.getElem?_eq_getElem h]
theorem getD_snoc_lt {α : Type} (l : List α) (x d : α) (i : Nat) (h : i < l.length) : (l ++ [x]).getD i d = l.getD i d := by
  simp [List.getD_eq_getElem?_getD, List.getElem?_append_left h]
theorem getD_snoc_eq {α : Type} (l : List α) (x d : α) : (l ++ [x]).getD l.length d = x := by simp [List.getD_eq_getElem?_getD]
theorem parted (l : List Pc) : ∀ n, Parted l n (leastI l n)
  | 0 => ⟨rfl, fun i h => by omega, fun i h => by omega, fun i j h => by omega⟩
  | n + 1 => by
    have P := parted l n
    show Parted l (n + 1) (stepI l (pcAt l n) (leastI l n))
    generalize leastI l n = least at P
    unfold stepI
    dsimp only
    generalize hT : (((List.range least.length).filter fun k => shareI (pcAt l n) (l.getD k ((0, 0), (0, 0)))).map fun k => least.getD k 0) = T
    have mT : ∀ v, v ∈ T ↔ ∃ j, j < n ∧ shareI (pcAt l n) (pcAt l j) = true ∧ least.getD j 0 = v := by
      intro v
      rw [← hT, List.mem_map]
      constructor
      · rintro ⟨j, hj, e⟩
        rw [List.mem_filter, List.mem_range, P.len] at hj
        exact ⟨j, hj.1, hj.2, e⟩
      · rintro ⟨j, h1, h2, e⟩
        exact ⟨j, by rw [List.mem_filter, List.mem_range, P.len]; exact ⟨h1, h2⟩, e⟩
    generalize hw : (T.min?).getD least.length = low
    rw [P.len] at hw
    have hlow : (T = [] ∧ low = n) ∨ (low ∈ T ∧ ∀ v ∈ T, low ≤ v) := by
      cases hm : T.min? with
      | none =>
        rw [hm] at hw
        exact .inl ⟨List.min?_eq_none_iff.mp hm, hw.symm⟩
      | some m =>
        rw [hm] at hw
        have hw : m = low := hw
        subst hw
        exact .inr (List.min?_eq_some_iff.mp hm)
    have lowle : low ≤ n := by
      rcases hlow with ⟨_, h⟩ | ⟨h, _⟩
      · omega
      · obtain ⟨j, h1, _, h3⟩ := (mT low).mp h
        have := P.le j h1
        omega
    have lowlk : Linked l (n + 1) n low := by
      rcases hlow with ⟨_, h⟩ | ⟨h, _⟩
      · rw [h]
        exact .refl
      · obtain ⟨j, h1, h2, h3⟩ := (mT low).mp h
        exact (Linked.one (by omega) (by omega) h2).trans (h3 ▸ (P.lk j h1).mono (by omega))
    have hl' : (least.map fun m => if m ∈ T then low else m).length = n := by rw [List.length_map, P.len]
    have old : ∀ i, i < n → ((least.map fun m => if m ∈ T then low else m) ++ [low]).getD i 0 = if least.getD i 0 ∈ T then low else least.getD i 0 := fun i hi => by
      rw [getD_snoc_lt _ _ _ _ (by omega), getD_map (fun m => if m ∈ T then low else m) least i 0 0 (by rw [P.len]; exact hi)]
    have new : ((least.map fun m => if m ∈ T then low else m) ++ [low]).getD n 0 = low := by
      have := getD_snoc_eq (least.map fun m => if m ∈ T then low else m) low 0
      rw [hl'] at this
      exact this
    have inT : ∀ j, j < n → shareI (pcAt l n) (pcAt l j) = true → least.getD j 0 ∈ T := fun j h1 h2 => (mT _).mpr ⟨j, h1, h2, rfl⟩
    refine ⟨by rw [List.length_append, hl']; rfl, fun i hi => ?_, fun i hi => ?_, fun i j hi hj hs => ?_⟩
    · by_cases h : i < n
      · rw [old i h]
        have := P.le i h
        split
        · next hm =>
          rcases hlow with ⟨e, _⟩ | ⟨_, q⟩
          · rw [e] at hm
            cases hm
          · have := q _ hm
            omega
        · exact this
      · have : i = n := by omega
        subst this
        rw [new]
        exact lowle
    · by_cases h : i < n
      · rw [old i h]
        have L := (P.lk i h).mono (Nat.le_succ n)
        split
        · next hm =>
          obtain ⟨j, h1, h2, h3⟩ := (mT _).mp hm
          have Lj := (P.lk j h1).mono (Nat.le_succ n)
          rw [h3] at Lj
          exact (L.trans Lj.symm).trans ((Linked.one (by omega) (by omega) (share_symm h2)).trans lowlk)
        · exact L
      · have : i = n := by omega
        subst this
        rw [new]
        exact lowlk
    · by_cases h : i < n
      · by_cases h' : j < n
        · rw [old i h, old j h', P.eq i j h h' hs]
        · have : j = n := by omega
          subst this
          rw [new, old i h, if_pos (inT i h (share_symm hs))]
      · have : i = n := by omega
        subst this
        by_cases h' : j < i
        · rw [new, old j h', if_pos (inT j h' hs)]
        · have : j = i := by omega
          rw [this]
theorem Parted.iff {l : List Pc} {n : Nat} {least : List Nat} (P : Parted l n least) {i j : Nat} (hi : i < n) (hj : j < n) : least.getD i 0 = least.getD j 0 ↔ Linked l n i j := by
  constructor
  · intro h
    exact (P.lk i hi).trans (h ▸ (P.lk j hj).symm)
  · intro h
    have := h (fun k => k < n ∧ least.getD i 0 = least.getD k 0) ⟨hi, rfl⟩ fun a b ha hb s q => ⟨hb, q.2.trans (P.eq a b ha hb s)⟩
    exact this.2
theorem Parted.lt {l : List Pc} {n : Nat} {least : List Nat} (P : Parted l n least) {i : Nat} (hi : i < n) : least.getD i 0 < n := Nat.lt_of_le_of_lt (P.le i hi) hi
theorem Parted.idem {l : List Pc} {n : Nat} {least : List Nat} (P : Parted l n least) {i : Nat} (hi : i < n) : least.getD (least.getD i 0) 0 = least.getD i 0 :=
  ((P.iff hi (P.lt hi)).mpr (P.lk i hi)).symm

def stepR (l : List Piece) (s : List Nat) : List Nat := (List.range l.length).filter fun (i : Nat) => s.contains i || s.any fun (j : Nat) => match l[i]?, l[j]? with
    | some p, some q => share p q
    | _, _ => false
theorem reach_succ (l : List Piece) (n : Nat) (s : List Nat) : reach l (n + 1) s = reach l n (stepR l s) := rfl
theorem mem_stepR {l : List Piece} {s : List Nat} {i : Nat} : i ∈ stepR l s ↔ i < l.length ∧ (i ∈ s ∨ ∃ j ∈ s, j < l.length ∧ shareI (pcAt (l.map pcI) i) (pcAt (l.map pcI) j) = true) := by
  unfold stepR
  rw [List.mem_filter, List.mem_range]
  apply and_congr_right
  intro hi
  rw [Bool.or_eq_true, List.contains_iff_mem, List.any_eq_true]
  apply or_congr Iff.rfl
  have key : ∀ j, (match l[i]?, l[j]? with
    | some p, some q => share p q
    | _, _ => false) = true ↔ j < l.length ∧ shareI (pcAt (l.map pcI) i) (pcAt (l.map pcI) j) = true := by
    intro j
    rw [List.getElem?_eq_getElem hi]
    by_cases hj : j < l.length
    · rw [List.getElem?_eq_getElem hj]
      have e1 : pcAt (l.map pcI) i = pcI l[i] := by
        unfold pcAt
        simp [List.getD_eq_getElem?_getD, List.getElem?_map, List.getElem?_eq_getElem hi]
      have e2 : pcAt (l.map pcI) j = pcI l[j] := by
        unfold pcAt
        simp [List.getD_eq_getElem?_getD, List.getElem?_map, List.getElem?_eq_getElem hj]
      rw [e1, e2, share_up]
      simp [hj]
    · rw [List.getElem?_eq_none (by omega)]
      simp [hj]
  constructor
  · rintro ⟨j, hj, h⟩
    exact ⟨j, hj, (key j).mp h⟩
  · rintro ⟨j, hj, h⟩
    exact ⟨j, hj, (key j).mpr h⟩
def iter (l : List Piece) : Nat → List Nat → List Nat
  | 0, s => s
  | n + 1, s => stepR l (iter l n s)
theorem iter_succ (l : List Piece) : ∀ (n : Nat) (s : List Nat), iter l n (stepR l s) = stepR l (iter l n s)
  | 0, s => rfl
  | n + 1, s => by
    show stepR l (iter l n (stepR l s)) = stepR l (stepR l (iter l n s))
    rw [iter_succ l n s]
theorem reach_iter (l : List Piece) : ∀ (n : Nat) (s : List Nat), reach l n s = iter l n s
  | 0, s => rfl
  | n + 1, s => by
    rw [reach_succ, reach_iter l n, iter_succ]
    rfl
theorem stepR_nodup (l : List Piece) (s : List Nat) : (stepR l s).Nodup := List.Pairwise.filter _ List.nodup_range
theorem nodup_le : ∀ {a b : List Nat}, a.Nodup → (∀ x ∈ a, x ∈ b) → a.length ≤ b.length
  | [], b, _, _ => Nat.zero_le _
  | x :: a, b, nd, h => by
    obtain ⟨h1, h2⟩ := List.nodup_cons.mp nd
    have hx : x ∈ b := h x (by simp)
    have ih := nodup_le (a := a) (b := b.erase x) h2 fun y hy => (List.mem_erase_of_ne (fun (e : y = x) => h1 (e ▸ hy))).mpr (h y (List.mem_cons_of_mem _ hy))
    rw [List.length_erase_of_mem hx] at ih
    have : 0 < b.length := List.length_pos_of_mem hx
    simp
    omega
theorem step_congr {l : List Piece} {s u : List Nat} (h : ∀ j, j ∈ s ↔ j ∈ u) (j : Nat) : j ∈ stepR l s ↔ j ∈ stepR l u := by
  rw [mem_stepR, mem_stepR]
  simp only [h]
theorem step_sub {l : List Piece} {s : List Nat} (h : ∀ i ∈ s, i < l.length) : ∀ i ∈ s, i ∈ stepR l s := fun i hi => mem_stepR.mpr ⟨h i hi, .inl hi⟩
theorem iter_lt {l : List Piece} {i : Nat} (hi : i < l.length) : ∀ n, ∀ j ∈ iter l n [i], j < l.length
  | 0, j, hj => by
    have : j = i := by simpa [iter] using hj
    omega
  | n + 1, j, hj => (mem_stepR.mp hj).1
theorem iter_nodup {l : List Piece} {i : Nat} : ∀ n, (iter l n [i]).Nodup
  | 0 => by simp [iter]
  | n + 1 => stepR_nodup l _
theorem iter_grow {l : List Piece} {i : Nat} (hi : i < l.length) : ∀ n, n + 1 ≤ (iter l n [i]).length ∨ ∀ j, j ∈ stepR l (iter l n [i]) ↔ j ∈ iter l n [i]
  | 0 => .inl (by simp [iter])
  | n + 1 => by
    rcases iter_grow hi n with h | h
    · by_cases hs : ∀ j ∈ stepR l (iter l n [i]), j ∈ iter l n [i]
      · right
        exact step_congr fun j => ⟨hs j, step_sub (iter_lt hi n) j⟩
      · left
        simp only [Classical.not_forall] at hs
        obtain ⟨j, hj, hn⟩ := hs
        have hsub : ∀ k ∈ (j :: iter l n [i]), k ∈ stepR l (iter l n [i]) := by
          intro k hk
          rcases List.mem_cons.mp hk with rfl | hk
          · exact hj
          · exact step_sub (iter_lt hi n) k hk
        have nd : (j :: iter l n [i]).Nodup := List.nodup_cons.mpr ⟨hn, iter_nodup n⟩
        have := nodup_le nd hsub
        show n + 1 + 1 ≤ (stepR l (iter l n [i])).length
        simp at this
        omega
    · exact .inr (step_congr h)
theorem iter_still {l : List Piece} {i : Nat} (hi : i < l.length) (j : Nat) : j ∈ stepR l (iter l l.length [i]) ↔ j ∈ iter l l.length [i] := by
  rcases iter_grow hi l.length with h | h
  · have h2 : (iter l l.length [i]).length ≤ (List.range l.length).length := nodup_le (iter_nodup _) fun x hx => List.mem_range.mpr (iter_lt hi _ x hx)
    rw [List.length_range] at h2
    omega
  · exact h j
theorem iter_has {l : List Piece} {i : Nat} (hi : i < l.length) : ∀ n, i ∈ iter l n [i]
  | 0 => by simp [iter]
  | n + 1 => step_sub (iter_lt hi n) i (iter_has hi n)
theorem mem_part {l : List Piece} {i k : Nat} (hi : i < l.length) : k ∈ partOf l i ↔ k < l.length ∧ Linked (l.map pcI) l.length i k := by
  unfold partOf
  rw [reach_iter]
  constructor
  · intro h
    refine ⟨iter_lt hi _ k h, ?_⟩
    have : ∀ n, ∀ j ∈ iter l n [i], Linked (l.map pcI) l.length i j := by
      intro n
      induction n with
      | zero =>
        intro j hj
        have : j = i := by simpa [iter] using hj
        rw [this]
        exact .refl
      | succ n ih =>
        intro j hj
        obtain ⟨h1, h2 | ⟨m, h3, h4, h5⟩⟩ := mem_stepR.mp hj
        · exact ih j h2
        · exact (ih m h3).trans (Linked.one h4 h1 (share_symm h5))
    exact this _ k h
  · rintro ⟨hk, h⟩
    refine h (fun j => j ∈ iter l l.length [i]) (iter_has hi _) fun a b ha hb s q => ?_
    exact (iter_still hi b).mp (mem_stepR.mpr ⟨hb, .inr ⟨a, q, ha, share_symm s⟩⟩)
theorem filter_range_ext {n : Nat} {p : Nat → Bool} : ∀ {s : List Nat}, s.Pairwise (· < ·) → (∀ k, k ∈ s ↔ k < n ∧ p k = true) → s = (List.range n).filter p := by
  intro s hs hm
  have hr : ((List.range n).filter p).Pairwise (· < ·) := List.Pairwise.filter _ List.pairwise_lt_range
  have hm2 : ∀ k, k ∈ s ↔ k ∈ (List.range n).filter p := by
    intro k
    rw [hm, List.mem_filter, List.mem_range]
  generalize (List.range n).filter p = u at hr hm2
  clear hm
  induction s generalizing u with
  | nil =>
    cases u with
    | nil => rfl
    | cons a u => exact absurd ((hm2 a).mpr (by simp)) (by simp)
  | cons a s ih =>
    cases u with
    | nil => exact absurd ((hm2 a).mp (by simp)) (by simp)
    | cons b u =>
      have ha := List.pairwise_cons.mp hs
      have hb := List.pairwise_cons.mp hr
      have e : a = b := by
        rcases List.mem_cons.mp ((hm2 a).mp (by simp)) with h | h
        · exact h
        · rcases List.mem_cons.mp ((hm2 b).mpr (by simp)) with h' | h'
          · exact h'.symm
          · have := ha.1 b h'
            have := hb.1 a h
            omega
      subst e
      congr 1
      refine ih ha.2 u hb.2 fun k => ?_
      have := hm2 k
      simp only [List.mem_cons] at this
      constructor
      · intro h
        have h1 := ha.1 k h
        rcases this.mp (.inr h) with h' | h'
        · omega
        · exact h'
      · intro h
        have h1 := hb.1 k h
        rcases this.mpr (.inr h) with h' | h'
        · omega
        · exact h'
theorem iter_sorted {l : List Piece} {i : Nat} : ∀ n, (iter l n [i]).Pairwise (· < ·)
  | 0 => by simp [iter]
  | n + 1 => List.Pairwise.filter _ List.pairwise_lt_range
abbrev leastOf (l : List Piece) : List Nat := leastI (l.map pcI) l.length
theorem least_parted (l : List Piece) : Parted (l.map pcI) l.length (leastOf l) := parted _ _
theorem part_eq {l : List Piece} {i : Nat} (hi : i < l.length) : partOf l i = (List.range l.length).filter fun k => decide ((leastOf l).getD k 0 = (leastOf l).getD i 0) := by
  refine filter_range_ext (by unfold partOf; rw [reach_iter]; exact iter_sorted _) fun k => ?_
  rw [mem_part hi, decide_eq_true_eq]
  apply and_congr_right
  intro hk
  rw [← (least_parted l).iff hi hk, eq_comm]
theorem part_head {l : List Piece} {i : Nat} (hi : i < l.length) : (partOf l i).head? = some ((leastOf l).getD i 0) := by
  have P := least_parted l
  have hm : (leastOf l).getD i 0 ∈ partOf l i := (mem_part hi).mpr ⟨P.lt hi, P.lk i hi⟩
  have hs : (partOf l i).Pairwise (· < ·) := by unfold partOf; rw [reach_iter]; exact iter_sorted _
  cases hp : partOf l i with
  | nil => rw [hp] at hm; cases hm
  | cons a r =>
    rw [hp] at hm hs
    have ha : a ∈ partOf l i := by rw [hp]; simp
    obtain ⟨h1, h2⟩ := (mem_part hi).mp ha
    have e := (P.iff hi h1).mpr h2
    have le := P.le a h1
    rcases List.mem_cons.mp hm with h | h
    · rw [h]
      rfl
    · have := (List.pairwise_cons.mp hs).1 _ h
      omega
theorem heads_eq (l : List Piece) : heads l = (List.range l.length).filter fun i => decide ((leastOf l).getD i 0 = i) := by
  unfold heads
  apply List.filter_congr
  intro i hi
  rw [part_head (List.mem_range.mp hi), Bool.eq_iff_iff]
  simp
theorem mem_heads {l : List Piece} {v : Nat} : v ∈ heads l ↔ v ∈ leastOf l := by
  have P := least_parted l
  rw [heads_eq, List.mem_filter, List.mem_range, decide_eq_true_eq]
  constructor
  · rintro ⟨h1, h2⟩
    rw [← h2]
    rw [List.getD_eq_getElem?_getD, List.getElem?_eq_getElem (by rw [P.len]; exact h1)]
    exact List.getElem_mem _
  · intro h
    obtain ⟨i, hi, e⟩ := List.mem_iff_getElem.mp h
    have hi' : i < l.length := by rw [P.len] at hi; exact hi
    have e' : (leastOf l).getD i 0 = v := by
      rw [List.getD_eq_getElem?_getD, List.getElem?_eq_getElem hi]
      exact e
    rw [← e']
    exact ⟨P.lt hi', P.idem hi'⟩
end DG

end

section
namespace DG
open Neon

def BeforeI (a b : Pt) : Prop := a.2 < b.2 ∨ (a.2 = b.2 ∧ a.1 < b.1)
instance (a b : Pt) : Decidable (BeforeI a b) := by unfold BeforeI; exact inferInstance
theorem BeforeI.trans {a b c : Pt} (h : BeforeI a b) (k : BeforeI b c) : BeforeI a c := by
  unfold BeforeI at *
  omega
def endingI (c : Pt) (l : List Pc) : List Nat := (List.range l.length).filter fun i => endOfI c (pcAt l i)
theorem filter_places {α : Type} (p : α → Bool) (d : α) : ∀ l : List α, ((List.range l.length).filter fun i => p (l.getD i d)).length = (l.filter p).length
  | [] => rfl
  | a :: l => by
    have ih := filter_places p d l
    rw [List.length_cons, List.range_succ_eq_map, List.filter_cons, List.filter_map, List.filter_cons]
    have e : ((fun i => p ((a :: l).getD i d)) ∘ Nat.succ) = fun i => p (l.getD i d) := by
      funext i
      rfl
    rw [e]
    show (if p a = true then _ else _ : List Nat).length = _
    split
    · rw [List.length_cons, List.length_cons, List.length_map, ih]
    · rw [List.length_map, ih]
theorem degree_ending (c : Pt) (l : List Pc) : degreeI c l = (endingI c l).length := (filter_places (fun p => endOfI c p) ((0, 0), (0, 0)) l).symm
def leastT (l : List Pc) : List Nat := leastI l l.length
def headsI (l : List Pc) : List Nat := (List.range l.length).filter fun i => decide ((leastT l).getD i 0 = i)
def partM (i : Int) (t : List Int) : List Int := (refusalI t).getD (if ((piecesT t).length : Int) ≤ i then [-4] else
  ((headsI (piecesT t)).findIdx (fun z => decide (z = (leastT (piecesT t)).getD i.toNat 0)) : Int) :: ((List.range (piecesT t).length).filter fun k => decide ((leastT (piecesT t)).getD k 0 = (leastT (piecesT t)).getD i.toNat 0)).map fun (n : Nat) => (n : Int))
theorem heads_up (l : List Piece) : headsI (l.map pcI) = heads l := by
  rw [heads_eq]
  unfold headsI leastT
  rw [List.length_map]
theorem part_spec {i : Int} (hi : 0 ≤ i) (bs : List UInt8) : PyWqbadb.part i (bs.map up) = partM i (bs.map up) := by
  have hc : NeonANeutral.callOf [[6, i], bs.map up] = some (.part bs i.toNat) := by
    show (do return NeonA.Call.part (← NeonANeutral.text? (bs.map up)) (← NeonANeutral.nat? i)) = _
    rw [nat_ok hi, text_ok]
    rfl
  unfold PyWqbadb.part NeonANeutral.f partM
  rw [hc]
  refine of_drawing bs _ _ fun D o => ?_
  rw [o.pieces, heads_up]
  unfold leastT
  rw [List.length_map]
  by_cases h : i.toNat < D.pieces.length
  · rw [if_neg (by omega), if_neg (by omega)]
    show ((((heads D.pieces).idxOf? ((partOf D.pieces i.toNat).headD 0)).getD 0 : Nat) : Int) :: (partOf D.pieces i.toNat).map (fun (n : Nat) => (n : Int)) = _
    have hh : (partOf D.pieces i.toNat).headD 0 = (leastOf D.pieces).getD i.toNat 0 := by
      rw [List.headD_eq_head?_getD, part_head h]
      rfl
    rw [hh, part_eq h]
    congr 2
    have hm : (leastOf D.pieces).getD i.toNat 0 ∈ heads D.pieces := by
      rw [mem_heads, List.getD_eq_getElem?_getD, List.getElem?_eq_getElem (by rw [(least_parted D.pieces).len]; exact h)]
      exact List.getElem_mem _
    have hx : ∃ x ∈ heads D.pieces, (x == (leastOf D.pieces).getD i.toNat 0) = true := ⟨_, hm, by simp⟩
    have hl := List.findIdx_lt_length_of_exists hx
    unfold List.idxOf?
    rw [List.findIdx?_eq_some_iff_findIdx_eq.mpr ⟨hl, rfl⟩]
    show List.findIdx _ _ = List.findIdx _ _
    congr 1
  · rw [if_pos (by omega), if_pos (by omega)]
    rfl
end DG

end

section
set_option Elab.async false
set_option linter.all false
set_option maxRecDepth 100000
namespace PP
open PySem PySem.Spec PyProof.Rows L2
open DG
def ptD (c : Pt) : Da := .tup [.int c.1, .int c.2]
def pcD (p : Pc) : Da := .tup [ptD p.1, ptD p.2]
def ptP (c : Pt) : PyData := .tuple [.int c.1, .int c.2]
theorem toPy_pt (c : Pt) : toPy (ptD c) = ptP c := by simp [toPy, toPys, ptD, ptP]
theorem eqv_pt (a b : Pt) : PyData.eqv (ptP a) (ptP b) = decide (a = b) := by
  rw [Bool.eq_iff_iff]
  simp [PyData.eqv, PyData.eqvAll, ptP, Prod.ext_iff]
theorem lay_pt (c : Pt) : (ptP c).canLay0 = true := by simp [ptP, PyData.canLay0, PyData.canLayAll0]
theorem shaped_pt (c : Pt) : SeqAt.shaped (ptP c) = true := by
  simp [SeqAt.shaped, ptP, PyData.canLay0, PyData.canLayAll0, PyData.depth, PyData.depthAll]
theorem fit_pts : ∀ l : List Pt, FitL (toPys (l.map ptD))
  | [] => ⟨by simp [toPys, PyData.canLayAll0], by simp [toPys, PyData.depthAll]⟩
  | c :: l => by
    obtain ⟨h1, h2⟩ := fit_pts l
    refine ⟨?_, ?_⟩
    · rw [List.map_cons, toPys, PyData.canLayAll0, toPy_pt, lay_pt, h1]
      rfl
    · rw [List.map_cons, toPys, PyData.depthAll, toPy_pt]
      simp [ptP, PyData.depth, PyData.depthAll]
      omega
theorem in_pts (c : Pt) : ∀ l : List Pt, inD (ptD c) (l.map ptD) = l.any fun z => decide (z = c)
  | [] => by simp [inD, toPys]
  | z :: l => by
    have ih := in_pts c l
    unfold inD at ih ⊢
    rw [List.map_cons, toPys, List.any_cons, List.any_cons, ih, toPy_pt, toPy_pt, eqv_pt]
theorem in_pc (c : Pt) (p : Pc) : inD (ptD c) [ptD p.1, ptD p.2] = endOfI c p := by
  have := in_pts c [p.1, p.2]
  simp only [List.map_cons, List.map_nil, List.any_cons, List.any_nil, Bool.or_false] at this
  exact this
theorem fit_pc (p : Pc) : FitL (toPys [ptD p.1, ptD p.2]) := fit_pts [p.1, p.2]
section
variable {X : Cx} {ρ : Rho} {a b : Expr} {pos : Pos} {k : Nat}
theorem pp_inPc {c : Pt} {p : Pc} (hr : Room k X.A) (ha : PP X ρ a (ptD c)) (hb : PP X ρ b (pcD p)) (hm : behindInMarks .In b = false := by with_unfolding_all rfl) : PP X ρ (.Compare a [.In] [b] pos) (.bl (endOfI c p)) :=
  pp_eq (pp_in (ds := [ptD p.1, ptD p.2]) hr rfl (by rw [toPy_pt]; exact lay_pt c) (fit_pc p) ha hb hm) (by rw [in_pc])
theorem pp_notInPc {c : Pt} {p : Pc} (hr : Room k X.A) (ha : PP X ρ a (ptD c)) (hb : PP X ρ b (pcD p)) (hm : behindInMarks .NotIn b = false := by with_unfolding_all rfl) : PP X ρ (.Compare a [.NotIn] [b] pos) (.bl (!endOfI c p)) :=
  pp_eq (pp_notIn (ds := [ptD p.1, ptD p.2]) hr rfl (by rw [toPy_pt]; exact lay_pt c) (fit_pc p) ha hb hm) (by rw [in_pc])
theorem ppt_inPc {c : Pt} {p : Pc} (hr : Room k X.A) (ha : PP X ρ a (ptD c)) (hb : PP X ρ b (pcD p)) (hm : behindInMarks .In b = false := by with_unfolding_all rfl) : PPt X ρ (.Compare a [.In] [b] pos) (endOfI c p) :=
  ppt_eq (ppt_in (ds := [ptD p.1, ptD p.2]) hr rfl (by rw [toPy_pt]; exact lay_pt c) (fit_pc p) ha hb hm) (by rw [in_pc])
theorem pp_eqPt {c e : Pt} (hr : Room k X.A) (ha : PP X ρ a (ptD c)) (hb : PP X ρ b (ptD e)) : PP X ρ (.Compare a [.Eq] [b] pos) (.bl (decide (c = e))) :=
  pp_eq (pp_eqD hr (by rw [toPy_pt]; exact shaped_pt c) (by rw [toPy_pt]; exact shaped_pt e) ha hb) (by rw [toPy_pt, toPy_pt, eqv_pt])
end
def Sm (c : Pt) : Prop := 0 ≤ c.1 ∧ c.1 ≤ 4095 ∧ 0 ≤ c.2 ∧ c.2 ≤ 4095
def SmP (p : Pc) : Prop := Sm p.1 ∧ Sm p.2
def R_is_point (ds : List Da) (d : Da) : Prop := ∃ c : Pt, ds = [ptD c] ∧ d = .bl (isPointI c)
def R_side (ds : List Da) (d : Da) : Prop := ∃ (p : Pc) (c : Pt), SmP p ∧ Sm c ∧ ds = [pcD p, ptD c] ∧ d = .int (sideI p c)
def R_is_between (ds : List Da) (d : Da) : Prop := ∃ v a b : Int, ds = [.int v, .int a, .int b] ∧ d = .bl (betweenI v a b)
def R_lies_on (ds : List Da) (d : Da) : Prop := ∃ (c : Pt) (p : Pc), SmP p ∧ Sm c ∧ ds = [ptD c, pcD p] ∧ d = .bl (liesOnI c p)
def R_ends_in_midst (ds : List Da) (d : Da) : Prop := ∃ p q : Pc, SmP p ∧ SmP q ∧ ds = [pcD p, pcD q] ∧ d = .bl (midstI p q)
def R_divides (ds : List Da) (d : Da) : Prop := ∃ p q : Pc, SmP p ∧ SmP q ∧ ds = [pcD p, pcD q] ∧ d = .bl (dividesI p q)
def R_meets_badly (ds : List Da) (d : Da) : Prop := ∃ p q : Pc, SmP p ∧ SmP q ∧ ds = [pcD p, pcD q] ∧ d = .bl (badI p q)
def R_shares_end (ds : List Da) (d : Da) : Prop := ∃ p q : Pc, ds = [pcD p, pcD q] ∧ d = .bl (shareI p q)
theorem side_bound {p : Pc} {c : Pt} (hp : SmP p) (hc : Sm c) : -(2 ^ 64) < sideI p c ∧ sideI p c < 2 ^ 64 := by
  obtain ⟨⟨a1, a2, a3, a4⟩, b1, b2, b3, b4⟩ := hp
  obtain ⟨c1, c2, c3, c4⟩ := hc
  unfold sideI
  have key : ∀ x y : Int, -4095 ≤ x → x ≤ 4095 → -4095 ≤ y → y ≤ 4095 → -16769025 ≤ x * y ∧ x * y ≤ 16769025 := by
    intro x y h1 h2 h3 h4
    have e1 : 0 ≤ (4095 - x) * (4095 + y) := Int.mul_nonneg (by omega) (by omega)
    have e2 : 0 ≤ (4095 + x) * (4095 - y) := Int.mul_nonneg (by omega) (by omega)
    have e3 : 0 ≤ (4095 - x) * (4095 - y) := Int.mul_nonneg (by omega) (by omega)
    have e4 : 0 ≤ (4095 + x) * (4095 + y) := Int.mul_nonneg (by omega) (by omega)
    rw [Int.sub_mul, Int.mul_add, Int.mul_add] at e1
    rw [Int.add_mul, Int.mul_sub, Int.mul_sub] at e2
    rw [Int.sub_mul, Int.mul_sub, Int.mul_sub] at e3
    rw [Int.add_mul, Int.mul_add, Int.mul_add] at e4
    omega
  have k1 := key (p.2.1 - p.1.1) (c.2 - p.1.2) (by omega) (by omega) (by omega) (by omega)
  have k2 := key (p.2.2 - p.1.2) (c.1 - p.1.1) (by omega) (by omega) (by omega) (by omega)
  omega
theorem hide_nil (H : Hp) : hide H [] = H := by
  funext b
  unfold hide
  simp
theorem back_ints {K : PySem.W.Frag} {H : Hp} {v : V} {ns : List Int} (h : Rp K (hide H []) v (.lst (ns.map Da.int))) : Dw K H v (.list (ns.map PySem.W.WData.int)) := by
  rw [hide_nil] at h
  obtain ⟨a, xs, rfl, e, r⟩ := h.lst_inv
  rw [r.ints] at e
  exact .lst (SqL.of e) (dw_ints ns)
theorem known_of {P : Program} {w : World} {K : PySem.W.Frag} {mg : Str → Option Value} {base : Heap} {x : Str} {k : Nat} {sp : Sp} {st : Stmt} {f : Addr} {fd : FuncData} {ps : List Str} (F : Fun K x x st f fd) (hm : mg x = some (.ref f)) (hb : Binds K fd ps []) (G : FnOk P w K mg base CX0 k f fd ps sp) : Known P w K mg base x k sp :=
  ⟨⟨f, fd, ps, hm, F.kp, hb, G⟩⟩
end PP

end

section
set_option Elab.async false
set_option linter.all false
set_option maxRecDepth 100000
namespace PP
open PySem PySem.Spec PyProof.Rows L2
open DG
def forTg (s : Stmt) : Expr := match s with
  | .For tg _ _ _ _ => tg
  | _ => .Constant .none 0 ⟨0, 0, 0, 0⟩
def forIt (s : Stmt) : Expr := match s with
  | .For _ it _ _ _ => it
  | _ => .Constant .none 0 ⟨0, 0, 0, 0⟩
def forBody (s : Stmt) : List Stmt := match s with
  | .For _ _ b _ _ => b
  | _ => []
def stAt (l : List Stmt) (i : Nat) : Stmt := l.getD i (.Pass ⟨0, 0, 0, 0⟩)
def linD (w : List Int) : Da := .lst (w.map Da.int)
def isInts (d : Da) (ns : List Int) : Prop := d = .arg ns ∨ d = linD ns
theorem Rp.isInts {K : PySem.W.Frag} {H : Hp} {v : V} {d : Da} {ns : List Int} (h : Rp K H v d) (q : PP.isInts d ns) : ∃ a, v = .ref a ∧ SqL K H a (ns.map V.int) := by
  rcases q with rfl | rfl
  · exact h.arg_inv
  · obtain ⟨a, xs, rfl, e, r⟩ := h.lst_inv
    rw [r.ints] at e
    exact ⟨a, rfl, SqL.of e⟩
def optPt : Option Pt → Da
  | none => .non
  | some c => ptD c
def optPts : Option (List Pt) → Da
  | none => .non
  | some s => .lst (s.map ptD)
def optNat : Option Nat → Da
  | none => .non
  | some i => .int (i : Nat)
def optTwo : Option (Nat × Nat) → Da
  | none => .non
  | some e => .tup [.int (e.1 : Nat), .int (e.2 : Nat)]
def optThree : Option (Nat × Nat × Nat) → Da
  | none => .non
  | some e => .tup [.int (e.1 : Nat), .int (e.2.1 : Nat), .int (e.2.2 : Nat)]
def codesOf (x : Str) : List Int := x.cps.toList.map fun (c : Nat) => (c : Int)
def R_split_at (ds es : List Da) : Prop := ∃ (d : Da) (ns : List Int) (m : Int), isInts d ns ∧ ns.length ≤ 65536 ∧ ds = [d, .int m] ∧ es = (cutI m ns).map linD
def R_lines_of (ds : List Da) (d : Da) : Prop := ∃ t : List Int, t.length ≤ 65536 ∧ ds = [.arg t] ∧ d = .lst ((linesI t).map linD)
def R_spells (ds : List Da) (d : Da) : Prop := ∃ (w : List Int) (x : Str), x.cps.size ≤ 100 ∧ w.length ≤ 65536 ∧ ds = [linD w, .str x] ∧ d = .bl (decide (w = codesOf x))
def R_is_letter (ds : List Da) (d : Da) : Prop := ∃ b : Int, ds = [.int b] ∧ d = .bl (isLetterI b)
def R_is_digit (ds : List Da) (d : Da) : Prop := ∃ b : Int, ds = [.int b] ∧ d = .bl (isDigitI b)
def R_is_name (ds : List Da) (d : Da) : Prop := ∃ w : List Int, w.length ≤ 65536 ∧ ds = [linD w] ∧ d = .bl (isNameI w)
def R_is_number (ds : List Da) (d : Da) : Prop := ∃ w : List Int, w.length ≤ 65536 ∧ ds = [linD w] ∧ d = .bl (isNumI w)
def R_coordinate_of (ds : List Da) (d : Da) : Prop := ∃ w : List Int, w.length ≤ 65536 ∧ isNumI w = true ∧ ds = [linD w] ∧ d = .int (coordI w)
def R_point_of (ds : List Da) (d : Da) : Prop := ∃ w : List Int, w.length ≤ 65536 ∧ ds = [linD w] ∧ d = optPt (pointI w)
def R_points_of (ds : List Da) (d : Da) : Prop := ∃ w : List Int, w.length ≤ 65536 ∧ ds = [linD w] ∧ d = optPts (pointsI w)
def R_is_sign_line (ds : List Da) (d : Da) : Prop := ∃ w : List Int, w.length ≤ 65536 ∧ ds = [linD w] ∧ d = .bl (signI w)
def R_first_true (ds : List Da) (d : Da) : Prop := ∃ bs : List Bool, bs.length ≤ 65536 ∧ ds = [.lst (bs.map Da.bl)] ∧ d = optNat (firstI bs)
def R_stroke_pieces (ds : List Da) (d : Da) : Prop := ∃ s : List Pt, s.length ≤ 65536 ∧ ds = [.lst (s.map ptD)] ∧ d = .lst ((piecesI s).map pcD)
def R_meets_one_badly (ds : List Da) (d : Da) : Prop := ∃ (p : Pc) (l : List Pc), SmP p ∧ (∀ q ∈ l, SmP q) ∧ l.length ≤ 65536 ∧ ds = [pcD p, .lst (l.map pcD)] ∧ d = .bl (l.any fun q => badI p q)
def R_ending_at (ds : List Da) (d : Da) : Prop := ∃ (c : Pt) (l : List Pc), l.length ≤ 65536 ∧ ds = [ptD c, .lst (l.map pcD)] ∧ d = .lst ((endingI c l).map fun (n : Nat) => Da.int (n : Int))
def R_degree (ds : List Da) (d : Da) : Prop := ∃ (c : Pt) (l : List Pc), l.length ≤ 65536 ∧ ds = [ptD c, .lst (l.map pcD)] ∧ d = .int (degreeI c l : Nat)
def R_is_one_too_many (ds : List Da) (d : Da) : Prop := ∃ (p : Pc) (l : List Pc), l.length ≤ 65536 ∧ ds = [pcD p, .lst (l.map pcD)] ∧ d = .bl (ninthI p l)
def R_stroke_fault (ds : List Da) (d : Da) : Prop := ∃ (s : List Pt) (l : List Pc), (∀ c ∈ s, 0 ≤ c.1 ∧ 0 ≤ c.2) ∧ (∀ q ∈ l, SmP q) ∧ s.length ≤ 65 ∧ l.length ≤ 64 ∧ ds = [.lst (s.map ptD), .lst (l.map pcD)] ∧ d = optTwo (strokeFaultI s l)
def R_fault_of (ds : List Da) (d : Da) : Prop := ∃ t : List Int, t.length ≤ 65536 ∧ ds = [.arg t] ∧ d = optThree (faultI t)
def judgeM (t : List Int) : List Int := if 65536 < t.length then [-2] else faultOut (faultI t)
def R_judge (ds : List Da) (d : Da) : Prop := ∃ t : List Int, ds = [.arg t] ∧ d = .lst ((judgeM t).map Da.int)
structure Shares (H H' : Hp) (S : Addr) (as : List Addr) (ws : List (List Int)) : Prop where
  same : Same H H'
  out : H S = none
  top : H' S = some (.lst (as.map V.ref))
  len : as.length = ws.length
  nd : as.Nodup
  at_ : ∀ (j : Nat) (a : Addr), as[j]? = some a → H a = none ∧ a ≠ S ∧ ∃ w, ws[j]? = some w ∧ H' a = some (.lst (w.map V.int))
theorem Shares.more {H H' : Hp} {S p : Addr} {as : List Addr} {ws : List (List Int)} (x : Shares H H' S as ws) (hp : H' p = none) :
    Shares H (upd (upd H' p (.lst [])) S (.lst (as.map V.ref ++ [V.ref p]))) S (as ++ [p]) (ws ++ [[]]) := by
  have pS : p ≠ S := fun e => by rw [e, x.top] at hp; cases hp
  have hpH : H p = none := x.same.free hp
  have pas : ∀ a ∈ as, a ≠ p := fun a ha => by
    obtain ⟨j, hj⟩ := List.getElem?_of_mem ha
    obtain ⟨_, _, w, _, e⟩ := x.at_ j a hj
    exact ne_of_none e hp
  refine ⟨fun b o e => ?_, x.out, ?_, by simp [x.len], ?_, fun j a h => ?_⟩
  · rw [upd_ne (ne_of_none e x.out), upd_ne (ne_of_none e hpH)]
    exact x.same _ _ e
  · rw [upd_same]
    simp
  · refine List.nodup_append.mpr ⟨x.nd, by simp, fun a ha b hb => ?_⟩
    rw [List.mem_singleton.mp hb]
    exact pas a ha
  · by_cases hj : j < as.length
    · rw [List.getElem?_append_left hj] at h
      obtain ⟨h1, h2, w, h3, h4⟩ := x.at_ j a h
      refine ⟨h1, h2, w, ?_, ?_⟩
      · rw [List.getElem?_append_left (by rw [← x.len]; exact hj)]
        exact h3
      · rw [upd_ne h2, upd_ne (pas a (List.mem_of_getElem? h))]
        exact h4
    · have : j = as.length := by
        have := (List.getElem?_eq_some_iff.mp h).1
        simp at this
        omega
      subst this
      simp at h
      subst h
      refine ⟨hpH, pS, [], ?_, ?_⟩
      · rw [x.len]
        simp
      · rw [upd_ne pS, upd_same]
        rfl
theorem nodup_ix {α : Type} {l : List α} (hN : l.Nodup) {i j : Nat} {x : α} (a : l[i]? = some x) (b : l[j]? = some x) : i = j := by
  obtain ⟨h1, e1⟩ := List.getElem?_eq_some_iff.mp a
  obtain ⟨h2, e2⟩ := List.getElem?_eq_some_iff.mp b
  exact (List.getElem_inj hN).mp (e1.trans e2.symm)
theorem Shares.grow {H H' : Hp} {S a : Addr} {as : List Addr} {A : List (List Int)} {w : List Int} {z : Int} (x : Shares H H' S as (A ++ [w])) (ha : as[A.length]? = some a) :
    H' a = some (.lst (w.map V.int)) ∧ a ≠ S ∧ Shares H (upd H' a (.lst (w.map V.int ++ [V.int z]))) S as (A ++ [w ++ [z]]) := by
  obtain ⟨h1, h2, w', h3, h4⟩ := x.at_ _ a ha
  simp at h3
  subst h3
  refine ⟨h4, h2, fun b o e => ?_, x.out, ?_, by rw [x.len]; simp, x.nd, fun j b h => ?_⟩
  · rw [upd_ne (ne_of_none e h1)]
    exact x.same _ _ e
  · rw [upd_ne h2.symm]
    exact x.top
  · obtain ⟨g1, g2, v, g3, g4⟩ := x.at_ j b h
    refine ⟨g1, g2, ?_⟩
    by_cases e : j = A.length
    · subst e
      rw [ha] at h
      cases h
      exact ⟨w ++ [z], by simp, by rw [upd_same]; simp⟩
    · have : b ≠ a := fun q => e (nodup_ix x.nd h (by rw [q]; exact ha))
      refine ⟨v, ?_, by rw [upd_ne this]; exact g4⟩
      have hl := (List.getElem?_eq_some_iff.mp g3).1
      simp at hl
      have hj : j < A.length := by omega
      rw [List.getElem?_append_left hj] at g3 ⊢
      exact g3
theorem take_snoc {α : Type} {l : List α} {i : Nat} {x : α} (h : l[i]? = some x) : l.take (i + 1) = l.take i ++ [x] := by
  obtain ⟨hi, e⟩ := List.getElem?_eq_some_iff.mp h
  rw [← e, List.take_append_getElem hi]
theorem num_digits {w : List Int} (h : isNumI w = true) : ∀ b ∈ w, 48 ≤ b ∧ b ≤ 57 := by
  unfold isNumI at h
  split at h
  · cases h
  · next hc =>
    simp only [Bool.or_eq_true, not_or, Bool.not_eq_true', Bool.not_eq_false] at hc
    intro b hb
    have := List.all_eq_true.mp hc.2 (isDigitI b) (List.mem_map_of_mem hb)
    unfold isDigitI at this
    simpa using this
theorem fold_bound : ∀ (w : List Int), (∀ b ∈ w, 48 ≤ b ∧ b ≤ 57) → w.length ≤ 4 → -(2 ^ 64) < w.foldl (fun v d => v * 10 + d - 48) 0 ∧ w.foldl (fun v d => v * 10 + d - 48) 0 < (2 : Int) ^ 64 := by
  have key : ∀ (w : List Int) (v : Int), (∀ b ∈ w, 48 ≤ b ∧ b ≤ 57) → 0 ≤ v → 0 ≤ w.foldl (fun v d => v * 10 + d - 48) v ∧ w.foldl (fun v d => v * 10 + d - 48) v < (v + 1) * 10 ^ w.length := by
    intro w
    induction w with
    | nil => intro v _ hv; simp; omega
    | cons b w ih =>
      intro v hb hv
      have h1 := hb b (by simp)
      obtain ⟨i1, i2⟩ := ih (v * 10 + b - 48) (fun x hx => hb x (List.mem_cons_of_mem _ hx)) (by omega)
      refine ⟨i1, Int.lt_of_lt_of_le i2 ?_⟩
      rw [List.length_cons, Int.pow_succ, Int.mul_comm (10 ^ w.length) 10, ← Int.mul_assoc]
      exact Int.mul_le_mul_of_nonneg_right (by omega) (Int.pow_nonneg (by decide))
  intro w hb hl
  obtain ⟨h1, h2⟩ := key w 0 hb (by decide)
  have h3 : (10 : Int) ^ w.length ≤ 10 ^ 4 := by
    have := Nat.pow_le_pow_right (n := 10) (by decide) hl
    have e : ∀ n : Nat, ((10 ^ n : Nat) : Int) = (10 : Int) ^ n := fun n => by simp
    rw [← e, ← e]
    omega
  have : (10 : Int) ^ 4 = 10000 := by decide
  omega
theorem codes_sign : codesOf ("sign" : Str) = signW := by decide +kernel
theorem codes_stroke : codesOf ("stroke" : Str) = strokeW := by decide +kernel
theorem cut_tail (d : Da) (ds : List Da) : cutD (d :: ds) (some 1) none = ds := by
  unfold cutD HT.sIx
  simp
theorem cut_tail' (ds : List Da) : cutD ds (some 1) none = ds.tail := by
  cases ds with
  | nil => simp [cutD]
  | cons d ds => exact cut_tail d ds
theorem cut_head (ds : List Da) (n : Nat) : cutD ds none (some (n : Int)) = ds.take n := by
  unfold cutD
  have e : HT.sIx ds.length 0 none = 0 := rfl
  have e2 : HT.sIx ds.length ds.length (some (n : Int)) = min n ds.length := by
    unfold HT.sIx
    simp
    try omega
  rw [e, e2, List.drop_zero, Nat.sub_zero]
  by_cases h : n ≤ ds.length
  · rw [Nat.min_eq_left h]
  · rw [Nat.min_eq_right (by omega), List.take_length, List.take_of_length_le (by omega)]
theorem zip_pieces (s : List Pt) : ((s.map ptD).zip (s.map ptD).tail).map (fun q => Da.tup [q.1, q.2]) = (piecesI s).map pcD := by
  unfold piecesI
  rw [← List.map_tail, List.zip_map, List.map_map]
  rfl
theorem fit_opts : ∀ l : List (List Int), FitL (toPys (l.map fun u => optPt (pointI u)))
  | [] => ⟨by simp [toPys, PyData.canLayAll0], by simp [toPys, PyData.depthAll]⟩
  | u :: l => by
    obtain ⟨h1, h2⟩ := fit_opts l
    refine ⟨?_, ?_⟩
    · rw [List.map_cons, toPys, PyData.canLayAll0, h1]
      cases pointI u with
      | none => rfl
      | some c =>
        show ((toPy (ptD c)).canLay0 && true) = true
        rw [toPy_pt, lay_pt]
        rfl
    · rw [List.map_cons, toPys, PyData.depthAll]
      generalize PyData.depthAll (toPys (l.map fun u => optPt (pointI u))) = n at h2
      cases pointI u with
      | none =>
        show max (toPy .non).depth n ≤ 60
        simp [toPy, PyData.depth]
        omega
      | some c =>
        show max (toPy (ptD c)).depth _ ≤ 60
        rw [toPy_pt]
        simp [ptP, PyData.depth, PyData.depthAll]
        omega
theorem in_opts : ∀ l : List (List Int), inD .non (l.map fun u => optPt (pointI u)) = l.any fun u => (pointI u).isNone
  | [] => by simp [inD, toPys]
  | u :: l => by
    have ih := in_opts l
    unfold inD at ih ⊢
    rw [List.map_cons, toPys, List.any_cons, List.any_cons, ih]
    congr 1
    cases pointI u with
    | none => simp [optPt, toPy, PyData.eqv]
    | some c => simp [optPt, ptD, toPy, PyData.eqv]
theorem mapM_none : ∀ {r : List (List Int)}, (r.any fun u => (pointI u).isNone) = true → r.mapM pointI = none
  | [], h => by simp at h
  | u :: r, h => by
    rw [List.any_cons, Bool.or_eq_true] at h
    rw [List.mapM_cons]
    cases hu : pointI u with
    | none => rfl
    | some c =>
      rw [hu] at h
      rcases h with h | h
      · cases h
      · rw [mapM_none h]
        rfl
theorem mapM_some : ∀ {r : List (List Int)}, (r.any fun u => (pointI u).isNone) = false → r.mapM pointI = some (r.map fun u => (pointI u).getD (0, 0))
  | [], _ => rfl
  | u :: r, h => by
    rw [List.any_cons, Bool.or_eq_false_iff] at h
    rw [List.mapM_cons, mapM_some h.2]
    cases hu : pointI u with
    | none => rw [hu] at h; cases h.1
    | some c =>
      simp [hu]
theorem opts_some : ∀ {r : List (List Int)}, (r.any fun u => (pointI u).isNone) = false → Da.lst (r.map fun u => optPt (pointI u)) = optPts (some (r.map fun u => (pointI u).getD (0, 0))) := by
  intro r h
  show Da.lst (r.map fun u => optPt (pointI u)) = Da.lst ((r.map fun u => (pointI u).getD (0, 0)).map ptD)
  rw [List.map_map]
  congr 1
  apply List.map_congr_left
  intro u hu
  have := List.any_eq_false.mp h u hu
  cases hp : pointI u with
  | none => rw [hp] at this; simp at this
  | some c => simp [optPt, hp]
theorem last_of (c : Int) (l : List Int) : ∃ A w, cutI c l = A ++ [w] := by
  have h := cutI_ne c l
  exact ⟨(cutI c l).dropLast, (cutI c l).getLast h, (List.dropLast_concat_getLast h).symm⟩
theorem lines_short {t : List Int} (ht : t.length ≤ 65536) : ∀ u ∈ linesI t, u.length ≤ 65536 := by
  intro u hu
  unfold linesI at hu
  dsimp only at hu
  have key : ∀ v ∈ (cutI 10 t).dropLast, v.length ≤ 65536 := fun v hv => Nat.le_trans (cutI_sum 10 t v ((List.dropLast_sublist _).subset hv)) ht
  split at hu
  · rcases List.mem_append.mp hu with h | h
    · exact key u h
    · simp at h
      simp [h]
  · exact key u hu
theorem lines_few {t : List Int} (ht : t.length ≤ 65536) : (linesI t).length ≤ 65538 := by
  have h := cutI_len 10 t
  unfold linesI
  dsimp only
  split
  · simp
    omega
  · simp
    omega
theorem lines_ne (t : List Int) : linesI t ≠ [] := by
  unfold linesI
  dsimp only
  split
  · simp
  · next h =>
    intro q
    rw [q] at h
    simp at h
theorem coord_nonneg {w : List Int} (h : isNumI w = true) : 0 ≤ coordI w := by
  have hd := num_digits h
  unfold coordI
  split
  · decide
  · have key : ∀ (w : List Int) (v : Int), (∀ b ∈ w, 48 ≤ b ∧ b ≤ 57) → 0 ≤ v → 0 ≤ w.foldl (fun v d => v * 10 + d - 48) v := by
      intro w
      induction w with
      | nil => intro v _ hv; exact hv
      | cons b w ih =>
        intro v hb hv
        have h1 := hb b (by simp)
        exact ih _ (fun x hx => hb x (List.mem_cons_of_mem _ hx)) (by show 0 ≤ v * 10 + b - 48; omega)
    exact key w 0 hd (by decide)
theorem point_nonneg {w : List Int} {c : Pt} (h : pointI w = some c) : 0 ≤ c.1 ∧ 0 ≤ c.2 := by
  unfold pointI at h
  split at h
  · split at h
    · next hn =>
      rw [Bool.and_eq_true] at hn
      cases h
      exact ⟨coord_nonneg hn.1, coord_nonneg hn.2⟩
    · cases h
  · cases h
theorem points_nonneg {w : List Int} {s : List Pt} (h : pointsI w = some s) : (∀ c ∈ s, 0 ≤ c.1 ∧ 0 ≤ c.2) ∧ s.length ≤ 65 := by
  unfold pointsI at h
  split at h
  · next v r hc =>
    split at h
    · next hn =>
      by_cases hb : (r.any fun u => (pointI u).isNone) = true
      · rw [mapM_none hb] at h
        cases h
      · have hb := Bool.eq_false_iff.mpr hb
        rw [mapM_some hb] at h
        cases h
        refine ⟨fun c hc => ?_, by rw [List.length_map]; exact hn.2.2⟩
        obtain ⟨u, hu, rfl⟩ := List.mem_map.mp hc
        have := List.any_eq_false.mp hb u hu
        cases hp : pointI u with
        | none => rw [hp] at this; simp at this
        | some c => exact point_nonneg hp
    · cases h
  · cases h
def SmAll (l : List Pc) : Prop := (∀ q ∈ l, SmP q) ∧ l.length ≤ 64
theorem fault_none_sm {s : List Pt} {l : List Pc} (hpos : ∀ c ∈ s, 0 ≤ c.1 ∧ 0 ≤ c.2) (hl : SmAll l) (h : strokeFaultI s l = none) : SmAll (l ++ piecesI s) := by
  unfold strokeFaultI at h
  cases h1 : firstI (s.map fun c => decide (4095 < max c.1 c.2)) with
  | some i => rw [h1] at h; cases h
  | none =>
    rw [h1] at h
    dsimp only at h
    cases h2 : firstI ((piecesI s).map fun p => decide (p.1 = p.2)) with
    | some i => rw [h2] at h; cases h
    | none =>
      rw [h2] at h
      dsimp only at h
      split at h
      · cases h
      · next hc =>
        have hsm : ∀ c ∈ s, Sm c := by
          intro c hc
          have h2 := List.findIdx?_eq_none_iff.mp h1 (decide (4095 < max c.1 c.2)) (List.mem_map_of_mem hc)
          have h3 := hpos c hc
          have h4 : ¬ 4095 < max c.1 c.2 := by simpa using h2
          unfold Sm
          omega
        refine ⟨fun q hq => ?_, by rw [List.length_append]; omega⟩
        rcases List.mem_append.mp hq with h | h
        · exact hl.1 q h
        · obtain ⟨ha, hb⟩ := List.of_mem_zip (a := q.1) (b := q.2) (show (q.1, q.2) ∈ s.zip s.tail from h)
          exact ⟨hsm _ ha, hsm _ (List.mem_of_mem_tail hb)⟩
theorem goes_sm {rest : List (List Int)} : ∀ {k : Nat}, (∀ j, j < k → Goes [] rest j) → SmAll (pastAt [] rest k)
  | 0, _ => by
    rw [pastAt_zero]
    exact ⟨by simp, by simp⟩
  | k + 1, h => by
    have ih := goes_sm (k := k) fun j hj => h j (by omega)
    obtain ⟨u, sk, hu, hp, hf⟩ := h k (by omega)
    have e1 : ptsOf u = sk := by unfold ptsOf; rw [hp]; rfl
    rw [pastAt_succ hu, e1]
    exact fault_none_sm (points_nonneg hp).1 ih hf
theorem asked_bytes {t : List Int} (h : (t.all fun (z : Int) => NeonANeutral.natural z 8) = true) : ∀ x ∈ t, 0 ≤ x ∧ x ≤ 255 := by
  intro x hx
  have := List.all_eq_true.mp h x hx
  unfold NeonANeutral.natural at this
  simp at this
  omega
end PP

end

section
set_option Elab.async false
set_option linter.all false
set_option maxRecDepth 100000
namespace PP
open PySem PySem.Spec PyProof.Rows L2
open DG
def optList : Option (List Int) → Da
  | none => .non
  | some r => .lst (r.map Da.int)
def strD (s : List Pt) : Da := .lst (s.map ptD)
structure GoodT (t : List Int) : Prop where
  len : t.length ≤ 65536
  pts : ∀ w ∈ (linesI t).tail, ∃ s, pointsI w = some s
  sm : ∀ p ∈ piecesT t, SmP p
  few : (piecesT t).length ≤ 64
  short : ∀ s ∈ strokesI t, s.length ≤ 65
  many : (strokesI t).length ≤ 65538
theorem pieces_mem {s : List Neon.Point} {q : Neon.Piece} (h : q ∈ Neon.piecesOf s) : q.a ∈ s ∧ q.b ∈ s := by
  induction s with
  | nil => cases h
  | cons a r ih =>
    cases r with
    | nil => cases h
    | cons b r =>
      rcases List.mem_cons.mp h with rfl | h
      · exact ⟨by simp, by simp⟩
      · obtain ⟨h1, h2⟩ := ih h
        exact ⟨List.mem_cons_of_mem _ h1, List.mem_cons_of_mem _ h2⟩
theorem fine_sm {c : Neon.Point} (h : c.fine = true) : Sm (ptI c) := by
  unfold Neon.Point.fine Neon.FAR at h
  simp at h
  unfold Sm ptI
  dsimp only
  omega
theorem good_of {bs : List UInt8} (h : refusalI (bs.map up) = none) : GoodT (bs.map up) := by
  unfold refusalI at h
  split at h
  · cases h
  · next hl =>
    rw [fault_up] at h
    cases hj : Neon.judge bs with
    | error e => rw [hj] at h; cases h
    | ok D =>
      have o := ok_up hj
      refine ⟨by omega, o.pts, fun p hp => ?_, ?_, fun s hs => ?_, ?_⟩
      · rw [o.pieces] at hp
        obtain ⟨q, hq, rfl⟩ := List.mem_map.mp hp
        obtain ⟨s, hs, hqs⟩ := List.mem_flatMap.mp (show q ∈ D.strokes.flatMap Neon.piecesOf from hq)
        obtain ⟨h1, h2⟩ := pieces_mem hqs
        exact ⟨fine_sm (o.fine s hs _ h1), fine_sm (o.fine s hs _ h2)⟩
      · rw [o.pieces, List.length_map]
        exact o.few
      · unfold strokesI at hs
        obtain ⟨w, hw, rfl⟩ := List.mem_map.mp hs
        obtain ⟨s, hs⟩ := o.pts w hw
        unfold ptsOf
        rw [hs]
        exact (points_nonneg hs).2
      · unfold strokesI
        rw [List.length_map, List.length_tail]
        have := lines_few (t := bs.map up) (by omega)
        omega
def R_text_refusal (ds : List Da) (d : Da) : Prop := ∃ t : List Int, ds = [.arg t] ∧ d = optList (refusalI t)
def R_strokes_of (ds : List Da) (d : Da) : Prop := ∃ t : List Int, GoodT t ∧ ds = [.arg t] ∧ d = .lst ((strokesI t).map strD)
def R_pieces_of (ds : List Da) (d : Da) : Prop := ∃ ss : List (List Pt), (∀ s ∈ ss, s.length ≤ 65) ∧ (ss.flatMap piecesI).length ≤ 64 ∧ ss.length ≤ 65538 ∧ ds = [.lst (ss.map strD)] ∧ d = .lst ((ss.flatMap piecesI).map pcD)
theorem strokes_tail {t : List Int} (h : GoodT t) : (linesI t).tail.map (fun u => optPts (pointsI u)) = (strokesI t).map strD := by
  unfold strokesI
  rw [List.map_map]
  apply List.map_congr_left
  intro u hu
  obtain ⟨s, hs⟩ := h.pts u hu
  show optPts (pointsI u) = strD (ptsOf u)
  unfold ptsOf
  rw [hs]
  rfl
theorem flat_len {ss : List (List Pt)} (i : Nat) : ((ss.take i).flatMap piecesI).length ≤ (ss.flatMap piecesI).length := by
  rw [← List.take_append_drop i ss, List.flatMap_append, List.length_append, List.take_append_drop]
  exact Nat.le_add_right _ _
end PP

end

section
set_option Elab.async false
set_option linter.all false
set_option maxRecDepth 100000
namespace PP
open PySem PySem.Spec PyProof.Rows L2
section
variable {P : Program} {w : World} {K : PySem.W.Frag} {mg : Str → Option Value} {base : Heap}
structure LamAt (h : Heap) (q : Addr) (x : Str) (e : Expr) (scope : Scope) (qual : Str) (cd : Value) : Prop where
  ex : ∃ (o : Obj) (fd : FuncData), h.get? q = some o ∧ o.data = .func fd ∧ fd.body = .expr e ∧ fd.scope = scope ∧ fd.qualname = qual ∧ fd.code = cd ∧ fd.closure = [] ∧ fd.globals = mainGlobals ∧ fd.builtins = builtinsNs ∧
    (∀ u : Value, bindArgs fd ⟨[u], []⟩ = pure [(x, u)])
  rec_ : h.CodeRec cd qual
theorem LamAt.keep {h h' : Heap} {q : Addr} {x : Str} {e : Expr} {scope : Scope} {qual : Str} {cd : Value} (l : LamAt h q x e scope qual cd) (k : ∀ b o, h.get? b = some o → h'.get? b = some o) : LamAt h' q x e scope qual cd := by
  obtain ⟨⟨o, fd, h1, r⟩, rc⟩ := l
  exact ⟨⟨o, fd, k _ _ h1, r⟩, rc.keeps k⟩
end
structure LamOb (oq oc : Obj) (c : Addr) (x : Str) (e : Expr) (scope : Scope) (qual : Str) : Prop where
  fn : ∃ fd : FuncData, oq.data = .func fd ∧ fd.body = .expr e ∧ fd.scope = scope ∧ fd.qualname = qual ∧ fd.code = .ref c ∧ fd.closure = [] ∧ fd.globals = mainGlobals ∧ fd.builtins = builtinsNs ∧ (∀ u : Value, bindArgs fd ⟨[u], []⟩ = pure [(x, u)])
  code : ∃ (vs : Array Value) (t : Tok), oc.data = .fields vs ∧ vs[1]? = some (.str qual t)
theorem LamOb.at_ {h : Heap} {oq oc : Obj} {q c : Addr} {x : Str} {e : Expr} {scope : Scope} {qual : Str} (l : LamOb oq oc c x e scope qual) (h1 : h.get? q = some oq) (h2 : h.get? c = some oc) : LamAt h q x e scope qual (.ref c) := by
  obtain ⟨fd, r⟩ := l.fn
  obtain ⟨vs, t, g1, g2⟩ := l.code
  exact ⟨⟨oq, fd, h1, r⟩, ⟨c, oc, vs, t, rfl, h2, g1, g2⟩⟩
end PP

end

section
set_option Elab.async false
set_option linter.all false
set_option maxRecDepth 100000
set_option maxHeartbeats 1000000
namespace PP
open PySem PySem.Spec PyProof.Rows L2
open PyProof.Rows.G (tupKindC tupKeyC KeepsTups tupC_ltAt isTupObj)
open DG (Pt BeforeI)
def noStr : Nat → Bool := fun _ => false
def keyL (c : Pt) : List (Int ⊕ List Nat) := [.inl c.2, .inl c.1]
def KeyAt (h : Heap) (v : Value) (c : Pt) : Prop := ∃ (a : Addr) (o : Obj) (t u : Tok) (n : Nat), v = .ref a ∧ h.get? a = some o ∧ o.cls = .type "tuple" ∧ o.data = .seq #[.int c.2 t, .int c.1 u] n
theorem KeyAt.key {h : Heap} {v : Value} {c : Pt} (k : KeyAt h v c) : tupKeyC h noStr v = some (keyL c) := by
  obtain ⟨a, o, t, u, n, rfl, h1, h2, h3⟩ := k
  unfold tupKeyC
  have e : isTupObj h (.ref a) = true := by
    unfold isTupObj
    simp only [h1, h2]
    rfl
  rw [if_pos e]
  unfold tupKey
  simp only [h1, h3]
  rfl
theorem KeyAt.tup {h : Heap} {v : Value} {c : Pt} (k : KeyAt h v c) : ∃ f, TupOf h noStr v f := by
  obtain ⟨a, o, t, u, n, rfl, h1, h2, h3⟩ := k
  exact ⟨.int c.2 t, a, o, _, n, rfl, h1, h2, h3, rfl, fun _ => ⟨_, _, rfl⟩, fun q => by cases q⟩
end PP

end

section
set_option Elab.async false
set_option linter.all false
set_option maxRecDepth 100000
set_option maxHeartbeats 1000000

end

section
set_option Elab.async false
set_option linter.all false
set_option maxRecDepth 100000
set_option maxHeartbeats 1000000

end

section
set_option Elab.async false
set_option linter.all false
set_option maxRecDepth 100000
set_option maxHeartbeats 1000000
namespace PP
open PySem PySem.Spec PyProof.Rows L2
open DG (Pt BeforeI)
def SameT (T : Addr) (H H' : Hp) : Prop := (∀ b o, b ≠ T → H b = some o → H' b = some o) ∧ ∀ o, H T = some o → ∃ o', H' T = some o'
theorem SameT.trans {T : Addr} {H H1 H2 : Hp} (a : SameT T H H1) (b : SameT T H1 H2) : SameT T H H2 := ⟨fun c o hc h => b.1 c o hc (a.1 c o hc h), fun o h => let ⟨_, h'⟩ := a.2 o h; b.2 _ h'⟩
end PP

end

section
set_option Elab.async false
set_option linter.all false
set_option maxRecDepth 100000
set_option maxHeartbeats 1000000

end

section
set_option Elab.async false
set_option linter.all false
set_option maxRecDepth 100000
set_option maxHeartbeats 1000000
namespace PP
open PySem PySem.Spec PyProof.Rows L2
open DG
def NoOwn (ρ : Rho) : Prop := ∀ (i : Nat) (ds : List Da), ρ[i]? ≠ some (.own ds)
theorem NoOwn.of {ρ : Rho} (h : ρ.all (fun e => match e with | .own _ => false | _ => true) = true) : NoOwn ρ := fun i ds e => by
  have := List.all_eq_true.mp h _ (List.mem_of_getElem? e)
  exact absurd this (by simp)
theorem NoOwn.set {ρ : Rho} {i : Nat} {d : Da} (h : NoOwn ρ) : NoOwn (ρ.set i (.val d)) := fun j ds e => by
  rcases set_get e with ⟨_, q⟩ | ⟨_, q⟩
  · cases q
  · exact h j ds q
section
variable {X : Cx} {T : Addr} {ρ ρ1 : Rho} {st : Stmt} {sts rest body : List Stmt} {d : Da} {c e : Expr} {pos : Pos} {l : List Pc} {k : Nat}
theorem EnvOk.none {K : PySem.W.Frag} {σ : L2.St} {H : Hp} {O O' : List Addr} (e : EnvOk K ρ σ H O) (n : NoOwn ρ) (h : ∀ b ∈ O', b ∈ O) : EnvOk K ρ σ H O' where
  len := e.len
  val := fun i d q => by
    obtain ⟨v, h1, h2⟩ := e.val i d q
    exact ⟨v, h1, h2.to (hide_less h)⟩
  own := fun i ds q => absurd q (n i ds)
  inj := fun i j ds es a q => absurd q (n i ds)
theorem SOk.again {K : PySem.W.Frag} {σ : L2.St} {H : Hp} {O : List Addr} (dom : Dom O H) (n : NoOwn ρ) (env : EnvOk K ρ σ H O) : SOk K ρ σ H H O [] :=
  ⟨dom, Same.refl H, Dom.nil, fun a m => absurd m (by simp), env, fun i ds a h => absurd h (n i ds)⟩
end
end PP

end

section
set_option Elab.async false
set_option linter.all false
set_option maxRecDepth 100000

end

section
set_option Elab.async false
set_option linter.all false
set_option maxRecDepth 100000
set_option maxHeartbeats 1000000
namespace PP
open PySem PySem.Spec PyProof.Rows L2
open DG
theorem atI_map {α : Type} {l : List α} {f : α → Da} {i : Int} (d : α) (h0 : 0 ≤ i) (h : i < (l.length : Int)) : L2.atI (l.map f) i = some (f (l.getD i.toNat d)) := by
  have hi : i.toNat < l.length := by omega
  unfold L2.atI L2.ixN
  rw [if_pos h0, List.length_map, if_pos h]
  show (l.map f)[i.toNat]? = _
  rw [List.getElem?_map, List.getElem?_eq_getElem hi, List.getD_eq_getElem?_getD, List.getElem?_eq_getElem hi]
  rfl
section
variable {X : Cx} {ρ : Rho} {a b : Expr} {pos : Pos}
theorem ppt_ge {i j : Int} (ha : PP X ρ a (.int i)) (hb : PP X ρ b (.int j)) : PPt X ρ (.Compare a [.GtE] [b] pos) (decide (j ≤ i)) := ppt_cmp op_ge (y_int fun _ => .bl _) ha hb (nomark _)
end
def R_part (ds : List Da) (d : Da) : Prop := ∃ (i : Int) (bs : List UInt8), 0 ≤ i ∧ ds = [.int i, .arg (bs.map up)] ∧ d = .lst ((partM i (bs.map up)).map Da.int)
theorem asked_one {n j : Int} {t : List Int} (h : NeonANeutral.asked [[[n, j], t]] = true) (hn : 3 ≤ n ∧ n ≤ 6 := by decide) : (t.all fun (z : Int) => NeonANeutral.natural z 8) = true := by
  obtain ⟨h1, h2⟩ := hn
  have hc : n = 3 ∨ n = 4 ∨ n = 5 ∨ n = 6 := by omega
  unfold NeonANeutral.asked at h
  simp only [List.all_cons, List.all_nil, Bool.and_true] at h
  rcases hc with rfl | rfl | rfl | rfl
  all_goals
    have h' : (NeonANeutral.natural j 32 && (t.all fun (z : Int) => NeonANeutral.natural z 8)) = true := h
    rw [Bool.and_eq_true] at h'
    exact h'.2
end PP

end

section
set_option Elab.async false
set_option linter.all false
set_option maxRecDepth 100000
set_option maxHeartbeats 1000000
namespace PP
open PySem PySem.Spec PyProof.Rows L2
open DG
def rIndexD (K : PySem.W.Frag) : V → List V → Hp → VK → Prop := fun x xs H Q => ∃ (y : V) (d : PyData) (ds : List PyData) (j : Nat) (dj : PyData), xs = [y] ∧ Dp K H x (.list ds) ∧ Dp K H y d ∧ d.canLay0 = true ∧ FitL ds ∧ ds.length ≤ 65536 ∧
  ds[j]? = some dj ∧ PyData.eqv dj d = true ∧ (∀ (m : Nat) (z : PyData), m < j → ds[m]? = some z → PyData.eqv z d = false) ∧ Q (.int (j : Nat)) H
section
variable {X : Cx}
theorem mt_indexD (hu : X.A.units + 64 < cLine) : MtR X "list.index" (rIndexD X.K) := by
  intro pins s σ H x xs v us Q I rx rxs h
  obtain ⟨y, d, ds, j, dj, rfl, hx, hy, hd, ⟨hs, hz⟩, hlen, hj, hit, hno, q⟩ := h
  cases rxs with
  | cons ry rt =>
    rename_i uy ut
    cases rt
    obtain ⟨bs, r2⟩ := Dp.reads I d y uy hy ry
    obtain ⟨as, r1⟩ := Dp.reads I _ x v hx rx
    cases r1 with
    | @list a o vs n _ _ h1 h2 h3 h4 =>
      obtain ⟨cls, dd, data, sl⟩ := o
      have h2 : cls = .type "list" := h2
      have h3 : data = .seq vs n := h3
      subst h2 h3
      have hmap := SeqAt.readsAll_map ds _ _ hs h4
      have hat : ∀ (m : Nat) (hm : m < vs.size), ds[m]? = some (SeqAt.readOf s.heap vs[m]) := fun m hm => by
        rw [← hmap, List.getElem?_map, Array.getElem?_toList, Array.getElem?_eq_getElem hm]
        rfl
      have hsz : vs.size = ds.length := by rw [← hmap, List.length_map, Array.length_toList]
      have hjs : j < vs.size := by rw [hsz]; exact (List.getElem?_eq_some_iff.mp hj).1
      have hm : min (PyData.depthAll ds) d.depth ≤ 60 := Nat.le_trans (Nat.min_le_left _ _) hz
      refine call_meets PySem.F.slot_list_index ⟨_, h1, rfl⟩ PySem.F.entry_list_index (PySem.F.args_list_index_2 _ _)
        (SeqAt.list_indexAt a vs n dd sl uy (fun y => PyData.eqv (SeqAt.readOf s.heap y) d) j hjs (by omega) ?_ ?_) ⟨h1, SeqAt.items_eqAt h4 r2 hs hd ?_, ⟨.int (j : Nat), H, I.tok _, ⟨_, rfl⟩, q⟩⟩
      · have e := hat j hjs
        rw [hj] at e
        cases e
        exact hit
      · intro m hm' hmj
        exact hno m _ hmj (hat m hm')
      · omega
variable {ρ : Rho} {e e2 : Expr} {dx : Da} {ds : List Da}
theorem pp_index {k : Nat} {j : Nat} {dj : PyData} {apos cpos : Pos} (hr : Room k X.A) (hx : (toPy dx).canLay0 = true) (hs : FitL (toPys ds)) (hl : ds.length ≤ 65536) (hj : (toPys ds)[j]? = some dj) (hit : PyData.eqv dj (toPy dx) = true)
    (hno : ∀ (m : Nat) (z : PyData), m < j → (toPys ds)[m]? = some z → PyData.eqv z (toPy dx) = false) (ha : PP X ρ e (.lst ds)) (hb : PP X ρ e2 dx)
    (hbase : attributeBase e "index" X.env (eval e X.env) = eval e X.env := by rfl)
    (hfew : ((backTo cpos (starEach [e2] X.env)).all (fun x => !x.1) && (backToKw cpos (keywordEach [] X.env)).all (fun x => x.1.isSome)
      && decide ([e2].length + ([] : List Keyword).length + (if ([] : List Keyword).isEmpty then 0 else 1) < 30)) = true := by rfl)
    (hline : (apos.endLine == cpos.line) = true := by rfl) (hst : starEach [e2] X.env = (false, eval e2 X.env) :: starEach [] X.env := by rfl) (hplain : (backTo cpos (starEach [] X.env)).any (·.1) = false := by rfl) :
    PP X ρ (.Call (.Attribute e "index" apos) [e2] [] cpos) (.int (j : Nat)) :=
  (pe_bm PySem.F.plainAttrs_list PySem.F.slot_list_index PySem.F.type_list_index (mt_indexD hr.units) ha (ppa_cons hb ppa_nil hst) hbase hfew hline hst hplain).imp fun σ H Q ⟨O, dom, env, k⟩ => ⟨O, dom, env, fun x H1 s1 rx => by
    obtain ⟨a, xs, rfl, ea, ra⟩ := rx.lst_inv
    refine ⟨.inl ⟨rfl, _, SqL.of (hide_sub _ _ ea)⟩, O, dom.to s1, env.to s1, fun vs H2 s2 r2 => ?_⟩
    cases r2 with
    | cons r2 r3 =>
    cases r3
    refine ⟨_, _, toPys ds, j, dj, rfl, ?_, Rp.dp dx (r2.to hide_sub), hx, hs, ?_, hj, hit, hno, k _ H2 (s1.trans s2) (.int _)⟩
    · have := Rp.dp (.lst ds) (rx.to ((hide_mono s2).trans hide_sub))
      rw [toPy] at this
      exact this
    · have : ∀ l : List Da, (toPys l).length = l.length := fun l => by
        induction l with
        | nil => rfl
        | cons x l ih => rw [toPys, List.length_cons, List.length_cons, ih]
      rw [this]
      exact hl⟩
end
end PP

end

section
set_option Elab.async false
set_option linter.all false
set_option maxRecDepth 100000
set_option maxHeartbeats 1000000
namespace PP
open PySem PySem.Spec PyProof.Rows L2
open DG
def minD : Option Int → List Int → Int → Int
  | b, [], d => b.getD d
  | none, x :: r, d => minD (some x) r d
  | some m, x :: r, d => minD (some (if x < m then x else m)) r d
theorem args_minD (a v : Value) : argsOk "min" ⟨[a], [(Str.ofString "default", v)]⟩ := by unfold argsOk; kernel_rfl
def BestIs : Option Int → Array Value → Prop
  | none, a => a = #[]
  | some m, a => ∃ t, a = #[.int m t, .int m t]
section
variable {prog : Program} {w : World} {A : Around} {R : Result → Shared → Prop}
theorem minD_loop (hh : A.handled = none) {I l S : Addr} (hlI : l ≠ I) (hSI : S ≠ I) (hSl : S ≠ l) {items : Array Value} {ns : List Int} (hits : ∀ (i : Nat) (v : Value), items[i]? = some v → ∃ x t, ns[i]? = some x ∧ v = .int x t) (hsz : items.size = ns.length) (d : Int) (td : Tok) :
    ∀ (k j : Nat) (s : Shared) (b : Option Int) (arr : Array Value) (c : Nat), ns.length - j = k → j ≤ ns.length → s.heap.IsListIter I l j → s.heap.IsList l items → BestIs b arr →
    s.heap.get? S = some { cls := .type "list", dict := none, data := .seq arr c, slots := #[] } →
    (∀ t h' tk, (∀ b o, b ≠ I → b ≠ S → s.heap.get? b = some o → h'.get? b = some o) → R (.ok (.ret (.int (minD b (ns.drop j) d) t))) { s with heap := h', toks := tk }) →
    codeAny (model prog w) A (.builtin "min.loop" ⟨[.ref I, .none, .ref S], [(Str.ofString "default", .int d td)]⟩) R s := by
  have hname : (toString "min" ++ toString ".loop" : String) = "min.loop" := by decide
  have W := Walks.list (prog := prog) (w := w) (A := A.in1) hh I l hlI items
  have hSw : S ∉ [I] := by simpa using hSI
  intro k
  induction k with
  | zero =>
    intro j s b arr c hk hj hit hl hb hS hR
    have hjn : j = items.size := by omega
    rw [List.drop_eq_nil_of_le (by omega)] at hR
    refine codeAny_builtin F.entry_min_loop ?_
    rw [Around.under_plainId F.plain_min_loop _]
    show wpAny _ A.in1 (seqItems? (.ref S) >>= _) _ _ s
    refine wpAny_bind (wpAny_seqItems hS rfl ?_)
    show wpAny _ A.in1 (tryCatch (pyNext (.ref I)) _ >>= _) _ _ s
    refine wpAny_bind (wpAny_tryCatch (W.done s _ _ ⟨hjn ▸ hit, hl⟩ fun h' tk hk' => ?_))
    have hS' := hk' S _ hSw hS
    cases b with
    | none =>
      have ha : arr = #[] := hb
      subst ha
      refine wpAny_bind (wpAny_rule (wpAny_pure ?_))
      exact hR td h' tk fun b o h1 h2 e => hk' b o (by simpa using h1) e
    | some m =>
      obtain ⟨t, ha⟩ := hb
      subst ha
      show wpAny _ A.in1 (updateSeq S (fun _ => #[]) >>= _) _ _ _
      refine wpAny_bind ?_
      refine wpAny_updateSeq hS' rfl (wpAny_bind (wpAny_letGo (wpAny_pure ?_)))
      exact hR t _ tk fun b o h1 h2 e => (Heap.get?_update_other _ _ (Ne.symm h2)).trans (hk' b o (by simpa using h1) e)
  | succ k ih =>
    intro j s b arr c hk hj hit hl hb hS hR
    have hlt : j < items.size := by omega
    refine codeAny_builtin F.entry_min_loop ?_
    rw [Around.under_plainId F.plain_min_loop _]
    show wpAny _ A.in1 (seqItems? (.ref S) >>= _) _ _ s
    refine wpAny_bind (wpAny_seqItems hS rfl ?_)
    show wpAny _ A.in1 (tryCatch (pyNext (.ref I)) _ >>= _) _ _ s
    refine wpAny_bind (wpAny_tryCatch (W.item j s _ _ hlt ⟨hit, hl⟩ fun v h' tk hP hst' hk' => ?_))
    have hS' := hk' S _ hSw hS
    obtain ⟨x, t, hx, rfl⟩ := hits j v hP
    have hdrop : ns.drop j = x :: ns.drop (j + 1) := by
      obtain ⟨h1, h2⟩ := List.getElem?_eq_some_iff.mp hx
      rw [List.drop_eq_getElem_cons h1, h2]
    rw [hdrop] at hR
    have later : ∀ {f : Obj → Obj}, (h'.update S f).IsListIter I l (j + 1) ∧ (h'.update S f).IsList l items := fun {f} =>
      W.frame _ _ _ hst' fun b hbf o e => (Heap.get?_update_other _ _ (fun h : S = b => by
        rw [← h] at hbf
        rcases List.mem_cons.mp hbf with q | q
        · exact hSI q
        · exact hSl (List.mem_singleton.mp q))).trans e
    cases b with
    | none =>
      have ha : arr = #[] := hb
      subst ha
      show wpAny _ A.in1 (updateSeq S (fun _ => #[.int x t, .int x t]) >>= _) _ _ _
      refine wpAny_bind ?_
      refine wpAny_updateSeq hS' rfl ?_
      rw [hname]
      refine wpAny_pure ⟨plainId_quiet F.plain_min_loop _, ih (j + 1) _ (some x) _ _ (by omega) (by omega) later.1 later.2 ⟨t, rfl⟩ (Heap.get?_update_self _ hS' rfl) fun t' h'' tk'' hk'' => ?_⟩
      exact hR t' h'' tk'' fun b o h1 h2 e => hk'' b o h1 h2 ((Heap.get?_update_other _ _ (Ne.symm h2)).trans (hk' b o (by simpa using h1) e))
    | some m =>
      obtain ⟨tm, ha⟩ := hb
      subst ha
      show wpAny _ A.in1 (tryCatch (holding [Value.int x t, Value.int x t] (richCompare .Lt (.int x t) (.int m tm) >>= _)) _ >>= _) _ _ _
      refine wpAny_bind (wpAny_tryCatch (wpAny_holding (wpAny_bind ?_)))
      refine richCompare_gives (op := .Lt) (typeIs_int _ x t) (typeIs_int _ m tm) F.slot_int_lt F.entry_int_lt (F.args_int_lt_2 _ _) (gives_int_lt _ _ t tm) (fun x => nomatch x) ?_
      refine wpAny_bind (wpAny_holding (wpAny_truthy_bool ?_))
      refine wpAny_bind (wpAny_letGo (wpAny_pure ?_))
      by_cases hb : x < m
      · simp only [hb, decide_true, if_true]
        refine wpAny_bind ?_
        refine wpAny_updateSeq hS' rfl (wpAny_bind (wpAny_letGo ?_))
        rw [hname]
        refine wpAny_pure ⟨plainId_quiet F.plain_min_loop _, ih (j + 1) _ (some x) _ _ (by omega) (by omega) later.1 later.2 ⟨t, rfl⟩ (Heap.get?_update_self _ hS' rfl) fun t' h'' tk'' hk'' => ?_⟩
        have := hR t' h'' tk''
        unfold minD at this
        rw [if_pos hb] at this
        exact this fun b o h1 h2 e => hk'' b o h1 h2 ((Heap.get?_update_other _ _ (Ne.symm h2)).trans (hk' b o (by simpa using h1) e))
      · simp only [hb, decide_false, Bool.false_eq_true, if_false]
        refine wpAny_bind (wpAny_letGo ?_)
        rw [hname]
        refine wpAny_pure ⟨plainId_quiet F.plain_min_loop _, ih (j + 1) _ (some m) _ _ (by omega) (by omega) hst'.1 hst'.2 ⟨tm, rfl⟩ hS' fun t' h'' tk'' hk'' => ?_⟩
        have := hR t' h'' tk''
        unfold minD at this
        rw [if_neg hb] at this
        exact this fun b o h1 h2 e => hk'' b o h1 h2 (hk' b o (by simpa using h1) e)
variable {E : Value → Shared → Prop} {s : Shared}
theorem call_minD (hh : A.handled = none) {l : Addr} {items : Array Value} {ns : List Int} (hl : s.heap.IsList l items) (hits : ∀ (i : Nat) (v : Value), items[i]? = some v → ∃ x t, ns[i]? = some x ∧ v = .int x t) (hsz : items.size = ns.length) {d : Int} {td : Tok} {Q : Value → Shared → Prop}
    (hQ : ∀ t h' tk, (∀ b o, s.heap.get? b = some o → h'.get? b = some o) → Q (.int (minD none ns d) t) { s with heap := h', toks := tk }) :
    wpAny (model prog w) A (call (.builtin "min") [.ref l] [(Str.ofString "default", .int d td)]) Q E s := by
  have hname : (toString "min" ++ toString ".loop" : String) = "min.loop" := by decide
  obtain ⟨ol, hol, _⟩ := id hl
  have hll : l < s.heap.objs.size := Heap.lt_size hol
  refine kmk_tree F.kind_min F.plain_min F.entry_min (args_minD _ _) ?_
  show wpAny _ A.in1 (Builtin.Builtins.bindParams "min" ["key", "default"] 0 ⟨[], [(Str.ofString "default", .int d td)]⟩ >>= _) _ _ s
  refine wpAny_bind (wpAny_of_eq (show Builtin.Builtins.bindParams "min" ["key", "default"] 0 ⟨[], [(Str.ofString "default", .int d td)]⟩ = pure [none, some (.int d td)] from rfl) ?_)
  refine wpAny_bind (wpAny_pure ?_)
  refine wpAny_bind (wpAny_pyIter_list hl ?_)
  refine wpAny_bind (wpAny_newObj_type ?_)
  rw [hname]
  have sz1 : (s.heap.push { cls := .type "list_iterator", data := .fields #[.ref l, .int 0 0] }).objs.size = s.heap.objs.size + 1 := Heap.size_push ..
  refine wpAny_pure ⟨plainId_quiet F.plain_min_loop _, minD_loop hh (Nat.ne_of_lt hll) (by rw [sz1]; exact Nat.ne_of_gt (Nat.lt_succ_self _)) (by rw [sz1]; exact Nat.ne_of_gt (Nat.lt_succ_of_lt hll)) hits hsz d td _ 0 _ none #[] _ rfl (Nat.zero_le _) ⟨_, Heap.get?_push_of_some _ (Heap.get?_push_size _ rfl), rfl, rfl⟩ ((hl.push _).push _) rfl (Heap.get?_push_size _ rfl) fun t h' tk hk => ?_⟩
  refine hQ t h' tk fun b o e => hk b o (Nat.ne_of_lt (Heap.lt_size e)) ?_ (Heap.get?_push_of_some _ (Heap.get?_push_of_some _ e))
  rw [sz1]
  exact Nat.ne_of_lt (Nat.lt_succ_of_lt (Heap.lt_size e))
end
end PP

end

section
set_option Elab.async false
set_option linter.all false
set_option maxRecDepth 100000
set_option maxHeartbeats 1000000
namespace PP
open PySem PySem.Spec PyProof.Rows L2
open DG
def tMD (K : PySem.W.Frag) (te td : TE) : TE := fun σ H Q => te σ H fun x H1 => td σ H1 fun y H2 => ∃ (a : Addr) (ns : List Int) (d : Int), x = .ref a ∧ y = .int d ∧ SqL K H2 a (ns.map V.int) ∧ Q (.int (minD none ns d)) H2
section
variable {X : Cx} {e e2 : Expr} {te td : TE} {p pos kpos : Pos} {ρ : Rho}
theorem pe_minD (hc : X.calm = true) (hm : X.mg "min" = none) (he : PE X e te) (hd : PE X e2 td) (hg : Gl X "min" := by rfl) (hs : starEach [e] X.env = (false, eval e X.env) :: starEach [] X.env := by rfl) :
    PE X (.Call (.Name "min" p) [e] [⟨some "default", e2, kpos⟩] pos) (tMD X.K te td) := by
  intro pins s σ H Q I h
  refine wpAny_Call_Name_kw (ld_blt I hg hm bt_min ?_)
  refine callWith_kw (rest := []) ?_ (by rw [hs]; rfl) (by rw [hs]; rfl)
  rw [hs]
  show wpAny _ _ (spliced ((false, eval e X.env) :: backTo pos (starEach [] X.env))) _ _ s
  refine Calls.spliced_cons (thn (he pins s σ H _ I h) fun u s1 ⟨v, H1, I1, rv, q1⟩ => ?_)
  refine Calls.spliced_nil ?_
  refine kws_cons (thn (hd pins s1 σ H1 _ I1 q1) fun u2 s2 ⟨v2, H2, I2, rv2, q2⟩ => ?_)
  obtain ⟨a, ns, d, rfl, rfl, hsq, q⟩ := q2
  refine kws_nil ?_
  cases rv
  obtain ⟨t, rfl⟩ := rv2
  show wpAny (model X.prog X.w) X.A (call (.builtin "min") [.ref a] [(Str.ofString "default", .int d t)]) (EP X pins σ Q) X.xe s2
  obtain ⟨its, rv, pl, _⟩ := I2.list hsq
  have hlen : its.length = ns.length := by
    have := rv.length
    rw [List.length_map] at this
    omega
  refine call_minD (ns := ns) (I2.ok.hd hc) pl.isList (fun i v hv => ?_) (by rw [List.size_toArray]; exact hlen) fun t' h' tk kp => ⟨.int _, H2, I2.kept kp, ⟨t', rfl⟩, q⟩
  have hi : i < ns.length := by
    have := (Array.getElem?_eq_some_iff.mp hv).1
    rw [List.size_toArray] at this
    omega
  obtain ⟨u, hu, r⟩ := rv.get (i := i) (by rw [List.getElem?_map, List.getElem?_eq_getElem hi]; rfl)
  have : v = u := by
    have h2 : its[i]? = some v := by simpa using hv
    rw [hu] at h2
    exact (Option.some.inj h2).symm
  subst this
  obtain ⟨t', rfl⟩ := r
  exact ⟨_, t', List.getElem?_eq_getElem hi, rfl⟩
theorem pp_minD {ns : List Int} {d : Int} (hc : X.calm = true) (hm : X.mg "min" = none) (he : PP X ρ e (.lst (ns.map Da.int))) (hd : PP X ρ e2 (.int d)) (hg : Gl X "min" := by rfl) (hs : starEach [e] X.env = (false, eval e X.env) :: starEach [] X.env := by rfl) :
    PP X ρ (.Call (.Name "min" p) [e] [⟨some "default", e2, kpos⟩] pos) (.int (minD none ns d)) :=
  (pe_minD hc hm he hd hg hs).imp fun σ H Q ⟨O, dom, env, k⟩ => ⟨O, dom, env, fun x H1 s1 rx => ⟨O, dom.to s1, env.to s1, fun y H2 s2 ry => by
    obtain ⟨a, xs, rfl, ea, ra⟩ := (rx.to (hide_mono s2)).lst_inv
    rw [ra.ints] at ea
    exact ⟨a, ns, d, rfl, ry.int_inv, SqL.of (hide_sub _ _ ea), k _ H2 (s1.trans s2) (.int _)⟩⟩⟩
end
abbrev natD (n : Nat) : Da := .int (n : Nat)
theorem minD_some : ∀ (r : List Nat) (m : Nat) (d : Int), minD (some (m : Int)) (r.map fun (n : Nat) => (n : Int)) d = ((r.foldl min m : Nat) : Int)
  | [], m, d => rfl
  | x :: r, m, d => by
    rw [List.map_cons, minD, List.foldl_cons, ← minD_some r (min m x) d]
    congr 2
    split <;> omega
theorem minD_nat (r : List Nat) (d : Nat) : minD none (r.map fun (n : Nat) => (n : Int)) (d : Int) = ((r.min?).getD d : Nat) := by
  cases r with
  | nil => rfl
  | cons x r =>
    rw [List.map_cons, minD, minD_some]
    rfl
theorem natD_ints (r : List Nat) : r.map natD = (r.map fun (n : Nat) => (n : Int)).map Da.int := by rw [List.map_map]; rfl
theorem fit_nats (r : List Nat) : FitL (toPys (r.map natD)) := by
  rw [natD_ints, toPys_ints]
  exact ⟨lay_ints _, Nat.le_trans (depth_ints _) (by decide)⟩
theorem in_nats (m : Nat) (r : List Nat) : inD (natD m) (r.map natD) = decide (m ∈ r) := by
  unfold inD
  rw [natD_ints, toPys_ints, Bool.eq_iff_iff, decide_eq_true_eq, List.any_eq_true]
  constructor
  · rintro ⟨x, hx, he⟩
    rw [List.map_map] at hx
    obtain ⟨n, hn, rfl⟩ := List.mem_map.mp hx
    have : (n : Int) = (m : Int) := by simpa [PyData.eqv, toPy] using he
    rw [show m = n by omega]
    exact hn
  · intro h
    exact ⟨.int m, by rw [List.map_map]; exact List.mem_map_of_mem (f := PyData.int ∘ fun (n : Nat) => (n : Int)) h, by simp [PyData.eqv, toPy]⟩
theorem atI_nat {α : Type} {l : List α} {f : α → Da} {i : Nat} (d : α) (h : i < l.length) : L2.atI (l.map f) (i : Int) = some (f (l.getD i d)) := by
  have := atI_map (l := l) (f := f) (i := (i : Int)) d (by omega) (by omega)
  rw [this]
  simp
theorem least_len (l : List Pc) : ∀ n, (leastI l n).length = n
  | 0 => rfl
  | n + 1 => by
    show (DG.stepI l _ (leastI l n)).length = _
    unfold DG.stepI
    simp [least_len l n]
def touchI (l : List Pc) (n : Nat) : List Nat := ((List.range n).filter fun k => shareI (pcAt l n) (pcAt l k)).map fun k => (leastI l n).getD k 0
def lowI (l : List Pc) (n : Nat) : Nat := ((touchI l n).min?).getD n
theorem least_step (l : List Pc) (n : Nat) : leastI l (n + 1) = ((leastI l n).map fun m => if m ∈ touchI l n then lowI l n else m) ++ [lowI l n] := by
  show DG.stepI l _ (leastI l n) = _
  unfold DG.stepI lowI touchI
  rw [least_len]
def R_least_mates (ds : List Da) (d : Da) : Prop := ∃ l : List Pc, l.length ≤ 64 ∧ ds = [.lst (l.map pcD)] ∧ d = .lst ((leastT l).map natD)
end PP

end

section
set_option Elab.async false
set_option linter.all false
set_option maxRecDepth 100000
set_option maxHeartbeats 1000000
namespace PP
open PySem PySem.Spec PyProof.Rows L2
open DG
abbrev metInts (ns : List Int) : List Int := firstMet (fun i => ns.getD i 0) ns.length
theorem step_nd {σ : List Int} {k : Int} (h : σ.Nodup) : (step_dedup σ k).Nodup := by
  unfold step_dedup
  split
  · exact h
  · next hn => exact List.nodup_append.mpr ⟨h, by simp, fun a ha b hb => by
      rw [List.mem_singleton.mp hb]
      intro e
      exact hn (List.any_eq_true.mpr ⟨a, ha, by simp [e]⟩)⟩
theorem met_nd (val : Nat → Int) : ∀ i, (firstMet val i).Nodup
  | 0 => .nil
  | i + 1 => by
    rw [firstMet_succ]
    exact step_nd (met_nd val i)
theorem met_mem {ns : List Int} {k : Int} : k ∈ metInts ns ↔ k ∈ ns := by
  have h := firstMet_any (fun i => ns.getD i 0) ns.length k
  have e : (List.range ns.length).map (fun i => ns.getD i 0) = ns := by
    apply List.ext_getElem?
    intro i
    rw [List.getElem?_map]
    by_cases hi : i < ns.length
    · rw [List.getElem?_range hi]
      simp [List.getD_eq_getElem?_getD, List.getElem?_eq_getElem hi]
    · rw [List.getElem?_eq_none (by simpa using hi), List.getElem?_eq_none (by omega)]
      rfl
  rw [e, Bool.eq_iff_iff, List.any_eq_true, List.any_eq_true] at h
  constructor
  · intro hk
    obtain ⟨x, hx, e⟩ := h.mp ⟨k, hk, beq_self_eq_true k⟩
    rw [← eq_of_beq e]
    exact hx
  · intro hk
    obtain ⟨x, hx, e⟩ := h.mpr ⟨k, hk, beq_self_eq_true k⟩
    rw [← eq_of_beq e]
    exact hx
theorem mem_headsI {l : List Pc} {v : Nat} : v ∈ headsI l ↔ v ∈ leastT l := by
  have P : Parted l l.length (leastT l) := parted l l.length
  unfold headsI
  rw [List.mem_filter, List.mem_range, decide_eq_true_eq]
  constructor
  · rintro ⟨h1, h2⟩
    rw [← h2]
    rw [List.getD_eq_getElem?_getD, List.getElem?_eq_getElem (by rw [P.len]; exact h1)]
    exact List.getElem_mem _
  · intro h
    obtain ⟨i, hi, e⟩ := List.mem_iff_getElem.mp h
    have hi' : i < l.length := by rw [P.len] at hi; exact hi
    have e' : (leastT l).getD i 0 = v := by
      rw [List.getD_eq_getElem?_getD, List.getElem?_eq_getElem hi]
      exact e
    rw [← e']
    exact ⟨P.lt hi', P.idem hi'⟩
theorem headsI_sorted (l : List Pc) : (headsI l).Pairwise (· < ·) := List.Pairwise.filter _ List.pairwise_lt_range
abbrev natI (n : Nat) : Int := (n : Int)
theorem met_heads (l : List Pc) : (metInts ((leastT l).map natI)).Perm ((headsI l).map natI) := by
  refine (List.perm_ext_iff_of_nodup (met_nd _ _) ?_).mpr fun k => ?_
  · exact List.Pairwise.map _ (fun a b (h : a < b) (z : natI a = natI b) => by have : (a : Int) = b := z; omega) (headsI_sorted l)
  · rw [met_mem, List.mem_map, List.mem_map]
    constructor
    · rintro ⟨v, hv, rfl⟩
      exact ⟨v, mem_headsI.mpr hv, rfl⟩
    · rintro ⟨v, hv, rfl⟩
      exact ⟨v, mem_headsI.mp hv, rfl⟩
end PP

end

section
set_option Elab.async false
set_option linter.all false
set_option maxRecDepth 100000
set_option maxHeartbeats 1000000
namespace PP
open PySem PySem.Spec PyProof.Rows
def Rise (p : Array Nat) : Prop := p.toList.Pairwise (· < ·)
theorem Rise.lt {p : Array Nat} (h : Rise p) {i k : Nat} (hik : i < k) (hk : k < p.size) : p.getD i 0 < p.getD k 0 := by
  have hi : i < p.size := Nat.lt_trans hik hk
  have := List.pairwise_iff_getElem.mp h i k (by simpa using hi) (by simpa using hk) hik
  simpa [Array.getD, hi, hk] using this
theorem go_spec {xs : Array Nat} (R : Rise xs) (j : Nat) : ∀ (fuel lo hi : Nat), lo ≤ hi → hi ≤ xs.size → hi - lo ≤ fuel → (∀ i, i < lo → xs.getD i 0 < j) → (∀ i, hi ≤ i → i < xs.size → j ≤ xs.getD i 0) →
    (SetTable.below.go xs j fuel lo hi ≤ xs.size ∧ (∀ i, i < SetTable.below.go xs j fuel lo hi → xs.getD i 0 < j) ∧ ∀ i, SetTable.below.go xs j fuel lo hi ≤ i → i < xs.size → j ≤ xs.getD i 0)
  | 0, lo, hi, h1, h2, h3, h4, h5 => by
    have : lo = hi := by omega
    subst this
    unfold SetTable.below.go
    exact ⟨h2, h4, h5⟩
  | fuel + 1, lo, hi, h1, h2, h3, h4, h5 => by
    unfold SetTable.below.go
    by_cases hl : lo < hi
    · rw [if_pos hl]
      have hm : (lo + hi) / 2 < hi := by omega
      have hm2 : lo ≤ (lo + hi) / 2 := by omega
      generalize hmid : (lo + hi) / 2 = mid at hm hm2
      have hs : mid < xs.size := by omega
      have e : xs.getD mid j = xs.getD mid 0 := by simp [Array.getD, hs]
      show (let mid := mid; if xs.getD mid j < j then _ else _) ≤ _ ∧ _
      simp only [e]
      by_cases hx : xs.getD mid 0 < j
      · rw [if_pos hx]
        refine go_spec R j fuel (mid + 1) hi (by omega) h2 (by omega) (fun i hi' => ?_) h5
        by_cases hq : i = mid
        · rw [hq]; exact hx
        · exact Nat.lt_trans (R.lt (show i < mid by omega) hs) hx
      · rw [if_neg hx]
        refine go_spec R j fuel lo mid hm2 (by omega) (by omega) h4 fun i hi' his => ?_
        by_cases hq : i = mid
        · rw [hq]; omega
        · have := R.lt (show mid < i by omega) his
          omega
    · rw [if_neg hl]
      have : lo = hi := by omega
      subst this
      exact ⟨h2, h4, h5⟩
theorem below_spec {xs : Array Nat} (R : Rise xs) (j : Nat) : SetTable.below xs j ≤ xs.size ∧ (∀ i, i < SetTable.below xs j → xs.getD i 0 < j) ∧ ∀ i, SetTable.below xs j ≤ i → i < xs.size → j ≤ xs.getD i 0 :=
  go_spec R j xs.size 0 xs.size (Nat.zero_le _) (Nat.le_refl _) (by omega) (fun i h => by omega) fun i h1 h2 => by omega
theorem below_zero {xs : Array Nat} (R : Rise xs) : SetTable.below xs 0 = 0 := by
  obtain ⟨_, h2, _⟩ := below_spec R 0
  by_cases h : SetTable.below xs 0 = 0
  · exact h
  · have := h2 0 (by omega)
    omega
theorem below_next {xs : Array Nat} (R : Rise xs) {i : Nat} (hi : i < xs.size) : SetTable.below xs (xs.getD i 0 + 1) = i + 1 := by
  obtain ⟨h1, h2, h3⟩ := below_spec R (xs.getD i 0 + 1)
  generalize SetTable.below xs (xs.getD i 0 + 1) = b at h1 h2 h3
  by_cases ha : b ≤ i
  · have := h3 i ha hi
    omega
  · by_cases hb : i + 1 < b
    · have := h2 (i + 1) hb
      have := R.lt (show i < i + 1 by omega) (show i + 1 < xs.size by omega)
      omega
    · omega
theorem below_at {xs : Array Nat} (R : Rise xs) {i : Nat} (hi : i < xs.size) : SetTable.below xs (xs.getD i 0) = i := by
  obtain ⟨h1, h2, h3⟩ := below_spec R (xs.getD i 0)
  generalize SetTable.below xs (xs.getD i 0) = b at h1 h2 h3
  by_cases ha : b < i
  · have := h3 b (Nat.le_refl _) (by omega)
    have := R.lt ha hi
    omega
  · by_cases hb : i < b
    · have := h2 i hb
      omega
    · omega
theorem insert_rise {xs : Array Nat} (R : Rise xs) {j : Nat} (hj : xs[SetTable.below xs j]? ≠ some j) : Rise (SetTable.insertAt xs (SetTable.below xs j) j) := by
  obtain ⟨h1, h2, h3⟩ := below_spec R j
  have hne : ∀ i, i < xs.size → xs.getD i 0 ≠ j := fun i hi e => by
    have := below_at R hi
    rw [e] at this
    rw [this, Array.getElem?_eq_getElem hi] at hj
    apply hj
    rw [← e]
    simp [Array.getD, hi]
  generalize SetTable.below xs j = b at h1 h2 h3
  unfold Rise
  have e : (SetTable.insertAt xs b j).toList = xs.toList.take b ++ j :: xs.toList.drop b := by
    unfold SetTable.insertAt
    simp
    exact List.take_of_length_le (by simp)
  rw [e]
  have R' : xs.toList.Pairwise (· < ·) := R
  have at_ : ∀ (i : Nat) (x : Nat), xs.toList[i]? = some x → i < xs.size ∧ xs.getD i 0 = x := fun i x h => by
    obtain ⟨hi, e⟩ := List.getElem?_eq_some_iff.mp h
    have hi' : i < xs.size := by simpa using hi
    exact ⟨hi', by simpa [Array.getD, hi'] using e⟩
  refine List.pairwise_append.mpr ⟨R'.sublist (List.take_sublist _ _), List.pairwise_cons.mpr ⟨fun x hx => ?_, R'.sublist (List.drop_sublist _ _)⟩, fun x hx y hy => ?_⟩
  · obtain ⟨i, hi⟩ := List.mem_iff_getElem?.mp hx
    rw [List.getElem?_drop] at hi
    obtain ⟨a1, a2⟩ := at_ _ _ hi
    have := h3 (b + i) (by omega) a1
    have := hne _ a1
    omega
  · obtain ⟨i, hi⟩ := List.mem_iff_getElem?.mp hx
    rw [List.getElem?_take] at hi
    split at hi
    · next hib =>
      obtain ⟨a1, a2⟩ := at_ _ _ hi
      have l1 := h2 i hib
      rcases List.mem_cons.mp hy with rfl | hy
      · omega
      · obtain ⟨k, hk⟩ := List.mem_iff_getElem?.mp hy
        rw [List.getElem?_drop] at hk
        obtain ⟨b1, b2⟩ := at_ _ _ hk
        have := h3 (b + k) (by omega) b1
        omega
    · cases hi
structure TabOk (t : SetTable) (L : Bool) : Prop where
  rise : Rise t.place
  dum : t.dummies = #[]
  led : t.led = L
theorem range_rise (n : Nat) : Rise (Array.range n) := by
  unfold Rise
  rw [Array.toList_range]
  exact List.pairwise_lt_range
theorem stand_tab {t : SetTable} {L : Bool} {n : Nat} (h : TabOk t L) : TabOk (t.standIn n) L := ⟨range_rise n, rfl, h.led⟩
theorem has_none {j : Nat} : SetTable.has #[] j = false := by
  unfold SetTable.has
  simp
theorem slot_not_dummy {t : SetTable} (h : t.dummies = #[]) (j : Nat) : t.slot j ≠ .dummy := by
  unfold SetTable.slot
  rw [h, has_none]
  simp only [Bool.false_eq_true, if_false]
  split <;> simp
theorem probe_empty {t : SetTable} (h : t.dummies = #[]) (hashAt : Nat → Int) (hh : Int) : ∀ (fuel : Nat) (p : SetTable.Probe) (j : Nat) (dm : Option Nat), p.dummy = none → SetTable.probe.go t hashAt hh fuel p = some (.empty j dm) → dm = none ∧ t.slot j = .empty
  | 0, p, j, dm, hp, e => by
    unfold SetTable.probe.go at e
    cases e
  | fuel + 1, p, j, dm, hp, e => by
    unfold SetTable.probe.go at e
    have adv : (t.advance p).dummy = none := by
      unfold SetTable.advance
      split
      · exact hp
      · exact hp
    cases hs : t.slot p.j with
    | empty =>
      rw [hs] at e
      simp only at e
      cases e
      exact ⟨hp, hs⟩
    | dummy => exact absurd hs (slot_not_dummy h _)
    | live i =>
      rw [hs] at e
      simp only at e
      split at e
      · cases e
      · exact probe_empty h hashAt hh fuel _ j dm adv e
theorem free_empty {t : SetTable} (h : t.dummies = #[]) {hh : Int} {j : Nat} {wd : Bool} (e : t.freeSlot hh = some (j, wd)) : t.slot j = .empty := by
  unfold SetTable.freeSlot at e
  split at e
  · next j' dm hp =>
    obtain ⟨rfl, h2⟩ := probe_empty h _ _ _ _ _ _ rfl hp
    cases e
    exact h2
  · cases e
theorem put_tab {t : SetTable} {L : Bool} {j : Nat} (h : TabOk t L) (hj : t.slot j = .empty) : TabOk (t.put j).1 L := by
  have hn : t.place[SetTable.below t.place j]? ≠ some j := fun e => by
    unfold SetTable.slot at hj
    simp only [e, beq_self_eq_true, if_true] at hj
    cases hj
  refine ⟨insert_rise h.rise hn, ?_, h.led⟩
  show (if SetTable.has t.dummies j then _ else t.dummies) = #[]
  rw [h.dum, has_none]
  rfl
theorem orStand_tab {t : SetTable} {L : Bool} {n : Nat} (h : TabOk t L) : TabOk (t.orStandIn n) L := by
  unfold SetTable.orStandIn
  split
  · exact h
  · exact stand_tab h
theorem layNew_tab {t : SetTable} {L : Bool} {es : Array (Int × Value)} {h : Int} {x : Value} (T : TabOk t L) : TabOk (layNew t es h x).2.1 L := by
  unfold layNew
  split
  · next slot wd e => exact orStand_tab (put_tab T (free_empty T.dum e))
  · exact stand_tab T
theorem relay_tab {t : SetTable} {L : Bool} {es : Array (Int × Value)} {wanted : Nat} (T : TabOk t L) : TabOk (relayAll t es wanted).2.1 L := by
  unfold relayAll
  split
  · next t' order e =>
    simp only
    split
    · unfold SetTable.relaid SetTable.laid at e
      simp only [Option.bind_eq_bind, Option.bind_eq_some_iff] at e
      obtain ⟨owner, _, e⟩ := e
      cases e
      refine ⟨?_, rfl, T.led⟩
      unfold Rise
      simp only
      rw [List.map_filterMap]
      refine List.Pairwise.filterMap _ (fun a b hab c hc d hd => ?_) List.pairwise_lt_range
      cases ha : owner.getD a none with
      | none => rw [ha] at hc; cases hc
      | some x =>
        cases hb : owner.getD b none with
        | none => rw [hb] at hd; cases hd
        | some y =>
          rw [ha] at hc
          rw [hb] at hd
          cases hc
          cases hd
          exact hab
    · exact stand_tab T
  · exact stand_tab T
end PP

end

section
set_option Elab.async false
set_option linter.all false
set_option maxRecDepth 100000
set_option maxHeartbeats 1000000
namespace PP
open PySem PySem.Spec PyProof.Rows L2
theorem owner_setit : Manifest.owners.lookup (String.ofList ['r', 'o', 't', 'a', 'r', 'e', 't', 'i', '_', 't', 'e', 's'].reverse) = some Manifest.sig_set_iterator := by kernel_rfl
theorem slot_setit_next : Slot "set_iterator" "__next__" "set_iterator.__next__" :=
  .of (owner := "set_iterator") (n := "__next__") (by rw [typeLookup_type, builtinLookup_eq_fast]; kernel_rfl) (by decide +kernel) (by decide +kernel) (by decide +kernel) (by first | exact .inl (by decide +kernel) | exact .inr (by decide +kernel)) (by rw [isSubtype_type]; kernel_rfl)
theorem entry_setit_next : entryFor table "set_iterator.__next__" = some Builtin.«set_iterator.__next__» := entryFor_of_tree (by kernel_rfl)
theorem args_setit_next (a : Value) : argsOk "set_iterator.__next__" ⟨[a], []⟩ := by
  unfold argsOk
  rw [signature?_of (id := "set_iterator.__next__") (n := ['_', '_', 't', 'x', 'e', 'n', '_', '_']) (o := ['r', 'o', 't', 'a', 'r', 'e', 't', 'i', '_', 't', 'e', 's']) (by kernel_rfl) owner_setit]
  kernel_rfl
theorem slot_setit_iter : Slot "set_iterator" "__iter__" "set_iterator.__iter__" :=
  .of (owner := "set_iterator") (n := "__iter__") (by rw [typeLookup_type, builtinLookup_eq_fast]; kernel_rfl) (by decide +kernel) (by decide +kernel) (by decide +kernel) (by first | exact .inl (by decide +kernel) | exact .inr (by decide +kernel)) (by rw [isSubtype_type]; kernel_rfl)
theorem entry_setit_iter : entryFor table "set_iterator.__iter__" = some Builtin.«dict_keyiterator.__iter__» := entryFor_alias (id' := "dict_keyiterator.__iter__") (by kernel_rfl) rfl (by decide +kernel) (by kernel_rfl)
theorem args_setit_iter (a : Value) : argsOk "set_iterator.__iter__" ⟨[a], []⟩ := by
  unfold argsOk
  rw [signature?_of (id := "set_iterator.__iter__") (n := ['_', '_', 'r', 'e', 't', 'i', '_', '_']) (o := ['r', 'o', 't', 'a', 'r', 'e', 't', 'i', '_', 't', 'e', 's']) (by kernel_rfl) owner_setit]
  kernel_rfl
theorem entry_set_iter : entryFor table "set.__iter__" = some Builtin.«frozenset.__iter__» := entryFor_alias (id' := "frozenset.__iter__") (by kernel_rfl) rfl (by decide +kernel) (by kernel_rfl)
def SetIt (h : Heap) (it a : Addr) (first : Value) (i n ep : Nat) : Prop := ∃ o, h.get? it = some o ∧ o.cls = .type "set_iterator" ∧ o.data = .fields #[first, .int i 0, .ref a, .int n 0, .int ep 0]
structure SetSt (h : Heap) (a : Addr) (es : Array (Int × Value)) (ep : Nat) (t : SetTable) : Prop where
  ex : ∃ o, h.get? a = some o ∧ o.ExactSet ∧ o.data = .set es ep t
  fit : t.fits es.size = true
section
variable {prog : Program} {w : World} {A : Around} {E : Value → Shared → Prop} {s : Shared} {it a : Addr} {first : Value} {i n ep : Nat} {es : Array (Int × Value)} {t : SetTable}
theorem SetIt.at {h h' : Heap} (x : SetIt h it a first i n ep) (e : ∀ o, h.get? it = some o → h'.get? it = some o) : SetIt h' it a first i n ep := let ⟨o, ho, r⟩ := x; ⟨o, e _ ho, r⟩
theorem SetSt.at {h h' : Heap} (x : SetSt h a es ep t) (e : ∀ o, h.get? a = some o → h'.get? a = some o) : SetSt h' a es ep t := let ⟨⟨o, ho, r⟩, f⟩ := x; ⟨⟨o, e _ ho, r⟩, f⟩
theorem SetIt.typeIs (x : SetIt s.heap it a first i n ep) : s.TypeIs (.ref it) "set_iterator" := let ⟨o, ho, hc, _⟩ := x; ⟨o, ho, hc⟩
theorem next_slot {slot nx : Nat} {x : Value} {Q : Option Value → Shared → Prop} (hit : SetIt s.heap it a (.int slot 0) i n ep) (hS : SetSt s.heap a es ep t) (hn : es.size = n)
    (hN : ∀ (A' : Around) (E' : Value → Shared → Prop) (Q' : Option (Value × Nat) → Shared → Prop), Q' (some (x, nx)) s → wpAny (model prog w) A' (setNext a slot i ep) Q' E' s)
    (hQ : ∀ h', SetIt h' it a (.int nx 0) (i + 1) n ep → Heap.SameBut it s.heap h' → Q (some x) { s with heap := h' }) : wpAny (model prog w) A (pyNext (.ref it)) Q E s := by
  obtain ⟨oi, hoi, hc, hdi⟩ := id hit
  obtain ⟨⟨o, ho, hx, hd⟩, hf⟩ := hS
  unfold pyNext
  refine wpAny_bind (wpAny_attempt (wpAny_callSpecial?_slot (name := Str.ofString "__next__") hit.typeIs slot_setit_next
    (wpAny_call_entry slot_setit_next hit.typeIs entry_setit_next ?_ (args_setit_next _))))
  unfold Builtin.«set_iterator.__next__»
  refine wpAny_bind (wpAny_pure ?_)
  refine wpAny_bind (wpAny_fieldsOf hoi hdi ?_)
  refine wpAny_bind (wpAny_setEntries_of ho hd hf ?_)
  rw [if_neg (by rw [hn]; simp)]
  refine wpAny_bind (hN _ _ _ ?_)
  refine wpAny_bind (wpAny_setField hoi hdi (by simp) ?_)
  have ho1 := Heap.get?_update_self (Obj.mapFields (·.setIfInBounds 0 (rawInt nx))) hoi (Obj.isFreed_of_fields (Obj.data_mapFields hdi _))
  have hd1 := Obj.data_mapFields hdi (·.setIfInBounds 0 (rawInt nx))
  refine wpAny_bind (wpAny_setField ho1 hd1 (by simp) ?_)
  have ho2 := Heap.get?_update_self (Obj.mapFields (·.setIfInBounds 1 (rawInt ((i : Int) + 1)))) ho1 (Obj.isFreed_of_fields (Obj.data_mapFields hd1 _))
  refine wpAny_pure ⟨_, rfl, wpAny_pure (hQ _ ⟨_, ho2, (Obj.cls_mapFields ..).trans ((Obj.cls_mapFields ..).trans hc), ?_⟩ ((Heap.SameBut.update ..).trans (Heap.SameBut.update ..)))⟩
  rw [Obj.data_mapFields hd1]
  simp [rawInt]
theorem next_slot_end {slot : Nat} {Q : Option Value → Shared → Prop} (hh : A.handled = none) (hit : SetIt s.heap it a (.int slot 0) i n ep) (hS : SetSt s.heap a es ep t) (hn : es.size = n)
    (hN : ∀ (A' : Around) (E' : Value → Shared → Prop) (Q' : Option (Value × Nat) → Shared → Prop), Q' none s → wpAny (model prog w) A' (setNext a slot i ep) Q' E' s)
    (hQ : ∀ h', Heap.ExtBut it s.heap h' → Q none { s with heap := h' }) : wpAny (model prog w) A (pyNext (.ref it)) Q E s := by
  obtain ⟨oi, hoi, hc, hdi⟩ := id hit
  obtain ⟨⟨o, ho, hx, hd⟩, hf⟩ := hS
  unfold pyNext
  refine wpAny_bind (wpAny_attempt (wpAny_callSpecial?_slot (name := Str.ofString "__next__") hit.typeIs slot_setit_next
    (wpAny_call_entry slot_setit_next hit.typeIs entry_setit_next ?_ (args_setit_next _))))
  unfold Builtin.«set_iterator.__next__»
  refine wpAny_bind (wpAny_pure ?_)
  refine wpAny_bind (wpAny_fieldsOf hoi hdi ?_)
  refine wpAny_bind (wpAny_setEntries_of ho hd hf ?_)
  rw [if_neg (by rw [hn]; simp)]
  refine wpAny_bind (hN _ _ _ ?_)
  refine wpAny_bind (wpAny_setField hoi hdi (by simp) ?_)
  show wpAny _ _ (newExc (.type "StopIteration") [] >>= _) _ _ _
  refine wpAny_bind ?_
  simp only [newExc, newTuple]
  refine wpAny_bind (wpAny_newObj_type ?_ (by size_fits))
  refine wpAny_bind (m := firstArgMember _ _) (wpAny_of_eq (a := Value.none) (by first | rfl | (simp only [firstArgMember]; rfl)) ?_)
  refine wpAny_newObj_type ?_ (by size_fits)
  simp only [raiseNew]
  refine wpAny_bind (wpAny_handled ?_)
  rw [show A.in1.handled = none from hh]
  refine wpAny_bind (wpAny_pure (wpAny_throw ?_))
  refine wpAny_bind (wpAny_isInstance (T := "StopIteration") (b := true) ⟨_, Heap.get?_push_size _ rfl, rfl⟩ isSubtype_stop ?_)
  exact wpAny_pure (hQ _ (((Heap.SameBut.update ..).extBut.push _).push _))
end
end PP

end

section
set_option Elab.async false
set_option linter.all false
set_option maxRecDepth 100000
set_option maxHeartbeats 1000000
namespace PP
open PySem PySem.Spec PyProof.Rows L2
section
variable {prog : Program} {w : World} {A : Around} {E : Value → Shared → Prop} {s : Shared} {it a : Addr} {first : Value} {i n ep : Nat} {es : Array (Int × Value)} {t : SetTable}
theorem by_text {Q : Bool → Shared → Prop} (h : Q (w.params.followText "set-order") s) : wpAny (model prog w) A setsByText Q E s := by
  unfold setsByText
  exact wpAny_bind (wpAny_askSetting (wpAny_pure h))
theorem nx_text {slot : Nat} {Q : Option (Value × Nat) → Shared → Prop} (hb : w.params.followText "set-order" = true) (hS : SetSt s.heap a es ep t)
    (h : Q (((pickOrder (w.params.setOrder a ep) es)[i]?).map fun e => (e.2, slot)) s) : wpAny (model prog w) A (setNext a slot i ep) Q E s := by
  obtain ⟨⟨o, ho, hx, hd⟩, hf⟩ := hS
  unfold setNext
  refine wpAny_bind (wpAny_setState_of ho hd hf ?_)
  refine wpAny_bind (by_text ?_)
  rw [hb]
  simp only [if_true]
  rw [if_neg (by simp)]
  refine wpAny_bind ?_
  unfold setWalk
  refine wpAny_bind (wpAny_setState_of ho hd hf ?_)
  refine wpAny_bind (by_text ?_)
  rw [hb]
  simp only [if_true]
  refine wpAny_bind (wpAny_askSetting (wpAny_pure ?_))
  exact wpAny_pure h
theorem nx_place {slot : Nat} {Q : Option (Value × Nat) → Shared → Prop} (hb : w.params.followText "set-order" = false) (hS : SetSt s.heap a es ep t) (hdr : ¬ ((!t.plain && decide (es.size > 1)) = true)) (hl : t.led = true)
    (h : Q (match es[SetTable.below t.place slot]?, t.place[SetTable.below t.place slot]? with
      | some (_, x), some j => some (x, j + 1)
      | _, _ => none) s) : wpAny (model prog w) A (setNext a slot i ep) Q E s := by
  obtain ⟨⟨o, ho, hx, hd⟩, hf⟩ := hS
  unfold setNext
  refine wpAny_bind (wpAny_setState_of ho hd hf ?_)
  refine wpAny_bind (by_text ?_)
  rw [hb]
  simp only [Bool.false_eq_true, if_false]
  refine wpAny_ite_split (fun z => absurd z hdr) fun _ => ?_
  refine wpAny_bind ?_
  show wpAny _ _ (if (!t.led && !es.isEmpty) = true then unsupported "set:maker-not-led" else pure ()) _ _ _
  rw [if_neg (by rw [hl]; simp)]
  refine wpAny_pure ?_
  exact wpAny_pure h
theorem nx_drawn {place : Nat} {x : Int × Value} {Q : Value → Shared → Prop} (hS : SetSt s.heap a es ep t) (hx : es[place]? = some x) (h : Q x.2 s) : wpAny (model prog w) A (setNextDrawn a place ep) Q E s := by
  obtain ⟨⟨o, ho, _, hd⟩, hf⟩ := hS
  unfold setNextDrawn
  refine wpAny_bind (wpAny_setState_of ho hd hf ?_)
  dsimp only
  rw [if_neg (by simp), hx]
  exact wpAny_pure h
end
end PP

end

section
set_option Elab.async false
set_option linter.all false
set_option maxRecDepth 100000
set_option maxHeartbeats 1000000
namespace PP
open PySem PySem.Spec PyProof.Rows L2
section
variable {prog : Program} {w : World} {A : Around} {E : Value → Shared → Prop} {s : Shared} {it a tp : Addr} {first : Value} {i n ep : Nat} {es : Array (Int × Value)} {t : SetTable} {pl : List Nat}
def PlacesAt (h : Heap) (tp : Addr) (pl : List Nat) : Prop := h.IsTuple tp (pl.map fun (k : Nat) => Value.int k 0).toArray
theorem next_drawn {x : Int × Value} {p : Nat} {Q : Option Value → Shared → Prop} (hit : SetIt s.heap it a (.ref tp) i n ep) (hS : SetSt s.heap a es ep t) (hn : es.size = n) (hpl : PlacesAt s.heap tp pl) (hp : pl[i]? = some p) (hx : es[p]? = some x)
    (hQ : ∀ h', SetIt h' it a (.ref tp) (i + 1) n ep → Heap.SameBut it s.heap h' → Q (some x.2) { s with heap := h' }) : wpAny (model prog w) A (pyNext (.ref it)) Q E s := by
  obtain ⟨oi, hoi, hc, hdi⟩ := id hit
  obtain ⟨⟨o, ho, _, hd⟩, hf⟩ := id hS
  obtain ⟨ot, hot, hct, nt, hdt⟩ := id hpl
  unfold pyNext
  refine wpAny_bind (wpAny_attempt (wpAny_callSpecial?_slot (name := Str.ofString "__next__") hit.typeIs slot_setit_next
    (wpAny_call_entry slot_setit_next hit.typeIs entry_setit_next ?_ (args_setit_next _))))
  unfold Builtin.«set_iterator.__next__»
  refine wpAny_bind (wpAny_pure ?_)
  refine wpAny_bind (wpAny_fieldsOf hoi hdi ?_)
  refine wpAny_bind (wpAny_setEntries_of ho hd hf ?_)
  rw [if_neg (by rw [hn]; simp)]
  refine wpAny_bind (wpAny_seqItems hot hdt ?_)
  have e : (pl.map fun (k : Nat) => Value.int k 0).toArray[((i : Nat) : Int).toNat]? = some (.int p 0) := by
    simp [hp]
  dsimp only
  rw [e]
  refine wpAny_bind (nx_drawn (place := ((p : Nat) : Int).toNat) hS (by simpa using hx) ?_)
  refine wpAny_bind (wpAny_setField hoi hdi (by simp) ?_)
  have ho2 := Heap.get?_update_self (Obj.mapFields (·.setIfInBounds 1 (rawInt ((i : Int) + 1)))) hoi (Obj.isFreed_of_fields (Obj.data_mapFields hdi _))
  refine wpAny_pure ⟨_, rfl, wpAny_pure (hQ _ ⟨_, ho2, (Obj.cls_mapFields ..).trans hc, ?_⟩ (Heap.SameBut.update ..))⟩
  rw [Obj.data_mapFields hdi]
  simp [rawInt]
theorem next_drawn_end {Q : Option Value → Shared → Prop} (hh : A.handled = none) (hit : SetIt s.heap it a (.ref tp) i n ep) (hS : SetSt s.heap a es ep t) (hn : es.size = n) (hpl : PlacesAt s.heap tp pl) (hp : pl[i]? = none)
    (hQ : ∀ h', Heap.ExtBut it s.heap h' → Q none { s with heap := h' }) : wpAny (model prog w) A (pyNext (.ref it)) Q E s := by
  obtain ⟨oi, hoi, hc, hdi⟩ := id hit
  obtain ⟨⟨o, ho, _, hd⟩, hf⟩ := id hS
  obtain ⟨ot, hot, hct, nt, hdt⟩ := id hpl
  unfold pyNext
  refine wpAny_bind (wpAny_attempt (wpAny_callSpecial?_slot (name := Str.ofString "__next__") hit.typeIs slot_setit_next
    (wpAny_call_entry slot_setit_next hit.typeIs entry_setit_next ?_ (args_setit_next _))))
  unfold Builtin.«set_iterator.__next__»
  refine wpAny_bind (wpAny_pure ?_)
  refine wpAny_bind (wpAny_fieldsOf hoi hdi ?_)
  refine wpAny_bind (wpAny_setEntries_of ho hd hf ?_)
  rw [if_neg (by rw [hn]; simp)]
  refine wpAny_bind (wpAny_seqItems hot hdt ?_)
  have e : (pl.map fun (k : Nat) => Value.int k 0).toArray[((i : Nat) : Int).toNat]? = none := by
    simpa using hp
  dsimp only
  rw [e]
  refine wpAny_bind (wpAny_setField hoi hdi (by simp) ?_)
  have ho1 := Heap.get?_update_self (Obj.mapFields (·.setIfInBounds 0 (rawInt 0))) hoi (Obj.isFreed_of_fields (Obj.data_mapFields hdi _))
  refine wpAny_bind (wpAny_setField ho1 (Obj.data_mapFields hdi (·.setIfInBounds 0 (rawInt 0))) (by simp) ?_)
  show wpAny _ _ (newExc (.type "StopIteration") [] >>= _) _ _ _
  refine wpAny_bind ?_
  simp only [newExc, newTuple]
  refine wpAny_bind (wpAny_newObj_type ?_ (by size_fits))
  refine wpAny_bind (m := firstArgMember _ _) (wpAny_of_eq (a := Value.none) (by first | rfl | (simp only [firstArgMember]; rfl)) ?_)
  refine wpAny_newObj_type ?_ (by size_fits)
  simp only [raiseNew]
  refine wpAny_bind (wpAny_handled ?_)
  rw [show A.in1.handled = none from hh]
  refine wpAny_bind (wpAny_pure (wpAny_throw ?_))
  refine wpAny_bind (wpAny_isInstance (T := "StopIteration") (b := true) ⟨_, Heap.get?_push_size _ rfl, rfl⟩ isSubtype_stop ?_)
  exact wpAny_pure (hQ _ ((((Heap.SameBut.update ..).trans (Heap.SameBut.update ..)).extBut.push _).push _))
theorem iter_setit (hit : SetIt s.heap it a first i n ep) {Q : Value → Shared → Prop} (h : Q (.ref it) s) : wpAny (model prog w) A (pyIter (.ref it)) Q E s := by
  refine wpAny_pyIter_slot hit.typeIs slot_setit_iter (wpAny_call_entry slot_setit_iter hit.typeIs entry_setit_iter ?_ (args_setit_iter _))
  show wpAny _ _ (ret (.ref it)) _ _ s
  exact wpAny_pure ⟨_, rfl, "set_iterator", _, hit.typeIs, slot_setit_next.lookup, h⟩
structure Slots (prog : Program) (w : World) (a : Addr) (es : Array (Int × Value)) (ep : Nat) (t : SetTable) (ok : Nat → Nat → Prop) (ord : List Value) : Prop where
  len : ord.length = es.size
  item : ∀ (i slot : Nat) (x : Value), ok i slot → ord[i]? = some x → ∃ nx, ok (i + 1) nx ∧ ∀ (s : Shared), SetSt s.heap a es ep t → ∀ (A' : Around) (E' : Value → Shared → Prop) (Q' : Option (Value × Nat) → Shared → Prop), Q' (some (x, nx)) s → wpAny (model prog w) A' (setNext a slot i ep) Q' E' s
  done : ∀ (i slot : Nat), ok i slot → ord[i]? = none → ∀ (s : Shared), SetSt s.heap a es ep t → ∀ (A' : Around) (E' : Value → Shared → Prop) (Q' : Option (Value × Nat) → Shared → Prop), Q' none s → wpAny (model prog w) A' (setNext a slot i ep) Q' E' s
theorem walk_slots {ok : Nat → Nat → Prop} {ord : List Value} (hh : A.handled = none) (S : Slots prog w a es ep t ok ord) (it : Addr) (hne : a ≠ it) :
    Walks prog w A it [it, a] [it] ord.length (fun i v => ord[i]? = some v) (fun i h => (∃ slot, ok i slot ∧ SetIt h it a (.int slot 0) i es.size ep) ∧ SetSt h a es ep t) where
  sub := fun b hb => by
    rw [List.mem_singleton.mp hb]
    simp
  frame := fun i h h' st hk => ⟨let ⟨slot, h1, h2⟩ := st.1; ⟨slot, h1, h2.at fun o e => hk it (by simp) o e⟩, st.2.at fun o e => hk a (by simp) o e⟩
  item := fun i s Q E hi st hQ => by
    obtain ⟨⟨slot, h1, h2⟩, h3⟩ := st
    obtain ⟨nx, g1, g2⟩ := S.item i slot _ h1 (List.getElem?_eq_getElem hi)
    refine next_slot h2 h3 rfl (g2 s h3) fun h' st' sb => ?_
    exact hQ _ h' s.toks (List.getElem?_eq_getElem hi) ⟨⟨nx, g1, st'⟩, h3.at fun o e => (sb.2 a hne).trans e⟩ fun b o hb e => (sb.2 b (fun z => hb (by simp [z]))).trans e
  done := fun s Q E st hQ => by
    obtain ⟨⟨slot, h1, h2⟩, h3⟩ := st
    refine next_slot_end hh h2 h3 rfl (S.done _ slot h1 (List.getElem?_eq_none (Nat.le_refl _)) s h3) fun h' eb => ?_
    exact hQ h' s.toks fun b o hb e => eb b o (fun z => hb (by simp [z])) e
  self := fun i s Q E st h => by
    obtain ⟨⟨slot, _, h2⟩, _⟩ := st
    exact iter_setit h2 h
theorem walk_drawn (hh : A.handled = none) (it : Addr) (hne : a ≠ it) (hnt : tp ≠ it) (hpl : ∀ p ∈ pl, p < es.size) :
    Walks prog w A it [it, a, tp] [it] pl.length (fun i v => (pl.map fun p => (es.getD p (0, .none)).2)[i]? = some v) (fun i h => SetIt h it a (.ref tp) i es.size ep ∧ SetSt h a es ep t ∧ PlacesAt h tp pl) where
  sub := fun b hb => by
    rw [List.mem_singleton.mp hb]
    simp
  frame := fun i h h' st hk => ⟨st.1.at fun o e => hk it (by simp) o e, st.2.1.at fun o e => hk a (by simp) o e, let ⟨o, ho, r⟩ := st.2.2; ⟨o, hk tp (by simp) o ho, r⟩⟩
  item := fun i s Q E hi st hQ => by
    obtain ⟨h1, h2, h3⟩ := st
    have hp := List.getElem?_eq_getElem hi
    have hlt := hpl _ (List.mem_of_getElem? hp)
    have he : es[pl[i]]? = some (es.getD pl[i] (0, .none)) := by
      rw [Array.getElem?_eq_getElem hlt]
      simp [Array.getD, hlt]
    refine next_drawn h1 h2 rfl h3 hp he fun h' st' sb => ?_
    exact hQ _ h' s.toks (by rw [List.getElem?_map, hp]; rfl) ⟨st', h2.at fun o e => (sb.2 a hne).trans e, let ⟨o, ho, r⟩ := h3; ⟨o, (sb.2 tp hnt).trans ho, r⟩⟩ fun b o hb e => (sb.2 b (fun z => hb (by simp [z]))).trans e
  done := fun s Q E st hQ => by
    obtain ⟨h1, h2, h3⟩ := st
    refine next_drawn_end hh h1 h2 rfl h3 (List.getElem?_eq_none (Nat.le_refl _)) fun h' eb => ?_
    exact hQ h' s.toks fun b o hb e => eb b o (fun z => hb (by simp [z])) e
  self := fun i s Q E st h => iter_setit st.1 h
end
end PP

end

section
set_option Elab.async false
set_option linter.all false
set_option maxRecDepth 100000
set_option maxHeartbeats 1000000
namespace PP
open PySem PySem.Spec PyProof.Rows L2
theorem cons_erase {α : Type} {l : List α} {i : Nat} (h : i < l.length) : (l[i] :: l.eraseIdx i).Perm l := by
  rw [List.eraseIdx_eq_take_drop_succ]
  refine List.perm_middle.symm.trans (List.Perm.of_eq ?_)
  rw [← List.drop_eq_getElem_cons h, List.take_append_drop]
theorem pick_perm {α : Type} (next : Nat → Nat) : ∀ (fuel k : Nat) (left : List α) (out : Array α), fuel = left.length → (pickOrder.go next fuel k left out).toList.Perm (out.toList ++ left)
  | 0, k, left, out, h => by
    have : left = [] := List.eq_nil_of_length_eq_zero h.symm
    subst this
    unfold pickOrder.go
    simp
  | fuel + 1, k, left, out, h => by
    unfold pickOrder.go
    have hlt : next k % left.length < left.length := Nat.mod_lt _ (by omega)
    rw [List.getElem?_eq_getElem hlt]
    simp only
    refine (pick_perm next fuel (k + 1) _ _ (by rw [List.length_eraseIdx_of_lt hlt]; omega)).trans ?_
    rw [Array.toList_push, List.append_assoc]
    exact List.Perm.append_left _ (cons_erase hlt)
theorem pickOrder_perm {α : Type} (next : Nat → Nat) (xs : Array α) : (pickOrder next xs).toList.Perm xs.toList := by
  unfold pickOrder
  have := pick_perm next xs.size 0 xs.toList #[] (by simp)
  simpa using this
section
variable {prog : Program} {w : World} {A : Around} {E : Value → Shared → Prop} {s : Shared} {it a tp : Addr} {first : Value} {i n ep : Nat} {es : Array (Int × Value)} {t : SetTable} {pl : List Nat}
theorem slots_text (hb : w.params.followText "set-order" = true) : Slots prog w a es ep t (fun _ _ => True) ((pickOrder (w.params.setOrder a ep) es).toList.map (·.2)) where
  len := by rw [List.length_map, (pickOrder_perm _ _).length_eq, Array.length_toList]
  item := fun i slot x _ hx => ⟨slot, trivial, fun s hS A' E' Q' h => nx_text hb hS (by
    rw [List.getElem?_map, Array.getElem?_toList] at hx
    obtain ⟨e, he, rfl⟩ := Option.map_eq_some_iff.mp hx
    rw [he]
    exact h)⟩
  done := fun i slot _ hx s hS A' E' Q' h => nx_text hb hS (by
    rw [List.getElem?_map, Array.getElem?_toList] at hx
    rw [Option.map_eq_none_iff.mp hx]
    exact h)
theorem slots_place (hb : w.params.followText "set-order" = false) (hdr : ¬ ((!t.plain && decide (es.size > 1)) = true)) (hT : TabOk t true) (hf : t.fits es.size = true) : Slots prog w a es ep t (fun i slot => SetTable.below t.place slot = i) (es.toList.map (·.2)) where
  len := by rw [List.length_map, Array.length_toList]
  item := fun i slot x hok hx => by
    have hsz : t.place.size = es.size := by
      simp only [SetTable.fits, Bool.and_eq_true, beq_iff_eq] at hf
      exact hf.1
    rw [List.getElem?_map, Array.getElem?_toList] at hx
    obtain ⟨e, he, rfl⟩ := Option.map_eq_some_iff.mp hx
    have hi : i < t.place.size := by
      rw [hsz]
      exact (Array.getElem?_eq_some_iff.mp he).1
    refine ⟨t.place.getD i 0 + 1, below_next hT.rise hi, fun s hS A' E' Q' h => nx_place hb hS hdr hT.led ?_⟩
    rw [hok, he, Array.getElem?_eq_getElem hi]
    have e2 : t.place.getD i 0 = t.place[i] := by simp [Array.getD, hi]
    rw [e2] at h
    exact h
  done := fun i slot hok hx s hS A' E' Q' h => nx_place hb hS hdr hT.led (by
    rw [List.getElem?_map, Array.getElem?_toList] at hx
    rw [hok, Option.map_eq_none_iff.mp hx]
    exact h)
theorem choose_any {src : Source} {Q : Nat → Shared → Prop} {M : Model} (hn : n ≠ 0) (h : ∀ (i : Nat) (s' : Shared), i < n → s'.heap = s.heap → s'.gens = s.gens → s'.os = s.os → Q i s') : wpAny M A (choose src n) Q E s :=
  fun _ _ _ => ⟨hn, h _ _ (Nat.mod_lt _ (Nat.pos_of_ne_zero hn)) rfl rfl rfl⟩
theorem draw_order {α : Type} {M : Model} : ∀ (xs : List α) (n : Nat) {Q : List α → Shared → Prop} {s : Shared}, n = xs.length → (∀ (ys : List α) (s' : Shared), ys.Perm xs → s'.heap = s.heap → s'.gens = s.gens → s'.os = s.os → Q ys s') → wpAny M A (drawOrder n xs) Q E s
  | xs, 0, Q, s, hn, h => by
    have : xs = [] := List.eq_nil_of_length_eq_zero hn.symm
    subst this
    unfold drawOrder
    exact wpAny_pure (h [] s .nil rfl rfl rfl)
  | [], n + 1, Q, s, hn, h => by cases hn
  | x :: xs, n + 1, Q, s, hn, h => by
    unfold drawOrder
    refine wpAny_bind (choose_any (by simp) fun i s1 hi e1 e2 e3 => ?_)
    rw [List.getElem?_eq_getElem hi]
    simp only
    refine wpAny_bind (draw_order ((x :: xs).eraseIdx i) n (by rw [List.length_eraseIdx_of_lt hi]; omega) fun ys s2 hp f1 f2 f3 => wpAny_pure ?_)
    exact h _ s2 ((List.Perm.cons _ hp).trans (cons_erase hi)) (f1.trans e1) (f2.trans e2) (f3.trans e3)
structure SetGoes (prog : Program) (w : World) (s s' : Shared) (a it : Addr) (es : Array (Int × Value)) (fp : List Addr) (ord : List Value) (St : Nat → Heap → Prop) : Prop where
  keep : ∀ b o, s.heap.get? b = some o → s'.heap.get? b = some o
  gens : s'.gens = s.gens
  os : s'.os = s.os
  new : s.heap.objs.size ≤ it
  lt : it < s'.heap.objs.size
  W : ∀ A : Around, A.handled = none → Walks prog w A it fp [it] ord.length (fun i v => ord[i]? = some v) St
  st : St 0 s'.heap
  fp : ∀ b ∈ fp, b < s'.heap.objs.size ∧ (b = a ∨ s.heap.objs.size ≤ b)
  perm : ord.Perm (es.toList.map (·.2))
theorem set_drawn {Q : Bool → Shared → Prop} (hS : SetSt s.heap a es ep t) (h : Q (!w.params.followText "set-order" && (!t.plain && decide (es.size > 1))) s) : wpAny (model prog w) A (setDrawn a) Q E s := by
  obtain ⟨⟨o, ho, hx, hd⟩, hf⟩ := hS
  unfold setDrawn
  refine wpAny_bind (wpAny_setState_of ho hd hf ?_)
  refine wpAny_bind (by_text ?_)
  exact wpAny_pure h
theorem iter_set {Q : Value → Shared → Prop} (hS : SetSt s.heap a es ep t) (hT : TabOk t (!w.params.followText "set-order")) (hsz : es.size ≤ 4096)
    (hQ : ∀ (it : Addr) (s' : Shared) (fp : List Addr) (ord : List Value) (St : Nat → Heap → Prop), SetGoes prog w s s' a it es fp ord St → Q (.ref it) s') : wpAny (model prog w) A (pyIter (.ref a)) Q E s := by
  have big : (4096 : Nat) ≤ sizeLine := by decide
  obtain ⟨⟨o, ho, hx, hd⟩, hf⟩ := id hS
  have hTy : s.TypeIs (.ref a) "set" := ⟨o, ho, hx.1⟩
  have halt : a < s.heap.objs.size := Heap.lt_size ho
  refine wpAny_pyIter_slot hTy F.slot_set_iter (wpAny_call_entry F.slot_set_iter hTy entry_set_iter ?_ (F.args_set_iter_1 _))
  unfold Builtin.«frozenset.__iter__»
  refine wpAny_bind ?_
  show wpAny _ _ (pure a) _ _ s
  refine wpAny_pure ?_
  refine wpAny_bind ?_
  unfold Builtin.Frozenset.sizeOf
  refine wpAny_bind (wpAny_setEntries_of ho hd hf (wpAny_pure ?_))
  refine wpAny_bind (set_drawn hS ?_)
  by_cases hdr : (!w.params.followText "set-order" && (!t.plain && decide (es.size > 1))) = true
  · rw [hdr]
    simp only [if_true]
    refine wpAny_bind (draw_order (List.range es.size) es.size (by rw [List.length_range]) fun pl s1 hp e1 e2 e3 => ?_)
    have hpn : pl.length = es.size := by rw [hp.length_eq, List.length_range]
    refine wpAny_bind (wpAny_newTuple ?_ (by rw [List.length_map, hpn]; omega))
    have hS1 : SetSt s1.heap a es ep t := hS.at fun o e => by rw [e1]; exact e
    generalize hob : ({ cls := .type "tuple", data := .seq _ } : Obj) = ob
    have hkp : ∀ b o, s.heap.get? b = some o → (s1.heap.push ob).get? b = some o := fun b o e => Heap.get?_push_of_some _ (by rw [e1]; exact e)
    refine wpAny_bind (wpAny_setEpoch_of (hkp _ _ ho) hd hf ?_)
    refine wpAny_bind (wpAny_newObj_type (wpAny_pure ⟨_, rfl, "set_iterator", _, ⟨_, Heap.get?_push_size _ rfl, rfl⟩, slot_setit_next.lookup, ?_⟩))
    have sz1 : (s1.heap.push ob).objs.size = s.heap.objs.size + 1 := by rw [Heap.size_push, e1]
    have hpl : ∀ p ∈ pl, p < es.size := fun p h => List.mem_range.mp (hp.mem_iff.mp h)
    have htp : ((s1.heap.push ob).push { cls := .type "set_iterator", data := .fields #[.ref s1.heap.objs.size, .int 0 0, .ref a, .int es.size 0, .int ep 0] }).get? s1.heap.objs.size = some ob := Heap.get?_push_of_some _ (Heap.get?_push_size _ (by rw [← hob]; rfl))
    refine hQ _ _ [(s1.heap.push ob).objs.size, a, s1.heap.objs.size] (pl.map fun p => (es.getD p (0, .none)).2) (fun i h => SetIt h (s1.heap.push ob).objs.size a (.ref s1.heap.objs.size) i es.size ep ∧ SetSt h a es ep t ∧ PlacesAt h s1.heap.objs.size pl) ⟨fun b o e => Heap.get?_push_of_some _ (hkp b o e), e2, e3, by rw [sz1]; exact Nat.le_succ _, Nat.lt_of_lt_of_eq (Nat.lt_succ_self _) (Heap.size_push (s1.heap.push ob) _).symm, fun A' hh => ?_, ?_, fun b hb => ?_, ?_⟩
    · rw [List.length_map]
      exact walk_drawn (t := t) (ep := ep) (tp := s1.heap.objs.size) hh (s1.heap.push ob).objs.size (by rw [sz1]; exact Nat.ne_of_lt (Nat.lt_succ_of_lt halt)) (by rw [Heap.size_push]; exact Nat.ne_of_lt (Nat.lt_succ_self _)) hpl
    · refine ⟨⟨_, Heap.get?_push_size _ rfl, rfl, rfl⟩, hS.at fun o e => Heap.get?_push_of_some _ (hkp _ _ e), ⟨ob, htp, by rw [← hob], _, by rw [← hob]; simp [List.map_map, rawInt]; rfl⟩⟩
    · rw [show ∀ x, ((s1.heap.push ob).push x).objs.size = s.heap.objs.size + 1 + 1 from fun x => by rw [Heap.size_push (s1.heap.push ob), sz1]]
      rcases List.mem_cons.mp hb with rfl | hb
      · rw [sz1]
        exact ⟨Nat.lt_succ_self _, .inr (Nat.le_succ _)⟩
      · rcases List.mem_cons.mp hb with rfl | hb
        · exact ⟨Nat.lt_succ_of_lt (Nat.lt_succ_of_lt halt), .inl rfl⟩
        · rw [List.mem_singleton.mp hb, e1]
          exact ⟨Nat.lt_succ_of_lt (Nat.lt_succ_self _), .inr (Nat.le_refl _)⟩
    · refine (hp.map _).trans (List.Perm.of_eq ?_)
      apply List.ext_getElem?
      intro j
      rw [List.getElem?_map, List.getElem?_map, show es.toList[j]? = es[j]? from Array.getElem?_toList]
      by_cases hj : j < es.size
      · rw [List.getElem?_range hj, Array.getElem?_eq_getElem hj]
        simp [Array.getD, hj]
      · rw [List.getElem?_eq_none (by simpa using hj), Array.getElem?_eq_none (by omega)]
        rfl
  · rw [Bool.not_eq_true] at hdr
    rw [hdr]
    simp only [Bool.false_eq_true, if_false]
    refine wpAny_bind (wpAny_pure ?_)
    refine wpAny_bind (wpAny_setEpoch_of ho hd hf ?_)
    refine wpAny_bind (wpAny_newObj_type (wpAny_pure ⟨_, rfl, "set_iterator", _, ⟨_, Heap.get?_push_size _ rfl, rfl⟩, slot_setit_next.lookup, ?_⟩))
    have fin : ∀ {ok : Nat → Nat → Prop} {ord : List Value}, Slots prog w a es ep t ok ord → ok 0 0 → ord.Perm (es.toList.map (·.2)) → Q (.ref s.heap.objs.size) { s with heap := s.heap.push { cls := .type "set_iterator", data := .fields #[.int 0 0, .int 0 0, .ref a, .int es.size 0, .int ep 0] } } := fun {ok ord} S h0 hp =>
      hQ _ _ [s.heap.objs.size, a] ord _ ⟨fun b o e => Heap.get?_push_of_some _ e, rfl, rfl, Nat.le_refl _, by rw [Heap.size_push]; exact Nat.lt_succ_self _, fun A' hh => walk_slots hh S s.heap.objs.size (Nat.ne_of_lt halt),
        ⟨⟨0, h0, _, Heap.get?_push_size _ rfl, rfl, rfl⟩, hS.at fun o e => Heap.get?_push_of_some _ e⟩, fun b hb => by
          rw [Heap.size_push]
          rcases List.mem_cons.mp hb with rfl | hb
          · exact ⟨Nat.lt_succ_self _, .inr (Nat.le_refl _)⟩
          · rw [List.mem_singleton.mp hb]
            exact ⟨Nat.lt_succ_of_lt halt, .inl rfl⟩, hp⟩
    cases hb : w.params.followText "set-order" with
    | true => exact fin (slots_text hb) trivial ((pickOrder_perm _ _).map _)
    | false =>
      rw [hb] at hdr hT
      refine fin (slots_place hb (by simpa using hdr) hT hf) (below_zero hT.rise) (List.Perm.refl _)
end
end PP

end

section
set_option Elab.async false
set_option linter.all false
set_option maxRecDepth 100000
set_option maxHeartbeats 3200000
namespace PP
open PySem PySem.Spec PyProof.Rows
structure Els (prog : Program) (w : World) (S : Int → Bool) (es : Array (Int × Value)) : Prop where
  el : ElemsOf (PySem.intKind prog w) es.toList
  mem : ∀ k, S k = true ↔ ∃ e ∈ es.toList, (PySem.intKind prog w).is k e.2 = true
  sm : es.size < scanBound
structure HasS (prog : Program) (w : World) (h : Heap) (a : Addr) (S : Int → Bool) (es : Array (Int × Value)) (t : SetTable) (L : Bool) : Prop extends Els prog w S es where
  ob : ∃ o ep, h.get? a = some o ∧ o.ExactSet ∧ o.data = .set es ep t
  fit : t.fits es.size = true
  tab : TabOk t L
section
variable {prog : Program} {w : World} {A : Around} {E : Value → Shared → Prop} {s : Shared} {L : Bool} {a : Addr} {S S' : Int → Bool} {es es' : Array (Int × Value)} {t t' : SetTable} {k : Int} {tk : Tok}
theorem HasS.at {h h' : Heap} (x : HasS prog w h a S es t L) (e : ∀ o, h.get? a = some o → h'.get? a = some o) : HasS prog w h' a S es t L := ⟨x.toEls, let ⟨o, ep, ho, r⟩ := x.ob; ⟨o, ep, e _ ho, r⟩, x.fit, x.tab⟩
theorem size_perm {xs ys : Array (Int × Value)} {zs : List (Int × Value)} (hp : xs.toList.Perm zs) : xs.size = zs.length := (Array.length_toList).symm.trans hp.length_eq
theorem Els.perm (x : Els prog w S es) (hp : es'.toList.Perm es.toList) : Els prog w S es' where
  el := fun e he => x.el e (hp.mem_iff.mp he)
  mem := fun k => (x.mem k).trans ⟨fun ⟨e, he, q⟩ => ⟨e, hp.mem_iff.mpr he, q⟩, fun ⟨e, he, q⟩ => ⟨e, hp.mem_iff.mp he, q⟩⟩
  sm := by rw [size_perm (ys := es) hp, Array.length_toList]; exact x.sm
theorem Els.more (x : Els prog w S es) (hp : es'.toList.Perm (es.toList ++ [((PySem.intKind prog w).hash k, .int k tk)])) (hr : es.size + 1 < scanBound) : Els prog w (fun k' => S k' || decide (k' = k)) es' where
  el := (x.el.push (PySem.intKind_is prog w k tk) rfl).perm hp
  mem := mem_push_iff (PySem.intKind_is prog w k tk) x.mem hp
  sm := by rw [size_perm (ys := es) hp, List.length_append, Array.length_toList]; exact hr
theorem put_has {Q : Unit → Shared → Prop} (x : HasS prog w s.heap a S es t L) (y : Els prog w S' es') (hf : t'.fits es'.size = true) (hT : TabOk t' L) (hQ : ∀ h', Heap.SameBut a s.heap h' → HasS prog w h' a S' es' t' L → Q () { s with heap := h' }) :
    wpAny (model prog w) A (storeSet a es' t') Q E s := by
  obtain ⟨o, ep, ho, hx, hd⟩ := x.ob
  obtain ⟨h1, _⟩ := SetOf_store (knd := PySem.intKind prog w) ho hx hd y.el y.mem y.sm hf
  exact wpAny_storeSet_of ho hd (hQ _ (Heap.SameBut.update ..) ⟨y, ⟨_, _, h1, hx, rfl⟩, hf, hT⟩) (fits_of_scanBound y.sm)
theorem add_has {Q : Bool → Shared → Prop} (x : HasS prog w s.heap a S es t L) (hr : es.size + 1 < scanBound)
    (hQ : ∀ (h' : Heap) (es' : Array (Int × Value)) (t' : SetTable), Heap.SameBut a s.heap h' → HasS prog w h' a (fun k' => S k' || decide (k' = k)) es' t' L → es'.size = (if S k then es.size else es.size + 1) → Q (!S k) { s with heap := h' }) :
    wpAny (model prog w) A (setAddHashed a (.int k tk) ((PySem.intKind prog w).hash k)) Q E s := by
  obtain ⟨o, ep, ho, hx, hd⟩ := x.ob
  have hk := PySem.intKind_is prog w k tk
  have quiet : ∀ (b : Bool) {s' : Shared} {R : Unit → Shared → Prop}, R () s' → wpAny (model prog w) A (match b with | true => rule "set.scan.the-table-gave-way" | false => pure ()) R E s' := fun b _ _ h => by
    cases b
    · exact wpAny_pure h
    · exact wpAny_rule h
  show wpAny _ _ (holding _ (setState a >>= _)) _ _ s
  refine wpAny_holding (wpAny_bind (wpAny_setState_of ho hd x.fit ?_))
  dsimp only
  rw [byScan_of (knd := PySem.intKind prog w) (show (Value.int k tk).scannable = true from rfl) x.sm x.el, if_pos rfl]
  refine wpAny_bind (wpAny_bind (wpAny_rule (wpAny_bind (wpAny_setScan_of hk ho hd x.fit x.el ?_))))
  have old : S k = true → es.toList.findIdx? (fun e => (PySem.intKind prog w).is k e.2) ≠ none := fun h z => by
    obtain ⟨e, he, q⟩ := (x.mem k).mp h
    have := List.findIdx?_eq_none_iff.mp z e he
    rw [q] at this
    cases this
  cases hi : es.toList.findIdx? (fun e => (PySem.intKind prog w).is k e.2) with
  | some j =>
    obtain ⟨hj, q, _⟩ := List.findIdx?_eq_some_iff_getElem.mp hi
    have hS : S k = true := (x.mem k).mpr ⟨_, List.getElem_mem hj, q⟩
    have same : (fun k' => S k' || decide (k' = k)) = S := funext fun k' => by
      by_cases e : k' = k
      · rw [e, hS]; rfl
      · simp [e]
    have := hQ s.heap es t (Heap.SameBut.refl ..) (by rw [same]; exact x) (by rw [hS]; rfl)
    rw [hS] at this
    exact wpAny_pure (wpAny_pure this)
  | none =>
    have hS : S k = false := by
      cases h : S k with
      | false => rfl
      | true => exact absurd hi (old h)
    have fin : ∀ (h' : Heap) (es' : Array (Int × Value)) (t' : SetTable), Heap.SameBut a s.heap h' → HasS prog w h' a (fun k' => S k' || decide (k' = k)) es' t' L → es'.size = es.size + 1 → Q true { s with heap := h' } := fun h' es' t' b y hz => by
      have := hQ h' es' t' b y (by rw [hS]; exact hz)
      rw [hS] at this
      exact this
    have hp := layNew_perm t es ((PySem.intKind prog w).hash k) (.int k tk)
    have hf := layNew_fits t es ((PySem.intKind prog w).hash k) (.int k tk)
    have hT := layNew_tab (es := es) (h := (PySem.intKind prog w).hash k) (x := .int k tk) x.tab
    rw [Array.toList_push] at hp
    generalize layNew t es ((PySem.intKind prog w).hash k) (.int k tk) = y at hp hf hT
    obtain ⟨e1, t1, wd, gv⟩ := y
    dsimp only at hp hf hT
    have hz : e1.size = es.size + 1 := by rw [size_perm (ys := es) hp, List.length_append, Array.length_toList]; rfl
    have E1 := x.toEls.more hp hr
    have rest : ∀ t2 : SetTable, t2.fits e1.size = true → TabOk t2 L → wpAny (model prog w) A (do
        storeSet a e1 t2
        if (!wd && t2.tooFull) = true then do
            (match (relayAll t2 e1 (SetTable.grown e1.size)).2.2 with | true => rule "set.scan.the-table-gave-way" | false => pure ())
            storeSet a (relayAll t2 e1 (SetTable.grown e1.size)).1 (relayAll t2 e1 (SetTable.grown e1.size)).2.1
            pure (some true)
          else pure (some true)) (fun r s' => wpAny (model prog w) A (match r with | some added => pure added | none => setAddHashedIn a (.int k tk) ((PySem.intKind prog w).hash k) 99999) Q E s') E s := fun t2 f2 T2 => by
      refine wpAny_bind (put_has x E1 f2 T2 fun h1 b1 y1 => ?_)
      split
      · have p2 := relayAll_perm t2 e1 (SetTable.grown e1.size)
        refine wpAny_bind (quiet _ (wpAny_bind (put_has (s := { s with heap := h1 }) y1 (E1.perm p2) (relayAll_fits ..) (relay_tab T2) fun h2 b2 y2 => wpAny_pure (wpAny_pure ?_))))
        exact fin h2 _ _ (b1.trans b2) y2 (by rw [size_perm (ys := es) p2, Array.length_toList]; exact hz)
      · exact wpAny_pure (wpAny_pure (fin h1 _ _ b1 y1 hz))
    refine wpAny_bind (quiet gv ?_)
    dsimp only
    split
    · refine wpAny_bind ?_
      rw [hashByValue_scannable 8 (show (Value.int k tk).scannable = true from rfl)]
      refine wpAny_pure ?_
      refine rest _ ?_ ?_
      · split
        · exact hf
        · exact SetTable.fits_plain_off hf
      · split
        · exact hT
        · exact ⟨hT.rise, hT.dum, hT.led⟩
    · refine wpAny_bind (wpAny_pure ?_)
      rw [if_pos rfl]
      exact rest t1 hf hT
end
end PP

end

section
set_option Elab.async false
set_option linter.all false
set_option maxRecDepth 100000
set_option maxHeartbeats 3200000
namespace PP
open PySem PySem.Spec PyProof.Rows
def FullTo (prog : Program) (w : World) (h : Heap) (S : Addr) (ns : List Int) (i : Nat) (L : Bool) : Prop :=
  ∃ es t, HasS prog w h S (fun k => (firstMet (fun j => ns.getD j 0) i).any (· == k)) es t L ∧ es.size = (firstMet (fun j => ns.getD j 0) i).length
section
variable {prog : Program} {w : World} {A : Around} {R : Result → Shared → Prop} {L : Bool} {ns : List Int} {S I l : Addr} {items : Array Value}
theorem FullTo.at {h h' : Heap} {i : Nat} (x : FullTo prog w h S ns i L) (e : ∀ o, h.get? S = some o → h'.get? S = some o) : FullTo prog w h' S ns i L := let ⟨es, t, y, z⟩ := x; ⟨es, t, y.at e, z⟩
theorem fill_loop (hh : A.handled = none) (hlI : l ≠ I) (hSI : S ≠ I) (hSl : S ≠ l) (hits : ∀ (i : Nat) (v : Value), items[i]? = some v → ∃ t, v = .int (ns.getD i 0) t) (hb : items.size + 1 < scanBound) :
    ∀ (left i : Nat) (s : Shared), left + i = items.size → s.heap.IsListIter I l i ∧ s.heap.IsList l items → FullTo prog w s.heap S ns i L →
    (∀ h' tk, (∀ b o, b ≠ I → b ≠ S → s.heap.get? b = some o → h'.get? b = some o) → FullTo prog w h' S ns items.size L → R (.ok (.ret .none)) { s with heap := h', toks := tk }) →
    codeAny (model prog w) A (.builtin "set.update.loop" ⟨[.ref S, .ref I], []⟩) R s
  | left, i, s, hi, hst, hS, hR => by
    have W := Walks.list (prog := prog) (w := w) (A := A.in1) hh I l hlI items
    refine codeAny_builtin PyProof.Rows.F.entry_set_update_loop ?_
    rw [Around.under_plainId PyProof.Rows.F.plain_set_update_loop _]
    show wpAny _ A.in1 (pyNext (.ref I) >>= _) _ _ s
    match left, hi with
    | 0, hi =>
      have hin : i = items.size := by omega
      subst hin
      exact wpAny_bind (W.done s _ _ hst fun h' tk kp => wpAny_pure (hR h' tk (fun b o h1 _ e => kp b o (by simpa using h1) e) (hS.at fun o e => kp S o (by simpa using hSI) e)))
    | left + 1, hi =>
      refine wpAny_bind (W.item i s _ _ (by omega) hst fun v h' tk hv hst' kp => ?_)
      obtain ⟨tv, rfl⟩ := hits i v hv
      obtain ⟨es, t, y, z⟩ := hS.at (h' := h') fun o e => kp S o (by simpa using hSI) e
      have hle := firstMet_length_le (fun j => ns.getD j 0) i
      show wpAny _ A.in1 (holding [Value.int (ns.getD i 0) tv] (setAdd S (.int (ns.getD i 0) tv)) >>= _) _ _ _
      refine wpAny_bind (wpAny_holding (wpAny_holding (wpAny_bind ((PySem.intKind prog w).pyHash (PySem.intKind_is prog w _ tv) ?_))))
      refine add_has (s := { s with heap := h', toks := tk + 1 }) y (by omega) fun h2 es2 t2 b2 y2 z2 => ?_
      have later : FullTo prog w h2 S ns (i + 1) L := by
        refine ⟨es2, t2, ?_, ?_⟩
        · have e : (fun k => (firstMet (fun j => ns.getD j 0) (i + 1)).any (· == k)) = fun k' => (firstMet (fun j => ns.getD j 0) i).any (· == k') || decide (k' = ns.getD i 0) := funext fun k => by rw [firstMet_succ, step_any]
          rw [e]
          exact y2
        · rw [z2, firstMet_succ, step_length, z]
      have st2 : h2.IsListIter I l (i + 1) ∧ h2.IsList l items := W.frame _ _ _ hst' fun b hbf o e => (b2.2 b fun q => by
        rcases List.mem_cons.mp hbf with q2 | q2
        · exact hSI (q.symm.trans q2)
        · exact hSl (q.symm.trans (List.mem_singleton.mp q2))).trans e
      refine wpAny_pure ⟨plainId_quiet PyProof.Rows.F.plain_set_update_loop _, fill_loop hh hlI hSI hSl hits hb left (i + 1) _ (by omega) st2 later fun h3 tk3 k3 f3 => ?_⟩
      exact hR h3 tk3 (fun b o h1 h2' e => k3 b o h1 h2' ((b2.2 b h2').trans (kp b o (by simpa using h1) e))) f3
end
section
variable {prog : Program} {w : World} {A : Around} {E : Value → Shared → Prop} {s : Shared}
abbrev freshSet (w : World) : Obj := { cls := .type "set", dict := none, data := .set #[] 0 (.fresh 0 0 (!w.params.followText "set-order")) }
theorem set_made (x : Value) {Q : Value → Shared → Prop} (h : Q (.ref s.heap.objs.size) { s with heap := s.heap.push (freshSet w) }) :
    codeAny (model prog w) A (.call (.builtin "set.__new__") ⟨[.type "set", x], []⟩) (wants Q E) s := by
  refine codeAny_call_builtin F.plain_set_new F.entry_set_new (wpAny_of_eq (F.newCall_set_1 x) ?_)
  have hsub := sub_set_self
  unfold Builtin.«set.__new__» Builtin.Frozenset.newClass
  cases s
  wp_walk
  exact wpAny_askSetting (wpAny_pure (wpAny_bind (wpAny_alloc (wpAny_pure (wpAny_pure h)))))
theorem set_filled {l : Addr} {items : Array Value} {ns : List Int} {H : Heap} {P : Shared → Prop} (hh : A.handled = none) (hH : H = s.heap.push (freshSet w)) (hl : s.heap.IsList l items) (hi : IntsAre items.toList ns) (hb : items.size + 1 < scanBound)
    (h : ∀ h' tk, FullTo prog w h' s.heap.objs.size ns items.size (!w.params.followText "set-order") → (∀ b o, s.heap.get? b = some o → h'.get? b = some o) → P { s with heap := h', toks := tk }) :
    codeAny (model prog w) A (.call (.builtin "set.__init__") ⟨[.ref s.heap.objs.size, .ref l], []⟩) (wants (fun r s' => r = .none ∧ P s') E) { s with heap := H } := by
  obtain ⟨⟨cls, dd, dat, sl⟩, hol, hcl, nl, hdl⟩ := id hl
  have hcl : cls = .type "list" := hcl
  have hdl : dat = .seq items nl := hdl
  subst hcl hdl hH
  have hS : (s.heap.push (freshSet w)).get? s.heap.objs.size = some (freshSet w) := Heap.get?_push_size _ rfl
  have hlt : l < s.heap.objs.size := Heap.lt_size hol
  have hol' := Heap.get?_push_of_some (freshSet w) hol
  have hl' : (s.heap.push (freshSet w)).IsList l items := hl.push _
  have n1 := F.sub_list_set
  have n2 := F.sub_list_frozenset
  have n3 : (Value.type "list" == Value.type "dict") = false := by decide
  have sz : (s.heap.push (freshSet w)).objs.size = s.heap.objs.size + 1 := Heap.size_push ..
  refine codeAny_call_builtin F.called_set.init.plain F.entry_set_init (check_set_init_1 ⟨_, hS, rfl⟩ ?_)
  unfold Builtin.«set.__init__» noKeywords Builtin.Frozenset.updateFrom
  generalize hPI : pyIter = PI
  wp_walk
  subst hPI
  refine wpAny_pyIter_list hl' (wpAny_bind (wpAny_runValue ?_))
  have full : FullTo prog w ((s.heap.push (freshSet w)).push { cls := .type "list_iterator", data := .fields #[.ref l, .int 0 0] }) s.heap.objs.size ns 0 (!w.params.followText "set-order") :=
    ⟨#[], _, ⟨⟨fun e he => by simp at he, fun k => by simp [firstMet_zero], by decide⟩, ⟨_, _, Heap.get?_push_of_some _ hS, ⟨rfl, rfl, rfl⟩, rfl⟩, rfl, ⟨.nil, rfl, rfl⟩⟩, rfl⟩
  refine fill_loop (ns := ns) (by simp [hh]) (by rw [sz]; exact Nat.ne_of_lt (Nat.lt_succ_of_lt hlt)) (by rw [sz]; exact Nat.ne_of_lt (Nat.lt_succ_self _)) (Nat.ne_of_gt hlt) (fun i v hv => hi.int_at i v (by rw [Array.getElem?_toList]; exact hv)) hb items.size 0 _ rfl ⟨⟨_, Heap.get?_push_size _ rfl, rfl, rfl⟩, hl'.push _⟩ full fun h' tk kp f => ?_
  refine wpAny_pure (wpAny_pure ⟨rfl, h h' tk f fun b o e => ?_⟩)
  have hbl := Heap.lt_size e
  refine kp b o ?_ (Nat.ne_of_lt hbl) (Heap.get?_push_of_some _ (Heap.get?_push_of_some _ e))
  show b ≠ (s.heap.push (freshSet w)).objs.size
  rw [sz]
  exact Nat.ne_of_lt (Nat.lt_succ_of_lt hbl)
theorem set_of_list {l : Addr} {items : Array Value} {ns : List Int} {Q : Value → Shared → Prop} (hh : A.handled = none) (hl : s.heap.IsList l items) (hi : IntsAre items.toList ns) (hb : items.size + 1 < scanBound)
    (h : ∀ h' tk, FullTo prog w h' s.heap.objs.size ns items.size (!w.params.followText "set-order") → (∀ b o, s.heap.get? b = some o → h'.get? b = some o) → Q (.ref s.heap.objs.size) { s with heap := h', toks := tk }) :
    wpAny (model prog w) A (call (.type "set") [.ref l]) Q E s := by
  obtain ⟨cc, tl, f1⟩ := F.called_set.mro
  have f2 := F.called_set.made
  have f3 := F.called_set.sub
  have f4 := F.called_set.notType
  have f5 := F.called_set.canCreate
  have f6 := F.typeCall_set_1 (.ref l)
  refine wpAny_call (codeAny_of_tree ?_)
  show wpAny _ _ (callAny (.type "set") _) _ _ _
  refine wpAny_pure ⟨Code.quiet_builtin _ (by decide +kernel), codeAny_builtin F.entry_type_call ?_⟩
  rw [Around.under_plain (weight_type_call_type "set" [.ref l] []) rfl]
  repeat (any_goals (first | assumption | wp_step))
  refine codeAny_mono (set_made (.ref l) (E := E) (Q := fun ob s₁ => ob = .ref s.heap.objs.size ∧ s₁ = { s with heap := s.heap.push (freshSet w) }) ⟨rfl, rfl⟩) fun r s₁ hr => ?_
  cases r with
  | error e => exact hr
  | ok fl =>
    cases fl with
    | ret ob =>
      obtain ⟨rfl, rfl⟩ := hr
      have g1 : Shared.TypeIs { s with heap := s.heap.push (freshSet w) } (.ref s.heap.objs.size) "set" := ⟨_, Heap.get?_push_size _ rfl, rfl⟩
      have g2 := F.called_set.init.lookup
      have g3 := F.called_set.init.bind (.ref s.heap.objs.size)
      repeat (any_goals (first | assumption | wp_step))
      refine codeAny_mono (set_filled (E := E) (s := s) (P := fun s' => Q (.ref s.heap.objs.size) s') (by simp [hh]) rfl hl hi hb fun h' tk f kp => h h' tk f kp) fun r' s' hr' => ?_
      cases r' with
      | error e => exact hr'
      | ok fl' =>
        cases fl' with
        | ret r0 =>
          obtain ⟨rfl, hq⟩ := hr'
          repeat (any_goals (first | assumption | wp_step))
        | _ => exact hr'.elim
    | _ => exact hr.elim
end
end PP

end

section
set_option Elab.async false
set_option linter.all false
set_option maxRecDepth 100000
set_option maxHeartbeats 1000000
namespace PP
open PySem PySem.Spec PyProof.Rows L2
section
variable {prog : Program} {w : World} {A : Around} {E : Value → Shared → Prop} {s : Shared} {a : Addr} {ep : Nat} {es : Array (Int × Value)} {t : SetTable}
structure Stays (s s' : Shared) : Prop where
  keep : ∀ b o, s.heap.get? b = some o → s'.heap.get? b = some o
  gens : s'.gens = s.gens
  os : s'.os = s.os
  size : s.heap.objs.size ≤ s'.heap.objs.size
theorem collect_set {Q : List Value → Shared → Prop} (hh : A.handled = none) (hS : SetSt s.heap a es ep t) (hT : TabOk t (!w.params.followText "set-order")) (hsz : es.size ≤ 4096)
    (hQ : ∀ (s' : Shared) (ord : List Value), Stays s s' → ord.Perm (es.toList.map (·.2)) → Q ord s') : wpAny (model prog w) A (collect (.ref a)) Q E s := by
  have big : (4096 : Nat) ≤ sizeLine := by decide
  obtain ⟨⟨o, ho, hx, hd⟩, hf⟩ := id hS
  have halt : a < s.heap.objs.size := Heap.lt_size ho
  have aS : s.heap.objs.size ≠ a := Nat.ne_of_gt halt
  unfold collect
  refine wpAny_bind (wpAny_runValue (codeAny_builtin F.entry_proto_collect ?_))
  rw [Around.under_plainId F.plain_proto_collect _]
  show wpAny _ A.in1 (newList [] >>= fun l => again (.builtin "list.__iadd__" ⟨[l, .ref a], []⟩)) _ _ s
  refine wpAny_bind (wpAny_newObj_type ?_)
  refine wpAny_pure ⟨plainId_quiet F.plain_list_iadd _, codeAny_builtin F.entry_list_iadd ?_⟩
  rw [Around.under_plainId F.plain_list_iadd _]
  have hS0 : (s.heap.push { cls := .type "list", data := .seq ([] : List Value).toArray }).get? s.heap.objs.size = some { cls := .type "list", data := .seq ([] : List Value).toArray } := Heap.get?_push_size _ rfl
  have kp0 : ∀ b o, s.heap.get? b = some o → (s.heap.push { cls := .type "list", data := .seq ([] : List Value).toArray }).get? b = some o := fun b o e => Heap.get?_push_of_some _ e
  have sz0 : (s.heap.push { cls := .type "list", data := .seq ([] : List Value).toArray }).objs.size = s.heap.objs.size + 1 := Heap.size_push ..
  generalize s.heap.push { cls := .type "list", data := .seq ([] : List Value).toArray } = H0 at hS0 kp0 sz0
  have hT0 : Shared.TypeIs { s with heap := H0 } (.ref a) "set" := ⟨o, kp0 _ _ ho, hx.1⟩
  show wpAny _ A.in1 (Builtin.List.listExtendWith (.ref s.heap.objs.size) (.ref a) (.ref s.heap.objs.size)) _ _ { s with heap := H0 }
  unfold Builtin.List.listExtendWith
  refine wpAny_bind (wpAny_typeOf hT0 ?_)
  have h1 : Builtin.List.listSameRef (.ref s.heap.objs.size) (.ref a) = false := by simp [Builtin.List.listSameRef, aS]
  have h2 : (Value.type "set" == Value.type "list") = false := by decide
  have h3 : (Value.type "set" == Value.type "tuple") = false := by decide
  simp only [h1, h2, h3, Bool.or_false, Bool.false_eq_true, if_false]
  refine wpAny_bind (iter_set (s := { s with heap := H0 }) (hS.at fun o e => kp0 _ _ e) hT hsz fun it s1 fp ord St g => ?_)
  have hS1 := g.keep _ _ hS0
  have hT1 : s1.TypeIs (.ref a) "set" := ⟨o, g.keep _ _ (kp0 _ _ ho), hx.1⟩
  have hn : ord.length ≤ sizeLine := by
    rw [g.perm.length_eq, List.length_map, Array.length_toList]
    omega
  have hSf : s.heap.objs.size ∉ fp := fun hm => by
    rcases (g.fp _ hm).2 with z | z
    · exact aS z
    · have z : H0.objs.size ≤ s.heap.objs.size := z
      rw [sz0] at z
      omega
  refine wpAny_bind (wpAny_holding ?_)
  unfold Builtin.List.listLengthHint
  refine wpAny_bind (wpAny_specialOf (T := "set") hT1 F.slot_set_len.lookup ?_)
  generalize hid : ("set.__len__" : String) = id0
  wp_delta
  rw [show splitId id0 = some ("set", "__len__") from by subst hid; decide +kernel]
  subst hid
  refine wpAny_bind (wpAny_isInstance (T := "set") (b := true) hT1 (by rw [isSubtype_type]; kernel_rfl) ?_)
  refine wpAny_ite_split (fun z => absurd z (by decide)) fun _ => ?_
  refine wpAny_ite_split (fun _ => ?_) fun z => absurd (by decide +kernel) z
  refine wpAny_bind (wpAny_typeOf (T := "set") hT1 ?_)
  refine wpAny_pure ?_
  refine wpAny_ite_split (fun _ => ?_) fun z => absurd (by decide +kernel) z
  refine wpAny_bind (wpAny_rule ?_)
  refine wpAny_bind ?_
  show wpAny _ _ (updateSeq s.heap.objs.size (·.push .none) >>= fun _ => updateSeq s.heap.objs.size (·.pop)) _ _ _
  refine wpAny_bind (wpAny_updateSeq hS1 rfl ?_)
  have hS2 := Heap.get?_update_self (Obj.mapSeq (·.push Value.none)) hS1 rfl
  refine wpAny_updateSeq hS2 rfl ?_
  have hS3 := Heap.get?_update_self (Obj.mapSeq (·.pop)) hS2 rfl
  have oth : ∀ b ob, b ≠ s.heap.objs.size → s1.heap.get? b = some ob → ((s1.heap.update s.heap.objs.size (Obj.mapSeq (·.push Value.none))).update s.heap.objs.size (Obj.mapSeq (·.pop))).get? b = some ob :=
    fun b ob hb z => (Heap.get?_update_other _ _ (Ne.symm hb)).trans ((Heap.get?_update_other _ _ (Ne.symm hb)).trans z)
  have W := (g.W A.in1.in1 hh)
  have WS := W.toS
  refine wpAny_pure ⟨plainId_quiet F.plain_extend_loop _, codeAny_extend_loopS (A := A) (g.W A.in1 hh).toS hn _ hSf _ ord.length 0 _ _ _ rfl (Nat.zero_le _) (W.frame 0 _ _ g.st fun b hb o e => oth b o (fun z => hSf (z ▸ hb)) e) hS3 (ItemsOf.nil _) fun s' acc' c' hm hS' hacc => ?_⟩
  show wpAny _ A (load s.heap.objs.size >>= _) _ _ s'
  refine wpAny_bind (wpAny_load hS' ?_)
  have hacc' : acc'.toList = ord := by
    apply List.ext_getElem?
    intro j
    rw [Array.getElem?_toList]
    by_cases hj : j < acc'.size
    · have := hacc.2 j acc'[j] (Array.getElem?_eq_getElem hj)
      rw [Array.getElem?_eq_getElem hj, this]
    · rw [Array.getElem?_eq_none (by omega), List.getElem?_eq_none (by rw [hacc.1] at hj; omega)]
  show wpAny _ A (pure acc'.toList) _ _ s'
  rw [hacc']
  refine wpAny_pure (hQ s' ord ⟨fun b ob e => hm.heap b ob (fun hmem => ?_) (oth b ob (Nat.ne_of_lt (Heap.lt_size e)) (g.keep _ _ (kp0 _ _ e))), ?_, hm.os.trans g.os, Nat.le_of_lt (Heap.lt_size hS')⟩ g.perm)
  · have hlt := Heap.lt_size e
    rcases List.mem_cons.mp hmem with y | y
    · exact Nat.ne_of_lt hlt y
    · have z : H0.objs.size ≤ it := g.new
      rw [sz0] at z
      rw [List.mem_singleton.mp y] at hlt
      exact absurd hlt (Nat.not_lt.mpr (Nat.le_of_succ_le z))
  · exact (show s'.gens = s1.gens from hm.gens).trans g.gens
end
theorem perm_of_nd : ∀ {l m : List Int}, l.Nodup → (∀ x ∈ l, x ∈ m) → m.length ≤ l.length → l.Perm m
  | [], m, _, _, h => by
    have : m = [] := List.eq_nil_of_length_eq_zero (by simpa using h)
    rw [this]
  | x :: l, m, nd, hs, h => by
    obtain ⟨n1, n2⟩ := List.nodup_cons.mp nd
    have hx : x ∈ m := hs x (by simp)
    have hl : (m.erase x).length ≤ l.length := by
      rw [List.length_erase_of_mem hx]
      simp at h
      omega
    have := perm_of_nd n2 (fun y hy => (List.mem_erase_of_ne (fun (z : y = x) => n1 (by rw [← z]; exact hy))).mpr (hs y (by simp [hy]))) hl
    exact (this.cons x).trans (List.perm_cons_erase hx).symm
def kv : Value → Int
  | .int k _ => k
  | _ => 0
theorem kv_is {prog : Program} {w : World} {k : Int} {v : Value} (h : (PySem.intKind prog w).is k v = true) : ∃ t, v = .int k t := by
  cases v <;> simp [PySem.intKind, Value.isInt] at h
  exact ⟨_, by rw [h]⟩
theorem ints_kv : ∀ {vs : List Value}, (∀ v ∈ vs, ∃ k t, v = .int k t) → IntsAre vs (vs.map kv)
  | [], _ => .nil
  | v :: vs, h => by
    obtain ⟨k, t, rfl⟩ := h v (by simp)
    exact .cons k t (ints_kv fun u hu => h u (by simp [hu]))
section
variable {prog : Program} {w : World} {A : Around} {E : Value → Shared → Prop} {s : Shared} {a : Addr}
theorem sorted_set {ks : List Int} {Q : Value → Shared → Prop} (hh : A.handled = none) (nd : ks.Nodup) {es : Array (Int × Value)} {t : SetTable} (hS : HasS prog w s.heap a (fun k => ks.any (· == k)) es t (!w.params.followText "set-order")) (hn : es.size = ks.length)
    (hQ : ∀ (s' : Shared) (out : Array Value) (ns : List Int) (l : Addr) (c : Nat), Stays s s' → s.heap.objs.size ≤ l → IntsAre out.toList ns → ns.Perm ks → ns.Pairwise (· ≤ ·) → s'.heap.get? l = some { cls := .type "list", dict := none, data := .seq out c, slots := #[] } → Q (.ref l) s') :
    wpAny (model prog w) A (call (.builtin "sorted") [.ref a]) Q E s := by
  obtain ⟨⟨hel, hmem, hb⟩, ⟨o, ep, ho, hx, hd⟩, hf, hT⟩ := hS
  have hb' : es.size ≤ 4096 := Nat.le_of_lt hb
  have big : (4096 : Nat) ≤ sizeLine := by decide
  have hall : ∀ v ∈ es.toList.map (·.2), ∃ k t, v = .int k t := fun v hv => by
    obtain ⟨e, he, rfl⟩ := List.mem_map.mp hv
    obtain ⟨⟨k, hk, _⟩, _⟩ := hel e he
    obtain ⟨t, ht⟩ := kv_is hk
    exact ⟨k, t, ht⟩
  have hks : ks.Perm ((es.toList.map (·.2)).map kv) := perm_of_nd nd (fun k hk => by
    obtain ⟨e, he, hi⟩ := (hmem k).mp (List.any_eq_true.mpr ⟨k, hk, beq_self_eq_true k⟩)
    obtain ⟨t, ht⟩ := kv_is hi
    refine List.mem_map.mpr ⟨e.2, List.mem_map_of_mem he, ?_⟩
    rw [ht]
    rfl) (by rw [List.length_map, List.length_map, Array.length_toList, hn]; exact Nat.le_refl _)
  refine Calls.call_function_entry kind_sorted plain_sorted entry_sorted (args_sorted1 _) ?_
  unfold Builtin.«sorted»
  refine wpAny_bind (m := checkCount "sorted" 1 1 _) (wpAny_pure ?_)
  refine wpAny_bind (collect_set (A := A.in1) hh ⟨⟨o, ho, hx, hd⟩, hf⟩ hT hb' fun s1 ord st hp => ?_)
  have hol : ord.length ≤ sizeLine := by
    rw [hp.length_eq, List.length_map, Array.length_toList]
    omega
  refine wpAny_bind (wpAny_newList ?_ hol)
  have hI : IntsAre ord (ord.map kv) := ints_kv fun v hv => hall v (hp.mem_iff.mp hv)
  have hoL : (s1.heap.push (seqObj "list" ord.toArray 0)).get? s1.heap.objs.size = some (seqObj "list" ord.toArray 0) := Heap.get?_push_size _ rfl
  have hsz : s.heap.objs.size ≤ s1.heap.objs.size := st.size
  refine wpAny_bind (wpAny_holding (wpAny_call_entry slot_list_sort ⟨_, hoL, rfl⟩ entry_list_sort (list_sort_treeAny hoL hI hol fun out ns h1 h2 h3 => ⟨_, rfl, ?_⟩) (args_list_sort _)))
  obtain ⟨c, hc⟩ := sortedHeap_at (vs := ord) (out := out) hoL
  refine wpAny_pure ⟨_, rfl, hQ _ out ns s1.heap.objs.size c ⟨fun b ob e => ?_, st.gens, st.os, Nat.le_trans hsz (Nat.le_of_lt (Heap.lt_size hc))⟩ hsz h1 (h2.trans ((hp.map kv).trans hks.symm)) h3 hc⟩
  have e1 := st.keep b ob e
  have hb1 := Heap.lt_size e1
  have e2 : (s1.heap.push (seqObj "list" ord.toArray 0)).get? b = some ob := Heap.get?_push_of_some _ e1
  show (sortedHeap _ _ _ _).get? b = _
  rw [sortedHeap_old (Nat.ne_of_lt hb1) (Heap.lt_size e2)]
  exact e2
end
end PP

end

section
set_option Elab.async false
set_option linter.all false
set_option maxRecDepth 100000
set_option maxHeartbeats 1000000
namespace PP
open PySem PySem.Spec PyProof.Rows L2
open DG
def tSS (K : PySem.W.Frag) (te : TE) : TE := fun σ H Q => te σ H fun x H1 => ∃ (a : Addr) (ns : List Int), x = .ref a ∧ SqL K H1 a (ns.map V.int) ∧ ns.length ≤ 64 ∧
  ∀ (ns' : List Int) (l : Addr), ns'.Perm (metInts ns) → ns'.Pairwise (· ≤ ·) → H1 l = none → Q (.ref l) (upd H1 l (.lst (ns'.map V.int)))
section
variable {X : Cx} {e : Expr} {te : TE} {p p2 pos pos2 : Pos} {ρ : Rho}
theorem Inv.same {pins : List (Addr × Obj)} {σ : L2.St} {H : Hp} {s s' : Shared} (I : Inv X pins σ H s) (h1 : s'.heap = s.heap) (h2 : s'.gens = s.gens) (h3 : s'.os = s.os) : Inv X pins σ H s' :=
  ⟨I.ok, h3.trans I.os, h2 ▸ I.bare, h1 ▸ I.base, h1 ▸ I.loc, h1 ▸ I.cell, I.free, I.freeC, h1 ▸ I.pin, h1 ▸ I.hok, I.len⟩
theorem pe_sortedSet (hc : X.calm = true) (hm : X.mg "sorted" = none) (hm2 : X.mg "set" = none) (he : PE X e te) (hg : Gl X "sorted" := by rfl) (hg2 : Gl X "set" := by rfl)
    (hs : starEach [Expr.Call (.Name "set" p2) [e] [] pos2] X.env = (false, eval (.Call (.Name "set" p2) [e] [] pos2) X.env) :: starEach [] X.env := by rfl) (hs1 : starEach [e] X.env = (false, eval e X.env) :: starEach [] X.env := by rfl) :
    PE X (.Call (.Name "sorted" p) [.Call (.Name "set" p2) [e] [] pos2] [] pos) (tSS X.K te) := by
  intro pins s σ H Q I h
  refine wpAny_Call_Name_kw (ld_blt I hg hm bt_sorted ?_)
  refine PyProof.Rows.callWith_builtin1 ?_ hs rfl
  rw [hs]
  show wpAny _ _ (spliced ((false, eval _ X.env) :: backTo pos (starEach [] X.env))) _ _ s
  refine Calls.spliced_cons ?_
  refine wpAny_Call_Name_kw (ld_blt I hg2 hm2 bt_set ?_)
  refine PyProof.Rows.callWith_type1 ?_ hs1 rfl
  rw [hs1]
  show wpAny _ _ (spliced ((false, eval e X.env) :: backTo pos2 (starEach [] X.env))) _ _ s
  refine Calls.spliced_cons (thn (he pins s σ H _ I h) fun u s1 ⟨v, H1, I1, rv, q1⟩ => ?_)
  obtain ⟨a, ns, rfl, hsq, hlen, q⟩ := q1
  cases rv
  refine Calls.spliced_nil ?_
  obtain ⟨its, rv, pl, _⟩ := I1.list hsq
  have hi : IntsAre its ns := Vals.ints rv
  have hlen' : its.length = ns.length := hi.length
  have hsz : its.toArray.size = ns.length := by rw [List.size_toArray]; exact hlen'
  refine set_of_list (I1.ok.hd hc) pl.isList (by simpa using hi) (by rw [hsz]; exact Nat.lt_of_le_of_lt (Nat.succ_le_succ hlen) (by decide)) fun h' tk hS kp' => ?_
  refine Calls.spliced_nil ?_
  rw [hsz] at hS
  obtain ⟨es, t, hS, hn⟩ := hS
  have I2 : Inv X pins σ H1 { s1 with heap := h', toks := tk } := I1.kept kp'
  refine sorted_set (s := { s1 with heap := h', toks := tk }) (I1.ok.hd hc) (met_nd _ _) hS hn fun s' out ns' l c st hl h1 h2 h3 h4 => ?_
  have hnl : (ns'.map V.int).length ≤ sizeLine := by
    have := firstMet_length_le (fun i => ns.getD i 0) ns.length
    rw [List.length_map, h2.length_eq]
    exact Nat.le_trans (Nat.le_trans this hlen) (by decide)
  have J : Inv X pins σ (upd H1 l (.lst (ns'.map V.int))) { ({ s1 with heap := h', toks := tk } : Shared) with heap := s'.heap, toks := s'.toks } := I2.laid st.keep hl ⟨hnl, out.toList, c, vals_of_ints h1, by simpa using h4⟩
  exact ⟨.ref l, _, Inv.same J rfl st.gens st.os, rfl, q ns' l h2 h3 (I2.hok.fresh hl)⟩
theorem pp_sortedSet {ns us : List Int} (hl : ns.length ≤ 64) (hu : ∀ ns' : List Int, ns'.Perm (metInts ns) → ns'.Pairwise (· ≤ ·) → ns' = us) (hc : X.calm = true) (hm : X.mg "sorted" = none) (hm2 : X.mg "set" = none) (he : PP X ρ e (.lst (ns.map Da.int))) (hg : Gl X "sorted" := by rfl) (hg2 : Gl X "set" := by rfl)
    (hs : starEach [Expr.Call (.Name "set" p2) [e] [] pos2] X.env = (false, eval (.Call (.Name "set" p2) [e] [] pos2) X.env) :: starEach [] X.env := by rfl) (hs1 : starEach [e] X.env = (false, eval e X.env) :: starEach [] X.env := by rfl) :
    PP X ρ (.Call (.Name "sorted" p) [.Call (.Name "set" p2) [e] [] pos2] [] pos) (.lst (us.map Da.int)) :=
  (pe_sortedSet hc hm hm2 he hg hg2 hs hs1).imp fun σ H Q ⟨O, dom, env, k⟩ => ⟨O, dom, env, fun x H1 s1 rx => by
    obtain ⟨a, xs, rfl, ea, ra⟩ := rx.lst_inv
    rw [ra.ints] at ea
    refine ⟨a, ns, rfl, SqL.of (hide_sub _ _ ea), hl, fun ns' l h1 h2 h3 => ?_⟩
    rw [hu ns' h1 h2]
    exact k _ _ (s1.trans (same_upd h3)) (.lst (seen_new (dom.to s1) h3) (RpAll.of_ints us))⟩
end
theorem heads_out (l : List Pc) {ns' : List Int} (h1 : ns'.Perm (metInts ((leastT l).map natI))) (h2 : ns'.Pairwise (· ≤ ·)) : ns' = (headsI l).map natI := by
  have hp := h1.trans (met_heads l)
  have hs : ((headsI l).map natI).Pairwise (· ≤ ·) := List.Pairwise.map _ (fun a b (h : a < b) => by show (a : Int) ≤ b; omega) (headsI_sorted l)
  exact hp.eq_of_pairwise (fun a b _ _ h1 h2 => by omega) h2 hs
theorem pp_indexNat {X : Cx} {ρ : Rho} {e e2 : Expr} {k : Nat} {l : List Nat} {c : Nat} {apos cpos : Pos} (hr : Room k X.A) (hl : l.length ≤ 65536) (hc : c ∈ l) (ha : PP X ρ e (.lst (l.map natD))) (hb : PP X ρ e2 (natD c))
    (hbase : attributeBase e "index" X.env (eval e X.env) = eval e X.env := by rfl)
    (hfew : ((backTo cpos (starEach [e2] X.env)).all (fun x => !x.1) && (backToKw cpos (keywordEach [] X.env)).all (fun x => x.1.isSome)
      && decide ([e2].length + ([] : List Keyword).length + (if ([] : List Keyword).isEmpty then 0 else 1) < 30)) = true := by rfl)
    (hline : (apos.endLine == cpos.line) = true := by rfl) (hst : starEach [e2] X.env = (false, eval e2 X.env) :: starEach [] X.env := by rfl) (hplain : (backTo cpos (starEach [] X.env)).any (·.1) = false := by rfl) :
    PP X ρ (.Call (.Attribute e "index" apos) [e2] [] cpos) (.int (l.findIdx (fun z => decide (z = c)) : Nat)) := by
  have hx : l.findIdx (fun z => decide (z = c)) < l.length := List.findIdx_lt_length_of_exists ⟨c, hc, by simp⟩
  have e1 : toPys (l.map natD) = l.map fun (n : Nat) => PyData.int (n : Int) := by rw [natD_ints, toPys_ints, List.map_map]; rfl
  have eqv : ∀ a b : Nat, PyData.eqv (.int (a : Int)) (.int (b : Int)) = decide (a = b) := fun a b => by
    rw [Bool.eq_iff_iff]
    simp [PyData.eqv]
    omega
  refine pp_index (dj := .int ((l[l.findIdx (fun z => decide (z = c))] : Nat) : Int)) hr rfl (fit_nats l) (by rw [List.length_map]; exact hl) ?_ ?_ ?_ ha hb hbase hfew hline hst hplain
  · rw [e1, List.getElem?_map, List.getElem?_eq_getElem hx]
    rfl
  · show PyData.eqv _ (.int (c : Int)) = true
    rw [eqv]
    exact List.findIdx_getElem (w := hx)
  · intro m z hm hz
    rw [e1, List.getElem?_map] at hz
    obtain ⟨q, hq, rfl⟩ := Option.map_eq_some_iff.mp hz
    show PyData.eqv _ (.int (c : Int)) = false
    rw [eqv]
    obtain ⟨h1, h2⟩ := List.getElem?_eq_some_iff.mp hq
    have := List.not_of_lt_findIdx hm
    rw [h2] at this
    simpa using this
end PP

end

set_option Elab.async false
set_option linter.all false
set_option maxRecDepth 100000
set_option maxHeartbeats 4000000
namespace DX
open PySem PySem.Spec PyProof.Rows L2 PP DG
def top (i : Nat) : Stmt := PySem.Challenge.pw_drawnglass_s06_part.main.body.getD i (.Pass ⟨0, 0, 0, 0⟩)
abbrev s_fault_of : Stmt := top 19
abbrev s_strokes_of : Stmt := top 20
abbrev s_lines_of : Stmt := top 21
abbrev s_split_at : Stmt := top 22
abbrev s_is_sign_line : Stmt := top 23
abbrev s_points_of : Stmt := top 24
abbrev s_point_of : Stmt := top 25
abbrev s_spells : Stmt := top 26
abbrev s_is_name : Stmt := top 27
abbrev s_is_number : Stmt := top 28
abbrev s_is_letter : Stmt := top 29
abbrev s_is_digit : Stmt := top 30
abbrev s_coordinate_of : Stmt := top 31
abbrev s_stroke_fault : Stmt := top 32
abbrev s_first_true : Stmt := top 33
abbrev s_is_point : Stmt := top 34
abbrev s_stroke_pieces : Stmt := top 35
abbrev s_pieces_of : Stmt := top 36
abbrev s_meets_one_badly : Stmt := top 37
abbrev s_meets_badly : Stmt := top 38
abbrev s_divides : Stmt := top 39
abbrev s_ends_in_midst : Stmt := top 40
abbrev s_lies_on : Stmt := top 41
abbrev s_side : Stmt := top 42
abbrev s_is_between : Stmt := top 43
abbrev s_is_one_too_many : Stmt := top 44
abbrev s_degree : Stmt := top 45
abbrev s_ending_at : Stmt := top 46
abbrev s_least_mates : Stmt := top 47
abbrev s_shares_end : Stmt := top 48
abbrev s_judge : Stmt := top 54
abbrev s_part : Stmt := top 55
abbrev s_text_refusal : Stmt := top 56
structure Top (mg : Str → Option Value) : Prop where
  c_LINE_END : IntAt mg "LINE_END" (10)
  c_BLANK : IntAt mg "BLANK" (32)
  c_COMMA : IntAt mg "COMMA" (44)
  c_ZERO : IntAt mg "ZERO" (48)
  c_NINE : IntAt mg "NINE" (57)
  c_LONGEST_NAME : IntAt mg "LONGEST_NAME" (12)
  c_LEAST_POINTS : IntAt mg "LEAST_POINTS" (2)
  c_MOST_POINTS : IntAt mg "MOST_POINTS" (65)
  c_MOST_PIECES : IntAt mg "MOST_PIECES" (64)
  c_HIGHEST_DEGREE : IntAt mg "HIGHEST_DEGREE" (8)
  c_LARGEST_COORDINATE : IntAt mg "LARGEST_COORDINATE" (4095)
  c_MOST_DIGITS : IntAt mg "MOST_DIGITS" (4)
  c_WRONG_LINE : IntAt mg "WRONG_LINE" (1)
  c_COORDINATE_TOO_LARGE : IntAt mg "COORDINATE_TOO_LARGE" (2)
  c_POINT_REPEATED : IntAt mg "POINT_REPEATED" (3)
  c_TOO_MANY_PIECES : IntAt mg "TOO_MANY_PIECES" (4)
  c_MEETS_BADLY : IntAt mg "MEETS_BADLY" (5)
  c_NINTH_AT_POINT : IntAt mg "NINTH_AT_POINT" (6)
  c_LONGEST_TEXT : IntAt mg "LONGEST_TEXT" (65536)
  c_TOO_LONG : IntAt mg "TOO_LONG" (-2)
  c_NOT_THERE : IntAt mg "NOT_THERE" (-4)
  c_NO_DRAWING : IntAt mg "NO_DRAWING" (-6)
  b_len : mg "len" = none
  b_range : mg "range" = none
  b_all : mg "all" = none
  b_any : mg "any" = none
  b_ord : mg "ord" = none
  b_list : mg "list" = none
  b_zip : mg "zip" = none
  b_enumerate : mg "enumerate" = none
  b_min : mg "min" = none
  b_max : mg "max" = none
  b_set : mg "set" = none
  b_sorted : mg "sorted" = none
section
variable {P : Program} {wd : World} {K : PySem.W.Frag} {mg : Str → Option Value} {base : Heap}
theorem sc_is_point : FnScope ["pair"] ["pair"] (defScope s_is_point) := ⟨rfl, rfl, rfl, by decide +kernel, rfl, by decide +kernel, by decide +kernel⟩
theorem ok_is_point {f : Addr} {fd : FuncData} (F : Fun K "is_point" "is_point" s_is_point f fd) (T : Top mg) : FnOk P wd K mg base CX0 1 f fd ["pair"] (SpF K R_is_point) := by
  refine fn_pure (k := 0) F sc_is_point (by rintro _ _ ⟨c, rfl, _⟩; rfl) ?_
  rintro _ _ ⟨c, rfl, rfl⟩ cdv A outer s H E hr
  exact pps_one (pp1_ret (pp_le (pp_maxT rfl T.b_max bt_max (pp_var 0 rfl)) (pp_glob T.c_LARGEST_COORDINATE)))
theorem kn_is_point {f : Addr} {fd : FuncData} (F : Fun K "is_point" "is_point" s_is_point f fd) (hm : mg "is_point" = some (.ref f)) (T : Top mg) : Known P wd K mg base "is_point" 1 (SpF K R_is_point) :=
  known_of F hm (F.binds (ps := ["pair"]) fun _ _ _ _ _ _ us hl => match us, hl with | [_], _ => rfl) (ok_is_point F T)
theorem sc_side : FnScope ["piece", "point", "first", "second", "along", "across"] ["piece", "point"] (defScope s_side) := ⟨rfl, rfl, rfl, by decide +kernel, rfl, by decide +kernel, by decide +kernel⟩
theorem ok_side {f : Addr} {fd : FuncData} (F : Fun K "side" "side" s_side f fd) (T : Top mg) : FnOk P wd K mg base CX0 1 f fd ["piece", "point"] (SpF K R_side) := by
  refine fn_pure (k := 0) F sc_side (by rintro _ _ ⟨p, c, _, _, rfl, _⟩; rfl) ?_
  rintro _ _ ⟨p, c, hp, hc, rfl, rfl⟩ cdv A outer s H E hr
  obtain ⟨⟨a1, a2, a3, a4⟩, b1, b2, b3, b4⟩ := hp
  obtain ⟨c1, c2, c3, c4⟩ := hc
  refine pps_next (pp1_set 2 sc_side.nd (pp_t0 (pp_var 0 rfl))) ?_
  refine pps_next (pp1_set 3 sc_side.nd (pp_t1 (pp_var 0 rfl))) ?_
  refine pps_next (pp1_set 4 sc_side.nd (pp_mul (i := p.2.1 - p.1.1) (j := c.2 - p.1.2) (by omega) (pp_sub (pp_t0 (pp_var 3 rfl)) (pp_t0 (pp_var 2 rfl))) (pp_sub (pp_t1 (pp_var 1 rfl)) (pp_t1 (pp_var 2 rfl))))) ?_
  refine pps_next (pp1_set 5 sc_side.nd (pp_mul (i := p.2.2 - p.1.2) (j := c.1 - p.1.1) (by omega) (pp_sub (pp_t1 (pp_var 3 rfl)) (pp_t1 (pp_var 2 rfl))) (pp_sub (pp_t0 (pp_var 1 rfl)) (pp_t0 (pp_var 2 rfl))))) ?_
  exact pps_one (pp1_ret (pp_sub (pp_var 4 rfl) (pp_var 5 rfl)))
theorem kn_side {f : Addr} {fd : FuncData} (F : Fun K "side" "side" s_side f fd) (hm : mg "side" = some (.ref f)) (T : Top mg) : Known P wd K mg base "side" 1 (SpF K R_side) :=
  known_of F hm (F.binds (ps := ["piece", "point"]) fun _ _ _ _ _ _ us hl => match us, hl with | [_, _], _ => rfl) (ok_side F T)
theorem sc_is_between : FnScope ["value", "one", "other"] ["value", "one", "other"] (defScope s_is_between) := ⟨rfl, rfl, rfl, by decide +kernel, rfl, by decide +kernel, by decide +kernel⟩
theorem ok_is_between {f : Addr} {fd : FuncData} (F : Fun K "is_between" "is_between" s_is_between f fd) (T : Top mg) : FnOk P wd K mg base CX0 1 f fd ["value", "one", "other"] (SpF K R_is_between) := by
  refine fn_pure (k := 0) F sc_is_between (by rintro _ _ ⟨v, a, b, rfl, _⟩; rfl) ?_
  rintro _ _ ⟨v, a, b, rfl, rfl⟩ cdv A outer s H E hr
  refine pps_one (pp1_ret (pp_eq (pp_lele (pp_min2 rfl T.b_min bt_min (pp_var 1 rfl) (pp_var 2 rfl)) (pp_var 0 rfl) (pp_max2 rfl T.b_max bt_max (pp_var 1 rfl) (pp_var 2 rfl))) ?_))
  unfold betweenI
  rw [show (if b < a then b else a) = min a b by omega, show (if b > a then b else a) = max a b by omega]
theorem kn_is_between {f : Addr} {fd : FuncData} (F : Fun K "is_between" "is_between" s_is_between f fd) (hm : mg "is_between" = some (.ref f)) (T : Top mg) : Known P wd K mg base "is_between" 1 (SpF K R_is_between) :=
  known_of F hm (F.binds (ps := ["value", "one", "other"]) fun _ _ _ _ _ _ us hl => match us, hl with | [_, _, _], _ => rfl) (ok_is_between F T)
theorem sc_lies_on : FnScope ["point", "piece", "first", "second"] ["point", "piece"] (defScope s_lies_on) := ⟨rfl, rfl, rfl, by decide +kernel, rfl, by decide +kernel, by decide +kernel⟩
theorem ok_lies_on {f : Addr} {fd : FuncData} (F : Fun K "lies_on" "lies_on" s_lies_on f fd) (T : Top mg) (K_side : Known P wd K mg base "side" 1 (SpF K R_side)) (K_is_between : Known P wd K mg base "is_between" 1 (SpF K R_is_between)) : FnOk P wd K mg base CX0 2 f fd ["point", "piece"] (SpF K R_lies_on) := by
  refine fn_pure (k := 1) F sc_lies_on (by rintro _ _ ⟨c, p, _, _, rfl, _⟩; rfl) ?_
  rintro _ _ ⟨c, p, hp, hc, rfl, rfl⟩ cdv A outer s H E hr
  refine pps_next (pp1_set 2 sc_lies_on.nd (pp_t0 (pp_var 1 rfl))) ?_
  refine pps_next (pp1_set 3 sc_lies_on.nd (pp_t1 (pp_var 1 rfl))) ?_
  refine pps_ifRet (ppt_neI (pp_call K_side (hr.mono (by decide)) (ppa_cons (pp_var 1 rfl) (ppa_cons (pp_var 0 rfl) ppa_nil)) ⟨p, c, hp, hc, rfl, rfl⟩) pp_int) (fun h => ?_) (fun h => ?_)
  · have e : liesOnI c p = false := by
      unfold liesOnI
      rw [if_pos (by simpa using h)]
    rw [e]
    exact pps_one (pp1_ret pp_bl)
  · have e : liesOnI c p = (betweenI c.1 p.1.1 p.2.1 && betweenI c.2 p.1.2 p.2.2) := by
      unfold liesOnI
      rw [if_neg (by simpa using h)]
    rw [e]
    exact pps_one (pp1_ret (pp_and (pp_call K_is_between (hr.mono (by decide)) (ppa_cons (pp_t0 (pp_var 0 rfl)) (ppa_cons (pp_t0 (pp_var 2 rfl)) (ppa_cons (pp_t0 (pp_var 3 rfl)) ppa_nil))) ⟨_, _, _, rfl, rfl⟩) fun _ =>
      pp_one (pp_call K_is_between (hr.mono (by decide)) (ppa_cons (pp_t1 (pp_var 0 rfl)) (ppa_cons (pp_t1 (pp_var 2 rfl)) (ppa_cons (pp_t1 (pp_var 3 rfl)) ppa_nil))) ⟨_, _, _, rfl, rfl⟩)))
theorem kn_lies_on {f : Addr} {fd : FuncData} (F : Fun K "lies_on" "lies_on" s_lies_on f fd) (hm : mg "lies_on" = some (.ref f)) (T : Top mg) (K_side : Known P wd K mg base "side" 1 (SpF K R_side)) (K_is_between : Known P wd K mg base "is_between" 1 (SpF K R_is_between)) : Known P wd K mg base "lies_on" 2 (SpF K R_lies_on) :=
  known_of F hm (F.binds (ps := ["point", "piece"]) fun _ _ _ _ _ _ us hl => match us, hl with | [_, _], _ => rfl) (ok_lies_on F T K_side K_is_between)
theorem sc_ends_in_midst : FnScope ["one", "other", "end"] ["one", "other"] (defScope s_ends_in_midst) := ⟨rfl, rfl, rfl, by decide +kernel, rfl, by decide +kernel, by decide +kernel⟩
theorem ok_ends_in_midst {f : Addr} {fd : FuncData} (F : Fun K "ends_in_midst" "ends_in_midst" s_ends_in_midst f fd) (T : Top mg) (K_lies_on : Known P wd K mg base "lies_on" 2 (SpF K R_lies_on)) : FnOk P wd K mg base CX0 3 f fd ["one", "other"] (SpF K R_ends_in_midst) := by
  refine fn_pure (k := 2) F sc_ends_in_midst (by rintro _ _ ⟨p, q, _, _, rfl, _⟩; rfl) ?_
  rintro _ _ ⟨p, q, hp, hq, rfl, rfl⟩ cdv A outer s H E hr
  refine pps_one (pp1_ret (pp_eq (pp_any (bs := [p.1, p.2].map fun c => !endOfI c q && liesOnI c q) rfl T.b_any bt_any (pp_eq (pp_lc (lc_name (l := [p.1, p.2]) (enc := ptD) (f := fun c => .bl (!endOfI c q && liesOnI c q)) 2 rfl sc_ends_in_midst.nd (blkOk_by (by rfl)) (by simp only [List.length_cons, List.length_nil]; decide) (ppi_tup (pp_var 0 rfl)) ?_)) ?_)) ?_))
  · intro c hc s H C cl fp
    have hs : Sm c := by
      rcases List.mem_cons.mp hc with h | h
      · exact h ▸ hp.1
      · exact (List.mem_singleton.mp h) ▸ hp.2
    exact pp_and (pp_notInPc hr (pp_var 2 rfl) (pp_var 1 rfl)) fun _ => pp_one (pp_call K_lies_on (hr.mono (by decide)) (ppa_cons (pp_var 2 rfl) (ppa_cons (pp_var 1 rfl) ppa_nil)) ⟨c, q, hq, hs, rfl, rfl⟩)
  · rw [filter_yes, List.map_map]
    rfl
  · unfold midstI
    simp
theorem kn_ends_in_midst {f : Addr} {fd : FuncData} (F : Fun K "ends_in_midst" "ends_in_midst" s_ends_in_midst f fd) (hm : mg "ends_in_midst" = some (.ref f)) (T : Top mg) (K_lies_on : Known P wd K mg base "lies_on" 2 (SpF K R_lies_on)) : Known P wd K mg base "ends_in_midst" 3 (SpF K R_ends_in_midst) :=
  known_of F hm (F.binds (ps := ["one", "other"]) fun _ _ _ _ _ _ us hl => match us, hl with | [_, _], _ => rfl) (ok_ends_in_midst F T K_lies_on)
theorem sc_divides : FnScope ["one", "other"] ["one", "other"] (defScope s_divides) := ⟨rfl, rfl, rfl, by decide +kernel, rfl, by decide +kernel, by decide +kernel⟩
theorem ok_divides {f : Addr} {fd : FuncData} (F : Fun K "divides" "divides" s_divides f fd) (T : Top mg) (K_side : Known P wd K mg base "side" 1 (SpF K R_side)) : FnOk P wd K mg base CX0 2 f fd ["one", "other"] (SpF K R_divides) := by
  refine fn_pure (k := 1) F sc_divides (by rintro _ _ ⟨p, q, _, _, rfl, _⟩; rfl) ?_
  rintro _ _ ⟨p, q, hp, hq, rfl, rfl⟩ cdv A outer s H E hr
  exact pps_one (pp1_ret (pp_lt (pp_mul (i := sideI p q.1) (j := sideI p q.2) (side_bound hp hq.1) (pp_call K_side (hr.mono (by decide)) (ppa_cons (pp_var 0 rfl) (ppa_cons (pp_t0 (pp_var 1 rfl)) ppa_nil)) ⟨p, q.1, hp, hq.1, rfl, rfl⟩)
    (pp_call K_side (hr.mono (by decide)) (ppa_cons (pp_var 0 rfl) (ppa_cons (pp_t1 (pp_var 1 rfl)) ppa_nil)) ⟨p, q.2, hp, hq.2, rfl, rfl⟩)) pp_int))
theorem kn_divides {f : Addr} {fd : FuncData} (F : Fun K "divides" "divides" s_divides f fd) (hm : mg "divides" = some (.ref f)) (T : Top mg) (K_side : Known P wd K mg base "side" 1 (SpF K R_side)) : Known P wd K mg base "divides" 2 (SpF K R_divides) :=
  known_of F hm (F.binds (ps := ["one", "other"]) fun _ _ _ _ _ _ us hl => match us, hl with | [_, _], _ => rfl) (ok_divides F T K_side)
theorem sc_meets_badly : FnScope ["one", "other"] ["one", "other"] (defScope s_meets_badly) := ⟨rfl, rfl, rfl, by decide +kernel, rfl, by decide +kernel, by decide +kernel⟩
theorem ok_meets_badly {f : Addr} {fd : FuncData} (F : Fun K "meets_badly" "meets_badly" s_meets_badly f fd) (T : Top mg) (K_divides : Known P wd K mg base "divides" 2 (SpF K R_divides)) (K_ends_in_midst : Known P wd K mg base "ends_in_midst" 3 (SpF K R_ends_in_midst)) : FnOk P wd K mg base CX0 4 f fd ["one", "other"] (SpF K R_meets_badly) := by
  refine fn_pure (k := 3) F sc_meets_badly (by rintro _ _ ⟨p, q, _, _, rfl, _⟩; rfl) ?_
  rintro _ _ ⟨p, q, hp, hq, rfl, rfl⟩ cdv A outer s H E hr
  refine pps_ifRet (ppt_w (ppw_and (ppt_val (pp_call K_divides (hr.mono (by decide)) (ppa_cons (pp_var 0 rfl) (ppa_cons (pp_var 1 rfl) ppa_nil)) ⟨p, q, hp, hq, rfl, rfl⟩)) fun _ =>
    ppw_and1 (ppt_val (pp_call K_divides (hr.mono (by decide)) (ppa_cons (pp_var 1 rfl) (ppa_cons (pp_var 0 rfl) ppa_nil)) ⟨q, p, hq, hp, rfl, rfl⟩)))) (fun h => ?_) (fun h => ?_)
  · rw [show badI p q = true by unfold badI; rw [if_pos h]]
    exact pps_one (pp1_ret pp_bl)
  refine pps_ifRet (ppt_w (ppw_or (ppt_val (pp_call K_ends_in_midst (hr.mono (by decide)) (ppa_cons (pp_var 0 rfl) (ppa_cons (pp_var 1 rfl) ppa_nil)) ⟨p, q, hp, hq, rfl, rfl⟩)) fun _ =>
    ppw_or1 (ppt_val (pp_call K_ends_in_midst (hr.mono (by decide)) (ppa_cons (pp_var 1 rfl) (ppa_cons (pp_var 0 rfl) ppa_nil)) ⟨q, p, hq, hp, rfl, rfl⟩)))) (fun h' => ?_) (fun h' => ?_)
  · rw [show badI p q = true by unfold badI; rw [h, if_neg (by decide), if_pos h']]
    exact pps_one (pp1_ret pp_bl)
  · rw [show badI p q = (endOfI p.1 q && endOfI p.2 q) by unfold badI; rw [h, if_neg (by decide), h', if_neg (by decide)]]
    exact pps_one (pp1_ret (pp_and (pp_inPc hr (pp_t0 (pp_var 0 rfl)) (pp_var 1 rfl)) fun _ => pp_one (pp_inPc hr (pp_t1 (pp_var 0 rfl)) (pp_var 1 rfl))))
theorem kn_meets_badly {f : Addr} {fd : FuncData} (F : Fun K "meets_badly" "meets_badly" s_meets_badly f fd) (hm : mg "meets_badly" = some (.ref f)) (T : Top mg) (K_divides : Known P wd K mg base "divides" 2 (SpF K R_divides)) (K_ends_in_midst : Known P wd K mg base "ends_in_midst" 3 (SpF K R_ends_in_midst)) : Known P wd K mg base "meets_badly" 4 (SpF K R_meets_badly) :=
  known_of F hm (F.binds (ps := ["one", "other"]) fun _ _ _ _ _ _ us hl => match us, hl with | [_, _], _ => rfl) (ok_meets_badly F T K_divides K_ends_in_midst)
theorem sc_shares_end : FnScope ["one", "other"] ["one", "other"] (defScope s_shares_end) := ⟨rfl, rfl, rfl, by decide +kernel, rfl, by decide +kernel, by decide +kernel⟩
theorem ok_shares_end {f : Addr} {fd : FuncData} (F : Fun K "shares_end" "shares_end" s_shares_end f fd) (T : Top mg) : FnOk P wd K mg base CX0 1 f fd ["one", "other"] (SpF K R_shares_end) := by
  refine fn_pure (k := 0) F sc_shares_end (by rintro _ _ ⟨p, q, rfl, _⟩; rfl) ?_
  rintro _ _ ⟨p, q, rfl, rfl⟩ cdv A outer s H E hr
  exact pps_one (pp1_ret (pp_or (pp_inPc hr (pp_t0 (pp_var 0 rfl)) (pp_var 1 rfl)) fun _ => pp_one (pp_inPc hr (pp_t1 (pp_var 0 rfl)) (pp_var 1 rfl))))
theorem kn_shares_end {f : Addr} {fd : FuncData} (F : Fun K "shares_end" "shares_end" s_shares_end f fd) (hm : mg "shares_end" = some (.ref f)) (T : Top mg) : Known P wd K mg base "shares_end" 1 (SpF K R_shares_end) :=
  known_of F hm (F.binds (ps := ["one", "other"]) fun _ _ _ _ _ _ us hl => match us, hl with | [_, _], _ => rfl) (ok_shares_end F T)
theorem sc_split_at : FnScope ["run", "mark", "shares", "byte"] ["run", "mark"] (defScope s_split_at) := ⟨rfl, rfl, rfl, by decide +kernel, rfl, by decide +kernel, by decide +kernel⟩
theorem ok_split_at {f : Addr} {fd : FuncData} (F : Fun K "split_at" "split_at" s_split_at f fd) (T : Top mg) : FnOk P wd K mg base CX0 1 f fd ["run", "mark"] (SpN K R_split_at) := by
  refine F.ok sc_split_at (fun vs H Q E h => ?_) (fun cdv A outer s H vs Q E hr h => ?_)
  · obtain ⟨O, ds, es, dom, r, ⟨d, ns, m, _, _, rfl, _⟩, _⟩ := h
    rw [r.length]
    rfl
  · obtain ⟨O, ds, es, dom, r, ⟨d, ns, m, hd, hlen, rfl, rfl⟩, k⟩ := h
    cases r with
    | cons r1 r2 =>
    cases r2 with
    | cons r2 r3 =>
    cases r3
    obtain ⟨a, rfl, hq⟩ := (r1.to hide_sub).isInts hd
    rw [r2.int_inv]
    refine ⟨_, pss_cons (ps_set (i := 2) sc_split_at.nd rfl (Or.inl rfl) (pe_lst (pa_cons (pe_lst pa_nil) pa_nil)))
      (pss_cons (ps_for PassesOwn.never rfl (pi_list (pe_var (i := 0) rfl (Or.inl rfl))) (pg_name (i := 3) sc_split_at.nd rfl (Or.inl rfl))
        (pss_one (ps_if (pt_cmpR op_eq (pe_var (i := 3) rfl (Or.inl rfl)) (pe_var (i := 1) rfl (Or.inl rfl)) (nomark _))
          (pss_one (ps_expr (pe_bm PySem.F.plainAttrs_list PySem.F.slot_list_append PySem.F.type_list_append mt_append (pe_var (i := 2) rfl (Or.inl rfl)) (pa_cons (pe_lst pa_nil) pa_nil))))
          (pss_one (ps_expr (pe_bm PySem.F.plainAttrs_list PySem.F.slot_list_append PySem.F.type_list_append mt_append (pe_ix ix_list (pe_var (i := 2) rfl (Or.inl rfl)) (pe_un un_neg pe_int) (fun _ _ => rfl)) (pa_cons (pe_var (i := 3) rfl (Or.inl rfl)) pa_nil)))))))
      (pss_one (ps_ret (pe_var (i := 2) rfl (Or.inl rfl))))), ?_⟩
    refine ⟨by decide, fun p hp => ⟨by show 1 ≤ sizeLine; decide, fun S hS => ?_⟩⟩
    have pS : p ≠ S := fun e => by rw [← e, upd_same] at hS; cases hS
    have hS0 : H S = none := by rw [upd_ne pS.symm] at hS; exact hS
    have X0 : Shares H (upd (upd H p (.lst [])) S (.lst [V.ref p])) S [p] [[]] := by
      refine ⟨fun b o e => ?_, hS0, upd_same, rfl, by simp, fun j a' h => ?_⟩
      · rw [upd_ne (ne_of_none e hS0), upd_ne (ne_of_none e hp)]
        exact e
      · match j, h with
        | 0, h =>
          have e : p = a' := Option.some.inj h
          subst e
          exact ⟨hp, pS, [], rfl, by rw [upd_ne pS, upd_same]; rfl⟩
    refine ⟨_, rfl, a, rfl, ⟨_, X0.same.seq hq⟩, for_list (K := K) (a := a) (xs := ns.map V.int) (fun i σ H' => ∃ (v : Option V) (as : List Addr), σ = [some (.ref a), some (.int m), some (.ref S), v] ∧ Shares H H' S as (cutI m (ns.take i)))
      ⟨none, [p], rfl, X0⟩ (fun i σ H' _ ⟨_, _, _, x⟩ => x.same.seq hq) ?_ ?_⟩
    · rintro i y σ H' hi ⟨v, as, rfl, x⟩
      obtain ⟨z, hz, rfl⟩ : ∃ z, ns[i]? = some z ∧ V.int z = y := by
        rw [List.getElem?_map] at hi
        exact Option.map_eq_some_iff.mp hi
      obtain ⟨B, w', hB⟩ := last_of m (ns.take i)
      have hstep := cut_snoc m z (ns.take i) B w' hB
      rw [← take_snoc hz] at hstep
      have hlen2 : as.length < sizeLine := by
        have h1 := cutI_len m (ns.take i)
        have h2 : (ns.take i).length ≤ ns.length := by rw [List.length_take]; exact Nat.min_le_right _ _
        rw [x.len]
        have : (65538 : Nat) ≤ sizeLine := by decide
        omega
      refine ⟨_, rfl, _, rfl, rfl, _, rfl, ?_⟩
      by_cases hzm : z = m
      · refine Eq.mpr (if_pos (c := decide (V.int z = V.int m) = true) (by subst hzm; simp)) ?_
        refine ⟨_, rfl, .inl ⟨rfl, _, SqL.of x.top⟩, Nat.zero_le _, fun q hq' => ?_⟩
        have qS : q ≠ S := fun e => by rw [e, x.top] at hq'; cases hq'
        refine ⟨S, _, _, rfl, rfl, by rw [upd_ne qS.symm]; exact x.top, by rw [List.length_map]; exact hlen2, _, as ++ [q], rfl, ?_⟩
        have := x.more hq'
        rw [hB] at this
        rw [hstep, if_pos hzm, show B ++ [w', []] = B ++ [w'] ++ [[]] by simp]
        exact this
      · refine Eq.mpr (if_neg (c := decide (V.int z = V.int m) = true) (by simp [hzm])) ?_
        rw [hB] at x
        obtain ⟨b, hb⟩ : ∃ b, as[B.length]? = some b := ⟨_, List.getElem?_eq_getElem (by rw [x.len]; simp)⟩
        obtain ⟨g1, g2, g3⟩ := x.grow (z := z) hb
        have hlast : L2.atI (as.map V.ref) (-1) = some (V.ref b) := by
          unfold L2.atI L2.ixN
          have e : as.length = B.length + 1 := by rw [x.len]; simp
          rw [List.length_map, if_neg (by decide), if_pos (by omega), e]
          show (as.map V.ref)[(-1 + ((B.length + 1 : Nat) : Int)).toNat]? = _
          rw [show (-1 + ((B.length + 1 : Nat) : Int)).toNat = B.length by omega, List.getElem?_map, hb]
          rfl
        have hw : w'.length < sizeLine := by
          have h1 := cutI_sum m (ns.take i) w' (by rw [hB]; simp)
          have h2 : (ns.take i).length ≤ ns.length := by rw [List.length_take]; exact Nat.min_le_right _ _
          have : (65538 : Nat) ≤ sizeLine := by decide
          omega
        refine ⟨_, rfl, _, rfl, S, _, _, _, rfl, rfl, SqL.of x.top, hlast, .inl ⟨rfl, _, SqL.of g1⟩, _, rfl, b, _, _, rfl, rfl, g1, by rw [List.length_map]; exact hw, _, as, rfl, ?_⟩
        rw [hstep, if_neg hzm]
        exact g3
    · rintro σ H' ⟨v, as, rfl, x⟩
      rw [List.length_map, List.take_length] at x
      refine ⟨_, rfl, ?_⟩
      refine k S _ H' x.same x.out x.top (RpAll.mk (by simp [x.len]) fun j v d hv hd => ?_)
      rw [List.getElem?_map] at hv hd
      obtain ⟨b, hb, rfl⟩ := Option.map_eq_some_iff.mp hv
      obtain ⟨w', hw, rfl⟩ := Option.map_eq_some_iff.mp hd
      obtain ⟨c1, c2, w2, c3, c4⟩ := x.at_ j b hb
      rw [hw] at c3
      cases c3
      exact .lst (hide_of (by simp only [List.mem_cons, not_or]; exact ⟨c2, dom.not c1⟩) c4) (RpAll.of_ints _)
theorem kn_split_at {f : Addr} {fd : FuncData} (F : Fun K "split_at" "split_at" s_split_at f fd) (hm : mg "split_at" = some (.ref f)) (T : Top mg) : Known P wd K mg base "split_at" 1 (SpN K R_split_at) :=
  known_of F hm (F.binds (ps := ["run", "mark"]) fun _ _ _ _ _ _ us hl => match us, hl with | [_, _], _ => rfl) (ok_split_at F T)
theorem sc_lines_of : FnScope ["t", "lines", "unended"] ["t"] (defScope s_lines_of) := ⟨rfl, rfl, rfl, by decide +kernel, rfl, by decide +kernel, by decide +kernel⟩
theorem ok_lines_of {f : Addr} {fd : FuncData} (F : Fun K "lines_of" "lines_of" s_lines_of f fd) (T : Top mg) (K_split_at : Known P wd K mg base "split_at" 1 (SpN K R_split_at)) : FnOk P wd K mg base CX0 2 f fd ["t"] (SpF K R_lines_of) := by
  refine fn_pure (k := 1) F sc_lines_of (by rintro _ _ ⟨t, _, rfl, _⟩; rfl) ?_
  rintro _ _ ⟨t, ht, rfl, rfl⟩ cdv A outer s H E hr
  obtain ⟨B, w, hB⟩ := last_of 10 t
  have hBl : B.length ≤ 65536 := by
    have h1 := cutI_len 10 t
    rw [hB] at h1
    simp at h1
    omega
  have hL : (linesI t).map linD = if (decide ((0 : Int) < ((w.map Da.int).length : Nat)) || decide ((((B.map linD).length : Nat) : Int) < 2)) = true then B.map linD ++ [linD []] else B.map linD := by
    unfold linesI
    rw [hB]
    simp only [List.getLastD_concat, List.dropLast_concat, List.length_map]
    have e1 : decide ((0 : Int) < (w.length : Nat)) = decide (0 < w.length) := decide_eq_decide.mpr (by omega)
    have e2 : decide (((B.length : Nat) : Int) < 2) = decide (B.length < 2) := decide_eq_decide.mpr (by omega)
    rw [e1, e2]
    split <;> simp
  refine pps_next (pp1_own (ds := B.map linD ++ [linD w]) 1 sc_lines_of.nd (ppn_call K_split_at (hr.mono (by decide)) (ppa_cons (pp_var 0 rfl) (ppa_cons (pp_glob T.c_LINE_END) ppa_nil)) ⟨.arg t, t, 10, .inl rfl, ht, rfl, by rw [hB, List.map_append]; rfl⟩)) ?_
  refine pps_next (pp1_pop 1 2 sc_lines_of.nd rfl) ?_
  cases hc : (decide ((0 : Int) < ((w.map Da.int).length : Nat)) || decide ((((B.map linD).length : Nat) : Int) < 2)) with
  | true =>
    rw [hc, if_pos rfl] at hL
    rw [hL]
    refine pps_next (pp1_if (ppt_w (ppw_or (ppt_gt (pp_len T.b_len rfl (pp_var 2 rfl)) pp_int) fun _ => ppw_or1 (ppt_lend 1 rfl (ppt_lt (pp_len T.b_len rfl (pp_var 1 rfl)) pp_int)))) (fun _ => pps_one (pp1_append 1 rfl (by rw [List.length_map]; exact Nat.lt_of_le_of_lt hBl (by decide)) (pp_lst ppa_nil))) (fun h => by rw [hc] at h; cases h)) ?_
    exact pps_one (pp1_retOwn 1 rfl)
  | false =>
    rw [hc, if_neg (by decide)] at hL
    rw [hL]
    refine pps_next (pp1_if (ppt_w (ppw_or (ppt_gt (pp_len T.b_len rfl (pp_var 2 rfl)) pp_int) fun _ => ppw_or1 (ppt_lend 1 rfl (ppt_lt (pp_len T.b_len rfl (pp_var 1 rfl)) pp_int)))) (fun h => by rw [hc] at h; cases h) (fun _ => pps_nil)) ?_
    exact pps_one (pp1_retOwn 1 rfl)
theorem kn_lines_of {f : Addr} {fd : FuncData} (F : Fun K "lines_of" "lines_of" s_lines_of f fd) (hm : mg "lines_of" = some (.ref f)) (T : Top mg) (K_split_at : Known P wd K mg base "split_at" 1 (SpN K R_split_at)) : Known P wd K mg base "lines_of" 2 (SpF K R_lines_of) :=
  known_of F hm (F.binds (ps := ["t"]) fun _ _ _ _ _ _ us hl => match us, hl with | [_], _ => rfl) (ok_lines_of F T K_split_at)
theorem sc_spells : FnScope ["word", "text", "letter"] ["word", "text"] (defScope s_spells) := ⟨rfl, rfl, rfl, by decide +kernel, rfl, by decide +kernel, by decide +kernel⟩
theorem ok_spells {f : Addr} {fd : FuncData} (F : Fun K "spells" "spells" s_spells f fd) (T : Top mg) : FnOk P wd K mg base CX0 1 f fd ["word", "text"] (SpF K R_spells) := by
  refine fn_pure (k := 0) F sc_spells (by rintro _ _ ⟨w, x, _, _, rfl, _⟩; rfl) ?_
  rintro _ _ ⟨w, x, hx, hw, rfl, rfl⟩ cdv A outer s H E hr
  refine pps_one (pp1_ret (pp_eq (pp_eqD (dx := linD w) (dy := .lst ((codesOf x).map Da.int)) hr (shaped_ints w) (shaped_ints _) (pp_var 0 rfl) (pp_eq (pp_lc (lc_name (l := x.cps.toList) (enc := fun c => .str ⟨#[c]⟩) (f := fun c => .int (c : Nat)) 2 rfl sc_spells.nd (blkOk_by (by rfl)) (by rw [Array.length_toList]; exact Nat.le_trans hx (by decide)) (ppi_str (pp_var 1 rfl)) ?_)) ?_)) ?_))
  · intro c hc s H C cl fp
    exact pp_eq (pp_ord (x := ⟨#[c]⟩) T.b_ord bt_ord rfl (pp_var 2 rfl)) rfl
  · rw [filter_yes]
    unfold codesOf
    rw [List.map_map]
    rfl
  · exact congrArg Da.bl (eqv_ints w (codesOf x))
theorem kn_spells {f : Addr} {fd : FuncData} (F : Fun K "spells" "spells" s_spells f fd) (hm : mg "spells" = some (.ref f)) (T : Top mg) : Known P wd K mg base "spells" 1 (SpF K R_spells) :=
  known_of F hm (F.binds (ps := ["word", "text"]) fun _ _ _ _ _ _ us hl => match us, hl with | [_, _], _ => rfl) (ok_spells F T)
theorem sc_is_letter : FnScope ["byte"] ["byte"] (defScope s_is_letter) := ⟨rfl, rfl, rfl, by decide +kernel, rfl, by decide +kernel, by decide +kernel⟩
theorem ok_is_letter {f : Addr} {fd : FuncData} (F : Fun K "is_letter" "is_letter" s_is_letter f fd) (T : Top mg) : FnOk P wd K mg base CX0 1 f fd ["byte"] (SpF K R_is_letter) := by
  refine fn_pure (k := 0) F sc_is_letter (by rintro _ _ ⟨b, rfl, _⟩; rfl) ?_
  rintro _ _ ⟨b, rfl, rfl⟩ cdv A outer s H E hr
  exact pps_one (pp1_ret (pp_eq (pp_or (pp_lele (pp_ord T.b_ord bt_ord (by decide +kernel) pp_str) (pp_var 0 rfl) (pp_ord T.b_ord bt_ord (by decide +kernel) pp_str)) fun _ => pp_one (pp_lele (pp_ord T.b_ord bt_ord (by decide +kernel) pp_str) (pp_var 0 rfl) (pp_ord T.b_ord bt_ord (by decide +kernel) pp_str))) rfl))
theorem kn_is_letter {f : Addr} {fd : FuncData} (F : Fun K "is_letter" "is_letter" s_is_letter f fd) (hm : mg "is_letter" = some (.ref f)) (T : Top mg) : Known P wd K mg base "is_letter" 1 (SpF K R_is_letter) :=
  known_of F hm (F.binds (ps := ["byte"]) fun _ _ _ _ _ _ us hl => match us, hl with | [_], _ => rfl) (ok_is_letter F T)
theorem sc_is_digit : FnScope ["byte"] ["byte"] (defScope s_is_digit) := ⟨rfl, rfl, rfl, by decide +kernel, rfl, by decide +kernel, by decide +kernel⟩
theorem ok_is_digit {f : Addr} {fd : FuncData} (F : Fun K "is_digit" "is_digit" s_is_digit f fd) (T : Top mg) : FnOk P wd K mg base CX0 1 f fd ["byte"] (SpF K R_is_digit) := by
  refine fn_pure (k := 0) F sc_is_digit (by rintro _ _ ⟨b, rfl, _⟩; rfl) ?_
  rintro _ _ ⟨b, rfl, rfl⟩ cdv A outer s H E hr
  exact pps_one (pp1_ret (pp_lele (pp_glob T.c_ZERO) (pp_var 0 rfl) (pp_glob T.c_NINE)))
theorem kn_is_digit {f : Addr} {fd : FuncData} (F : Fun K "is_digit" "is_digit" s_is_digit f fd) (hm : mg "is_digit" = some (.ref f)) (T : Top mg) : Known P wd K mg base "is_digit" 1 (SpF K R_is_digit) :=
  known_of F hm (F.binds (ps := ["byte"]) fun _ _ _ _ _ _ us hl => match us, hl with | [_], _ => rfl) (ok_is_digit F T)
theorem sc_is_name : FnScope ["word", "byte"] ["word"] (defScope s_is_name) := ⟨rfl, rfl, rfl, by decide +kernel, rfl, by decide +kernel, by decide +kernel⟩
theorem ok_is_name {f : Addr} {fd : FuncData} (F : Fun K "is_name" "is_name" s_is_name f fd) (T : Top mg) (K_is_letter : Known P wd K mg base "is_letter" 1 (SpF K R_is_letter)) (K_is_digit : Known P wd K mg base "is_digit" 1 (SpF K R_is_digit)) : FnOk P wd K mg base CX0 2 f fd ["word"] (SpF K R_is_name) := by
  refine fn_pure (k := 1) F sc_is_name (by rintro _ _ ⟨w, _, rfl, _⟩; rfl) ?_
  rintro _ _ ⟨w, hw, rfl, rfl⟩ cdv A outer s H E hr
  refine pps_one (pp1_ret (pp_eq (pp_and (pp_lele pp_int (pp_len T.b_len rfl (pp_var 0 rfl)) (pp_glob T.c_LONGEST_NAME)) fun _ => pp_one (pp_all (bs := w.map fun b => isLetterI b || isDigitI b) rfl T.b_all bt_all (pp_eq (pp_lc (lc_name (l := w) (enc := Da.int) (f := fun b => .bl (isLetterI b || isDigitI b)) 1 rfl sc_is_name.nd (blkOk_by (by rfl)) (Nat.le_trans hw (by decide)) (ppi_list (pp_var 0 rfl)) ?_)) ?_))) ?_))
  · intro b hb s H C cl fp
    exact pp_or (pp_call K_is_letter (hr.mono (by decide)) (ppa_cons (pp_var 1 rfl) ppa_nil) ⟨b, rfl, rfl⟩) fun _ => pp_one (pp_call K_is_digit (hr.mono (by decide)) (ppa_cons (pp_var 1 rfl) ppa_nil) ⟨b, rfl, rfl⟩)
  · rw [filter_yes, List.map_map]
    rfl
  · unfold isNameI
    rw [List.length_map]
theorem kn_is_name {f : Addr} {fd : FuncData} (F : Fun K "is_name" "is_name" s_is_name f fd) (hm : mg "is_name" = some (.ref f)) (T : Top mg) (K_is_letter : Known P wd K mg base "is_letter" 1 (SpF K R_is_letter)) (K_is_digit : Known P wd K mg base "is_digit" 1 (SpF K R_is_digit)) : Known P wd K mg base "is_name" 2 (SpF K R_is_name) :=
  known_of F hm (F.binds (ps := ["word"]) fun _ _ _ _ _ _ us hl => match us, hl with | [_], _ => rfl) (ok_is_name F T K_is_letter K_is_digit)
theorem sc_is_number : FnScope ["word", "byte"] ["word"] (defScope s_is_number) := ⟨rfl, rfl, rfl, by decide +kernel, rfl, by decide +kernel, by decide +kernel⟩
theorem ok_is_number {f : Addr} {fd : FuncData} (F : Fun K "is_number" "is_number" s_is_number f fd) (T : Top mg) (K_is_digit : Known P wd K mg base "is_digit" 1 (SpF K R_is_digit)) : FnOk P wd K mg base CX0 2 f fd ["word"] (SpF K R_is_number) := by
  refine fn_pure (k := 1) F sc_is_number (by rintro _ _ ⟨w, _, rfl, _⟩; rfl) ?_
  rintro _ _ ⟨w, hw, rfl, rfl⟩ cdv A outer s H E hr
  refine pps_ifRet (t := decide ((w.length : Int) = 0) || !((w.map isDigitI).all id)) (ppt_w (ppw_or (ppt_eq (ppt_eqI (pp_len T.b_len rfl (pp_var 0 rfl)) pp_int) ?_) fun _ => ppw_or1 (ppt_not (ppt_val (pp_all (bs := w.map isDigitI) rfl T.b_all bt_all (pp_eq (pp_lc (lc_name (l := w) (enc := Da.int) (f := fun b => .bl (isDigitI b)) 1 rfl sc_is_number.nd (blkOk_by (by rfl)) (Nat.le_trans hw (by decide)) (ppi_list (pp_var 0 rfl)) ?_)) ?_)))))) (fun h => ?_) (fun h => ?_)
  · rw [List.length_map]
  · intro b hb s H C cl fp
    exact pp_call K_is_digit (hr.mono (by decide)) (ppa_cons (pp_var 1 rfl) ppa_nil) ⟨b, rfl, rfl⟩
  · rw [filter_yes, List.map_map]
    rfl
  · rw [show isNumI w = false by unfold isNumI; rw [if_pos h]]
    exact pps_one (pp1_ret pp_bl)
  · rw [show isNumI w = (decide ((w.length : Int) = 1) || !decide (w.headD 0 = 48)) by unfold isNumI; rw [h, if_neg (by decide)]]
    cases w with
    | nil => simp at h
    | cons b r => exact pps_one (pp1_ret (pp_eq (pp_or (pp_eqI (pp_len T.b_len rfl (pp_var 0 rfl)) pp_int) fun _ => pp_one (pp_neI (pp_l0 (pp_var 0 rfl)) (pp_glob T.c_ZERO))) (by rw [List.length_map]; rfl)))
theorem kn_is_number {f : Addr} {fd : FuncData} (F : Fun K "is_number" "is_number" s_is_number f fd) (hm : mg "is_number" = some (.ref f)) (T : Top mg) (K_is_digit : Known P wd K mg base "is_digit" 1 (SpF K R_is_digit)) : Known P wd K mg base "is_number" 2 (SpF K R_is_number) :=
  known_of F hm (F.binds (ps := ["word"]) fun _ _ _ _ _ _ us hl => match us, hl with | [_], _ => rfl) (ok_is_number F T K_is_digit)
theorem sc_coordinate_of : FnScope ["digits", "value", "digit"] ["digits"] (defScope s_coordinate_of) := ⟨rfl, rfl, rfl, by decide +kernel, rfl, by decide +kernel, by decide +kernel⟩
theorem ok_coordinate_of {f : Addr} {fd : FuncData} (F : Fun K "coordinate_of" "coordinate_of" s_coordinate_of f fd) (T : Top mg) : FnOk P wd K mg base CX0 1 f fd ["digits"] (SpF K R_coordinate_of) := by
  refine fn_pure (k := 0) F sc_coordinate_of (by rintro _ _ ⟨w, _, _, rfl, _⟩; rfl) ?_
  rintro _ _ ⟨w, hw, hnum, rfl, rfl⟩ cdv A outer s H E hr
  refine pps_ifRet (t := decide ((4 : Int) < w.length)) (ppt_eq (ppt_gt (pp_len T.b_len rfl (pp_var 0 rfl)) (pp_glob T.c_MOST_DIGITS)) (by rw [List.length_map])) (fun h => ?_) (fun h => ?_)
  · rw [show coordI w = 4096 by unfold coordI; rw [if_pos (by simpa using h)]]
    exact pps_one (pp1_ret (pp_eq (pp_add (pp_glob T.c_LARGEST_COORDINATE) pp_int) rfl))
  · have h4 : w.length ≤ 4 := by simp at h; omega
    rw [show coordI w = w.foldl (fun v d => v * 10 + d - 48) 0 by unfold coordI; rw [if_neg (by omega)]]
    have hdig : ∀ b ∈ w, 48 ≤ b ∧ b ≤ 57 := num_digits hnum
    refine pps_next (pp1_set 1 sc_coordinate_of.nd pp_int) ?_
    refine pps_next (pp1_eq (pp1_for (ds := w.map Da.int) (vs := [2]) (fun i => [.val (linD w), .val (.int ((w.take i).foldl (fun v d => v * 10 + d - 48) 0)), .no]) (fun i => [.val (linD w), .val (.int ((w.take i).foldl (fun v d => v * 10 + d - 48) 0)), .val (.int (w.getD i 0))]) rfl PassesOwn.never rfl (ppi_list (pp_var 0 rfl)) (pg_name (i := 2) sc_coordinate_of.nd rfl (Or.inl rfl)) (fun i d hd => ?_) (fun i j us h => ?_) (fun i d hd => ?_)) rfl) ?_
    · rw [List.getElem?_map] at hd
      obtain ⟨b, hb, rfl⟩ := Option.map_eq_some_iff.mp hd
      have e : w.getD i 0 = b := by rw [List.getD_eq_getElem?_getD, hb]; rfl
      rw [e]
      exact tg_name 2
    · match j, h with
      | 0, h => cases h
      | 1, h => cases h
      | 2, h => cases h
    · rw [List.getElem?_map] at hd
      obtain ⟨b, hb, rfl⟩ := Option.map_eq_some_iff.mp hd
      have e : w.getD i 0 = b := by rw [List.getD_eq_getElem?_getD, hb]; rfl
      have e2 : (w.take (i + 1)).foldl (fun v d => v * 10 + d - 48) 0 = (w.take i).foldl (fun v d => v * 10 + d - 48) 0 * 10 + b - 48 := by
        rw [take_snoc hb, List.foldl_append]
        rfl
      have bd := fold_bound (w.take i) (fun x hx => hdig x (List.mem_of_mem_take hx)) (by rw [List.length_take]; omega)
      rw [e, e2]
      exact pps_eq (pps_weak 2 (pps_one (pp1_set 1 sc_coordinate_of.nd (pp_sub (pp_add (pp_mul (by omega) (pp_var 1 rfl) pp_int) (pp_var 2 rfl)) (pp_glob T.c_ZERO))))) rfl
    · rw [List.length_map, List.take_length]
      exact pps_one (pp1_ret (pp_var 1 rfl))
theorem kn_coordinate_of {f : Addr} {fd : FuncData} (F : Fun K "coordinate_of" "coordinate_of" s_coordinate_of f fd) (hm : mg "coordinate_of" = some (.ref f)) (T : Top mg) : Known P wd K mg base "coordinate_of" 1 (SpF K R_coordinate_of) :=
  known_of F hm (F.binds (ps := ["digits"]) fun _ _ _ _ _ _ us hl => match us, hl with | [_], _ => rfl) (ok_coordinate_of F T)
theorem sc_point_of : FnScope ["word", "numbers"] ["word"] (defScope s_point_of) := ⟨rfl, rfl, rfl, by decide +kernel, rfl, by decide +kernel, by decide +kernel⟩
theorem ok_point_of {f : Addr} {fd : FuncData} (F : Fun K "point_of" "point_of" s_point_of f fd) (T : Top mg) (K_split_at : Known P wd K mg base "split_at" 1 (SpN K R_split_at)) (K_coordinate_of : Known P wd K mg base "coordinate_of" 1 (SpF K R_coordinate_of)) (K_is_number : Known P wd K mg base "is_number" 2 (SpF K R_is_number)) : FnOk P wd K mg base CX0 3 f fd ["word"] (SpF K R_point_of) := by
  refine fn_pure (k := 2) F sc_point_of (by rintro _ _ ⟨w, _, rfl, _⟩; rfl) ?_
  rintro _ _ ⟨w, hw, rfl, rfl⟩ cdv A outer s H E hr
  refine pps_next (pp1_set (d := .lst ((cutI 44 w).map linD)) 1 sc_point_of.nd (pp_n (ppn_call K_split_at (hr.mono (by decide)) (ppa_cons (pp_var 0 rfl) (ppa_cons (pp_glob T.c_COMMA) ppa_nil)) ⟨linD w, w, 44, .inr rfl, hw, rfl, rfl⟩))) ?_
  have hsub : ∀ u ∈ cutI 44 w, u.length ≤ 65536 := fun u hu => Nat.le_trans (cutI_sum 44 w u hu) hw
  unfold pointI
  have other : ∀ l : List (List Int), l = cutI 44 w → l.length ≠ 2 → PPs (cxOf CX0 P wd K mg base ["word", "numbers"] "point_of" (defScope s_point_of) f cdv A outer s H E).nox [.val (linD w), .val (.lst (l.map linD))] (defBody s_point_of).tail (.ret .non) := fun l hl hne =>
    pps_ifRet (t := true) (ppt_eq (ppt_w (ppw_or (u := true) (ppt_neI (pp_len T.b_len rfl (pp_var 1 rfl)) pp_int) (fun h => absurd h (by simp; omega)))) (by simp)) (fun _ => pps_one (pp1_ret pp_non)) (fun h => by cases h)
  match hc : cutI 44 w with
  | [] => exact other [] hc.symm (by simp)
  | [u] => exact other [u] hc.symm (by simp)
  | [u, v] =>
    have hu := hsub u (by rw [hc]; simp)
    have hv := hsub v (by rw [hc]; simp)
    refine pps_ifRet (t := !(isNumI u && isNumI v)) (ppt_eq (ppt_w (ppw_or (t := false) (ppt_eq (ppt_neI (pp_len T.b_len rfl (pp_var 1 rfl)) pp_int) rfl) fun _ => ppw_or (ppt_not (ppt_val (pp_call K_is_number (hr.mono (by decide)) (ppa_cons (pp_l0 (pp_var 1 rfl)) ppa_nil) ⟨u, hu, rfl, rfl⟩))) fun _ => ppw_or1 (ppt_not (ppt_val (pp_call K_is_number (hr.mono (by decide)) (ppa_cons (pp_l1 (pp_var 1 rfl)) ppa_nil) ⟨v, hv, rfl, rfl⟩))))) (by cases isNumI u <;> cases isNumI v <;> rfl)) (fun h => ?_) (fun h => ?_)
    · dsimp only
      rw [if_neg (by intro q; rw [q] at h; cases h)]
      exact pps_one (pp1_ret pp_non)
    · have h' : isNumI u = true ∧ isNumI v = true := by simpa using h
      dsimp only
      rw [if_pos (by rw [h'.1, h'.2]; rfl)]
      exact pps_one (pp1_ret (pp_tup (ppa_cons (pp_call K_coordinate_of (hr.mono (by decide)) (ppa_cons (pp_l0 (pp_var 1 rfl)) ppa_nil) ⟨u, hu, h'.1, rfl, rfl⟩) (ppa_cons (pp_call K_coordinate_of (hr.mono (by decide)) (ppa_cons (pp_l1 (pp_var 1 rfl)) ppa_nil) ⟨v, hv, h'.2, rfl, rfl⟩) ppa_nil))))
  | u :: v :: x :: r => exact other (u :: v :: x :: r) hc.symm (by simp)
theorem kn_point_of {f : Addr} {fd : FuncData} (F : Fun K "point_of" "point_of" s_point_of f fd) (hm : mg "point_of" = some (.ref f)) (T : Top mg) (K_split_at : Known P wd K mg base "split_at" 1 (SpN K R_split_at)) (K_coordinate_of : Known P wd K mg base "coordinate_of" 1 (SpF K R_coordinate_of)) (K_is_number : Known P wd K mg base "is_number" 2 (SpF K R_is_number)) : Known P wd K mg base "point_of" 3 (SpF K R_point_of) :=
  known_of F hm (F.binds (ps := ["word"]) fun _ _ _ _ _ _ us hl => match us, hl with | [_], _ => rfl) (ok_point_of F T K_split_at K_coordinate_of K_is_number)
theorem sc_points_of : FnScope ["line", "words", "points", "word"] ["line"] (defScope s_points_of) := ⟨rfl, rfl, rfl, by decide +kernel, rfl, by decide +kernel, by decide +kernel⟩
theorem ok_points_of {f : Addr} {fd : FuncData} (F : Fun K "points_of" "points_of" s_points_of f fd) (T : Top mg) (K_split_at : Known P wd K mg base "split_at" 1 (SpN K R_split_at)) (K_point_of : Known P wd K mg base "point_of" 3 (SpF K R_point_of)) (K_spells : Known P wd K mg base "spells" 1 (SpF K R_spells)) : FnOk P wd K mg base CX0 4 f fd ["line"] (SpF K R_points_of) := by
  refine fn_pure (k := 3) F sc_points_of (by rintro _ _ ⟨w, _, rfl, _⟩; rfl) ?_
  rintro _ _ ⟨w, hw, rfl, rfl⟩ cdv A outer s H E hr
  refine pps_next (pp1_set (d := .lst ((cutI 32 w).map linD)) 1 sc_points_of.nd (pp_n (ppn_call K_split_at (hr.mono (by decide)) (ppa_cons (pp_var 0 rfl) (ppa_cons (pp_glob T.c_BLANK) ppa_nil)) ⟨linD w, w, 32, .inr rfl, hw, rfl, rfl⟩))) ?_
  have hsub : ∀ u ∈ cutI 32 w, u.length ≤ 65536 := fun u hu => Nat.le_trans (cutI_sum 32 w u hu) hw
  have hlen := cutI_len 32 w
  unfold pointsI
  match hc : cutI 32 w with
  | [] => exact absurd hc (cutI_ne 32 w)
  | v :: r =>
    have hv := hsub v (by rw [hc]; simp)
    rw [hc] at hlen
    refine pps_ifRet (t := !decide (v = codesOf "stroke") || !(decide ((2 : Int) ≤ r.length) && decide ((r.length : Int) ≤ 65))) (ppt_w (ppw_or (ppt_not (ppt_val (pp_call K_spells (hr.mono (by decide)) (ppa_cons (pp_l0 (pp_var 1 rfl)) (ppa_cons pp_str ppa_nil)) ⟨v, _, by decide +kernel, hv, rfl, rfl⟩))) fun _ => ppw_or1 (ppt_not (ppt_eq (ppt_lele (pp_glob T.c_LEAST_POINTS) (pp_sub (pp_len T.b_len rfl (pp_var 1 rfl)) pp_int) (pp_glob T.c_MOST_POINTS)) ?_)))) (fun h => ?_) (fun h => ?_)
    · have e : ((((v :: r).map linD).length : Nat) : Int) - 1 = (r.length : Int) := by simp
      rw [e]
    · dsimp only
      rw [if_neg (by
        rw [codes_stroke] at h
        rintro ⟨h1, h2, h3⟩
        have h2' : (2 : Int) ≤ r.length := by omega
        have h3' : (r.length : Int) ≤ 65 := by omega
        simp [h1, h2', h3'] at h)]
      exact pps_one (pp1_ret pp_non)
    · rw [codes_stroke] at h
      have h' : v = strokeW ∧ 2 ≤ r.length ∧ r.length ≤ 65 := by
        simp at h
        exact ⟨h.1, by omega, by omega⟩
      dsimp only
      rw [if_pos h']
      refine pps_next (pp1_eq (pp1_setLc 2 (lc_name (l := r) (enc := linD) (f := fun u => optPt (pointI u)) 3 rfl sc_points_of.nd (blkOk_by (by rfl)) (Nat.le_trans h'.2.2 (by decide)) (ppi_list (pp_eq (pp_slice (pp_var 1 rfl) (ppo_some pp_int) ppo_none) (d := .lst (r.map linD)) (by rw [List.map_cons, cut_tail])) ) ?_) rfl) rfl) ?_
      · intro u hu s H C cl fp
        exact pp_call K_point_of (hr.mono (by decide)) (ppa_cons (pp_var 3 rfl) ppa_nil) ⟨u, hsub u (by rw [hc]; exact List.mem_cons_of_mem _ hu), rfl, rfl⟩
      · rw [filter_yes]
        refine pps_ifRet (t := r.any fun u => (pointI u).isNone) (ppt_eq (ppt_in (ds := r.map fun u => optPt (pointI u)) (dx := .non) hr rfl rfl (fit_opts _) pp_non (pp_var 2 rfl)) (in_opts r)) (fun h2 => ?_) (fun h2 => ?_)
        · rw [mapM_none h2]
          exact pps_one (pp1_ret pp_non)
        · rw [mapM_some h2]
          exact pps_one (pp1_ret (pp_eq (pp_var 2 rfl) (opts_some h2)))
theorem kn_points_of {f : Addr} {fd : FuncData} (F : Fun K "points_of" "points_of" s_points_of f fd) (hm : mg "points_of" = some (.ref f)) (T : Top mg) (K_split_at : Known P wd K mg base "split_at" 1 (SpN K R_split_at)) (K_point_of : Known P wd K mg base "point_of" 3 (SpF K R_point_of)) (K_spells : Known P wd K mg base "spells" 1 (SpF K R_spells)) : Known P wd K mg base "points_of" 4 (SpF K R_points_of) :=
  known_of F hm (F.binds (ps := ["line"]) fun _ _ _ _ _ _ us hl => match us, hl with | [_], _ => rfl) (ok_points_of F T K_split_at K_point_of K_spells)
theorem sc_is_sign_line : FnScope ["line", "words"] ["line"] (defScope s_is_sign_line) := ⟨rfl, rfl, rfl, by decide +kernel, rfl, by decide +kernel, by decide +kernel⟩
theorem ok_is_sign_line {f : Addr} {fd : FuncData} (F : Fun K "is_sign_line" "is_sign_line" s_is_sign_line f fd) (T : Top mg) (K_split_at : Known P wd K mg base "split_at" 1 (SpN K R_split_at)) (K_spells : Known P wd K mg base "spells" 1 (SpF K R_spells)) (K_is_name : Known P wd K mg base "is_name" 2 (SpF K R_is_name)) : FnOk P wd K mg base CX0 3 f fd ["line"] (SpF K R_is_sign_line) := by
  refine fn_pure (k := 2) F sc_is_sign_line (by rintro _ _ ⟨w, _, rfl, _⟩; rfl) ?_
  rintro _ _ ⟨w, hw, rfl, rfl⟩ cdv A outer s H E hr
  refine pps_next (pp1_set (d := .lst ((cutI 32 w).map linD)) 1 sc_is_sign_line.nd (pp_n (ppn_call K_split_at (hr.mono (by decide)) (ppa_cons (pp_var 0 rfl) (ppa_cons (pp_glob T.c_BLANK) ppa_nil)) ⟨linD w, w, 32, .inr rfl, hw, rfl, rfl⟩))) ?_
  have hsub : ∀ u ∈ cutI 32 w, u.length ≤ 65536 := fun u hu => Nat.le_trans (cutI_sum 32 w u hu) hw
  unfold signI
  have other : ∀ l : List (List Int), l = cutI 32 w → l.length ≠ 2 → PPs (cxOf CX0 P wd K mg base ["line", "words"] "is_sign_line" (defScope s_is_sign_line) f cdv A outer s H E).nox [.val (linD w), .val (.lst (l.map linD))] (defBody s_is_sign_line).tail (.ret (.bl false)) := fun l hl hne =>
    pps_one (pp1_ret (pp_eq (pp_and (t := decide (((l.map linD).length : Int) = 2)) (u := false) (pp_eqI (pp_len T.b_len rfl (pp_var 1 rfl)) pp_int) (fun h => absurd h (by simp; omega))) (by simp)))
  match hc : cutI 32 w with
  | [] => exact other [] hc.symm (by simp)
  | [u] => exact other [u] hc.symm (by simp)
  | [u, v] =>
    have hu := hsub u (by rw [hc]; simp)
    have hv := hsub v (by rw [hc]; simp)
    exact pps_one (pp1_ret (pp_eq (pp_and (t := true) (pp_eq (pp_eqI (pp_len T.b_len rfl (pp_var 1 rfl)) pp_int) rfl) fun _ => pp_and (pp_call K_spells (hr.mono (by decide)) (ppa_cons (pp_l0 (pp_var 1 rfl)) (ppa_cons pp_str ppa_nil)) ⟨u, _, by decide +kernel, hu, rfl, rfl⟩) fun _ => pp_one (pp_call K_is_name (hr.mono (by decide)) (ppa_cons (pp_l1 (pp_var 1 rfl)) ppa_nil) ⟨v, hv, rfl, rfl⟩)) (by rw [codes_sign]; rfl)))
  | u :: v :: x :: r => exact other (u :: v :: x :: r) hc.symm (by simp)
theorem kn_is_sign_line {f : Addr} {fd : FuncData} (F : Fun K "is_sign_line" "is_sign_line" s_is_sign_line f fd) (hm : mg "is_sign_line" = some (.ref f)) (T : Top mg) (K_split_at : Known P wd K mg base "split_at" 1 (SpN K R_split_at)) (K_spells : Known P wd K mg base "spells" 1 (SpF K R_spells)) (K_is_name : Known P wd K mg base "is_name" 2 (SpF K R_is_name)) : Known P wd K mg base "is_sign_line" 3 (SpF K R_is_sign_line) :=
  known_of F hm (F.binds (ps := ["line"]) fun _ _ _ _ _ _ us hl => match us, hl with | [_], _ => rfl) (ok_is_sign_line F T K_split_at K_spells K_is_name)
theorem sc_first_true : FnScope ["answers", "number", "answer"] ["answers"] (defScope s_first_true) := ⟨rfl, rfl, rfl, by decide +kernel, rfl, by decide +kernel, by decide +kernel⟩
theorem ok_first_true {f : Addr} {fd : FuncData} (F : Fun K "first_true" "first_true" s_first_true f fd) (T : Top mg) : FnOk P wd K mg base CX0 1 f fd ["answers"] (SpF K R_first_true) := by
  refine fn_pure (k := 0) F sc_first_true (by rintro _ _ ⟨bs, _, rfl, _⟩; rfl) ?_
  rintro _ _ ⟨bs, hlen, rfl, rfl⟩ cdv A outer s H E hr
  have hds : ∀ (i : Nat) (d : Da), (numbered (bs.map Da.bl))[i]? = some d → i < bs.length ∧ d = .tup [.int (i : Nat), .bl (bs.getD i false)] := by
    intro i d hd
    rw [numbered_eq Da.bl false bs, List.getElem?_map] at hd
    obtain ⟨j, hj, rfl⟩ := Option.map_eq_some_iff.mp hd
    obtain ⟨h1, h2⟩ := List.getElem?_eq_some_iff.mp hj
    rw [List.getElem_range] at h2
    subst h2
    rw [List.length_range] at h1
    exact ⟨h1, rfl⟩
  have hv : ∀ (i j : Nat) (us : List Da), ([.val (.lst (bs.map Da.bl)), .val (.int (i : Nat)), .val (.bl (bs.getD i false))] : Rho)[j]? = some (.own us) → j ∉ [1, 2] ∧ ([.val (.lst (bs.map Da.bl)), .no, .no] : Rho)[j]? = some (.own us) := by
    intro i j us h
    match j, h with
    | 0, h => cases h
    | 1, h => cases h
    | 2, h => cases h
  cases hf : firstI bs with
  | none =>
    have hb : ∀ i, i < bs.length → bs.getD i false = false := fun i hi => by
      have := List.findIdx?_eq_none_iff.mp hf (bs[i]) (List.getElem_mem hi)
      rw [List.getD_eq_getElem?_getD, List.getElem?_eq_getElem hi]
      simpa using this
    refine pps_next (pp1_for (vs := [1, 2]) (fun _ => [.val (.lst (bs.map Da.bl)), .no, .no]) (fun i => [.val (.lst (bs.map Da.bl)), .val (.int (i : Nat)), .val (.bl (bs.getD i false))]) rfl PassesOwn.never rfl (ppi_enum T.b_enumerate (pp_var 0 rfl)) (pg_tup rfl (pgs_cons (pg_name (i := 1) sc_first_true.nd rfl (Or.inl rfl)) (pgs_cons (pg_name (i := 2) sc_first_true.nd rfl (Or.inl rfl)) pgs_nil))) (fun i d hd => ?_) hv (fun i d hd => ?_)) ?_
    · obtain ⟨h1, rfl⟩ := hds i d hd
      exact tg_pair 1 2
    · obtain ⟨h1, rfl⟩ := hds i d hd
      have e := hb i h1
      exact pps_eq (pps_weak 1 (pps_weak 2 (pps_one (pp1_if (t := bs.getD i false) (ppt_val (pp_var 2 rfl)) (fun h => by rw [e] at h; cases h) (fun _ => pps_nil))))) rfl
    · exact pps_one (pp1_ret pp_non)
  | some k =>
    obtain ⟨hk, hk2, hk3⟩ := List.findIdx?_eq_some_iff_getElem.mp hf
    have ek : bs.getD k false = true := by
      rw [List.getD_eq_getElem?_getD, List.getElem?_eq_getElem hk]
      simpa using hk2
    have hb : ∀ i, i < k → bs.getD i false = false := fun i hi => by
      have := hk3 i hi
      rw [List.getD_eq_getElem?_getD, List.getElem?_eq_getElem (by omega)]
      simpa using this
    refine pps_ret (pp1_forRet (vs := [1, 2]) k (fun _ => [.val (.lst (bs.map Da.bl)), .no, .no]) (fun i => [.val (.lst (bs.map Da.bl)), .val (.int (i : Nat)), .val (.bl (bs.getD i false))]) rfl PassesOwn.never rfl (by rw [numbered_eq Da.bl false bs]; simpa using hk) (ppi_enum T.b_enumerate (pp_var 0 rfl)) (pg_tup rfl (pgs_cons (pg_name (i := 1) sc_first_true.nd rfl (Or.inl rfl)) (pgs_cons (pg_name (i := 2) sc_first_true.nd rfl (Or.inl rfl)) pgs_nil))) (fun i d _ hd => ?_) hv (fun i d hi hd => ?_) ?_)
    · obtain ⟨h1, rfl⟩ := hds i d hd
      exact tg_pair 1 2
    · obtain ⟨h1, rfl⟩ := hds i d hd
      have e := hb i hi
      exact pps_eq (pps_weak 1 (pps_weak 2 (pps_one (pp1_if (t := bs.getD i false) (ppt_val (pp_var 2 rfl)) (fun h => by rw [e] at h; cases h) (fun _ => pps_nil))))) rfl
    · exact pps_one (pp1_if (t := bs.getD k false) (ppt_val (pp_var 2 rfl)) (fun _ => pps_one (pp1_ret (pp_var 1 rfl))) (fun h => by rw [ek] at h; cases h))
theorem kn_first_true {f : Addr} {fd : FuncData} (F : Fun K "first_true" "first_true" s_first_true f fd) (hm : mg "first_true" = some (.ref f)) (T : Top mg) : Known P wd K mg base "first_true" 1 (SpF K R_first_true) :=
  known_of F hm (F.binds (ps := ["answers"]) fun _ _ _ _ _ _ us hl => match us, hl with | [_], _ => rfl) (ok_first_true F T)
theorem sc_stroke_pieces : FnScope ["points"] ["points"] (defScope s_stroke_pieces) := ⟨rfl, rfl, rfl, by decide +kernel, rfl, by decide +kernel, by decide +kernel⟩
theorem ok_stroke_pieces {f : Addr} {fd : FuncData} (F : Fun K "stroke_pieces" "stroke_pieces" s_stroke_pieces f fd) (T : Top mg) : FnOk P wd K mg base CX0 1 f fd ["points"] (SpF K R_stroke_pieces) := by
  refine fn_pure (k := 0) F sc_stroke_pieces (by rintro _ _ ⟨l, _, rfl, _⟩; rfl) ?_
  rintro _ _ ⟨l, hlen, rfl, rfl⟩ cdv A outer s H E hr
  exact pps_one (pp1_ret (pp_eq (pp_listZip rfl T.b_list T.b_zip (pp_var 0 rfl) (pp_slice (pp_var 0 rfl) (ppo_some pp_int) ppo_none)) (by rw [cut_tail', zip_pieces])))
theorem kn_stroke_pieces {f : Addr} {fd : FuncData} (F : Fun K "stroke_pieces" "stroke_pieces" s_stroke_pieces f fd) (hm : mg "stroke_pieces" = some (.ref f)) (T : Top mg) : Known P wd K mg base "stroke_pieces" 1 (SpF K R_stroke_pieces) :=
  known_of F hm (F.binds (ps := ["points"]) fun _ _ _ _ _ _ us hl => match us, hl with | [_], _ => rfl) (ok_stroke_pieces F T)
theorem sc_meets_one_badly : FnScope ["piece", "others", "other"] ["piece", "others"] (defScope s_meets_one_badly) := ⟨rfl, rfl, rfl, by decide +kernel, rfl, by decide +kernel, by decide +kernel⟩
theorem ok_meets_one_badly {f : Addr} {fd : FuncData} (F : Fun K "meets_one_badly" "meets_one_badly" s_meets_one_badly f fd) (T : Top mg) (K_meets_badly : Known P wd K mg base "meets_badly" 4 (SpF K R_meets_badly)) : FnOk P wd K mg base CX0 5 f fd ["piece", "others"] (SpF K R_meets_one_badly) := by
  refine fn_pure (k := 4) F sc_meets_one_badly (by rintro _ _ ⟨p, l, _, _, _, rfl, _⟩; rfl) ?_
  rintro _ _ ⟨p, l, hp, hl, hlen, rfl, rfl⟩ cdv A outer s H E hr
  refine pps_one (pp1_ret (pp_eq (pp_any (bs := l.map fun q => badI p q) rfl T.b_any bt_any (pp_eq (pp_lc (lc_name (l := l) (enc := pcD) (f := fun q => .bl (badI p q)) 2 rfl sc_meets_one_badly.nd (blkOk_by (by rfl)) (Nat.le_trans hlen (by decide)) (ppi_list (pp_var 1 rfl)) ?_)) ?_)) ?_))
  · intro q hq s H C cl fp
    exact pp_call K_meets_badly (hr.mono (by decide)) (ppa_cons (pp_var 0 rfl) (ppa_cons (pp_var 2 rfl) ppa_nil)) ⟨p, q, hp, hl q hq, rfl, rfl⟩
  · rw [filter_yes, List.map_map]
    rfl
  · rw [List.any_map]
    rfl
theorem kn_meets_one_badly {f : Addr} {fd : FuncData} (F : Fun K "meets_one_badly" "meets_one_badly" s_meets_one_badly f fd) (hm : mg "meets_one_badly" = some (.ref f)) (T : Top mg) (K_meets_badly : Known P wd K mg base "meets_badly" 4 (SpF K R_meets_badly)) : Known P wd K mg base "meets_one_badly" 5 (SpF K R_meets_one_badly) :=
  known_of F hm (F.binds (ps := ["piece", "others"]) fun _ _ _ _ _ _ us hl => match us, hl with | [_, _], _ => rfl) (ok_meets_one_badly F T K_meets_badly)
theorem sc_ending_at : FnScope ["point", "pieces", "number", "piece"] ["point", "pieces"] (defScope s_ending_at) := ⟨rfl, rfl, rfl, by decide +kernel, rfl, by decide +kernel, by decide +kernel⟩
theorem ok_ending_at {f : Addr} {fd : FuncData} (F : Fun K "ending_at" "ending_at" s_ending_at f fd) (T : Top mg) : FnOk P wd K mg base CX0 1 f fd ["point", "pieces"] (SpF K R_ending_at) := by
  refine fn_pure (k := 0) F sc_ending_at (by rintro _ _ ⟨c, l, _, rfl, _⟩; rfl) ?_
  rintro _ _ ⟨c, l, hlen, rfl, rfl⟩ cdv A outer s H E hr
  refine pps_one (pp1_ret (pp_lc (lc_pairIf (l := List.range l.length) (e1 := fun i => .int (i : Nat)) (e2 := fun i => pcD (pcAt l i)) (f := fun i => .int (i : Nat)) (b := fun i => endOfI c (pcAt l i)) 2 3 rfl sc_ending_at.nd (blkOk_by (by rfl)) (by rw [List.length_range]; exact Nat.le_trans hlen (by decide)) (ppi_eq (ppi_enum T.b_enumerate (pp_var 1 rfl)) (numbered_eq pcD ((0, 0), (0, 0)) l)) ?_ ?_)))
  · intro i hi s H C cl fp
    exact ppt_inPc hr (pp_var 0 rfl) (pp_var 3 rfl)
  · intro i hi hb s H C cl fp
    exact pp_var 2 rfl
theorem kn_ending_at {f : Addr} {fd : FuncData} (F : Fun K "ending_at" "ending_at" s_ending_at f fd) (hm : mg "ending_at" = some (.ref f)) (T : Top mg) : Known P wd K mg base "ending_at" 1 (SpF K R_ending_at) :=
  known_of F hm (F.binds (ps := ["point", "pieces"]) fun _ _ _ _ _ _ us hl => match us, hl with | [_, _], _ => rfl) (ok_ending_at F T)
theorem sc_degree : FnScope ["point", "pieces"] ["point", "pieces"] (defScope s_degree) := ⟨rfl, rfl, rfl, by decide +kernel, rfl, by decide +kernel, by decide +kernel⟩
theorem ok_degree {f : Addr} {fd : FuncData} (F : Fun K "degree" "degree" s_degree f fd) (T : Top mg) (K_ending_at : Known P wd K mg base "ending_at" 1 (SpF K R_ending_at)) : FnOk P wd K mg base CX0 2 f fd ["point", "pieces"] (SpF K R_degree) := by
  refine fn_pure (k := 1) F sc_degree (by rintro _ _ ⟨c, l, _, rfl, _⟩; rfl) ?_
  rintro _ _ ⟨c, l, hlen, rfl, rfl⟩ cdv A outer s H E hr
  exact pps_one (pp1_ret (pp_eq (pp_len T.b_len rfl (pp_call K_ending_at (hr.mono (by decide)) (ppa_cons (pp_var 0 rfl) (ppa_cons (pp_var 1 rfl) ppa_nil)) ⟨c, l, hlen, rfl, rfl⟩)) (by rw [List.length_map, degree_ending])))
theorem kn_degree {f : Addr} {fd : FuncData} (F : Fun K "degree" "degree" s_degree f fd) (hm : mg "degree" = some (.ref f)) (T : Top mg) (K_ending_at : Known P wd K mg base "ending_at" 1 (SpF K R_ending_at)) : Known P wd K mg base "degree" 2 (SpF K R_degree) :=
  known_of F hm (F.binds (ps := ["point", "pieces"]) fun _ _ _ _ _ _ us hl => match us, hl with | [_, _], _ => rfl) (ok_degree F T K_ending_at)
theorem sc_is_one_too_many : FnScope ["piece", "others", "point"] ["piece", "others"] (defScope s_is_one_too_many) := ⟨rfl, rfl, rfl, by decide +kernel, rfl, by decide +kernel, by decide +kernel⟩
theorem ok_is_one_too_many {f : Addr} {fd : FuncData} (F : Fun K "is_one_too_many" "is_one_too_many" s_is_one_too_many f fd) (T : Top mg) (K_degree : Known P wd K mg base "degree" 2 (SpF K R_degree)) : FnOk P wd K mg base CX0 3 f fd ["piece", "others"] (SpF K R_is_one_too_many) := by
  refine fn_pure (k := 2) F sc_is_one_too_many (by rintro _ _ ⟨p, l, _, rfl, _⟩; rfl) ?_
  rintro _ _ ⟨p, l, hlen, rfl, rfl⟩ cdv A outer s H E hr
  refine pps_one (pp1_ret (pp_eq (pp_any (bs := [p.1, p.2].map fun c => decide ((8 : Int) ≤ (degreeI c l : Nat))) rfl T.b_any bt_any (pp_eq (pp_lc (lc_name (l := [p.1, p.2]) (enc := ptD) (f := fun c => .bl (decide ((8 : Int) ≤ (degreeI c l : Nat)))) 2 rfl sc_is_one_too_many.nd (blkOk_by (by rfl)) (by simp only [List.length_cons, List.length_nil]; decide) (ppi_tup (pp_var 0 rfl)) ?_)) ?_)) ?_))
  · intro c hc s H C cl fp
    exact pp_ge (pp_call K_degree (hr.mono (by decide)) (ppa_cons (pp_var 2 rfl) (ppa_cons (pp_var 1 rfl) ppa_nil)) ⟨c, l, hlen, rfl, rfl⟩) (pp_glob T.c_HIGHEST_DEGREE)
  · rw [filter_yes, List.map_map]
    rfl
  · unfold ninthI
    have e : ∀ c, decide ((8 : Int) ≤ (degreeI c l : Nat)) = decide (8 ≤ degreeI c l) := fun c => decide_eq_decide.mpr (by omega)
    simp [e]
theorem kn_is_one_too_many {f : Addr} {fd : FuncData} (F : Fun K "is_one_too_many" "is_one_too_many" s_is_one_too_many f fd) (hm : mg "is_one_too_many" = some (.ref f)) (T : Top mg) (K_degree : Known P wd K mg base "degree" 2 (SpF K R_degree)) : Known P wd K mg base "is_one_too_many" 3 (SpF K R_is_one_too_many) :=
  known_of F hm (F.binds (ps := ["piece", "others"]) fun _ _ _ _ _ _ us hl => match us, hl with | [_, _], _ => rfl) (ok_is_one_too_many F T K_degree)
theorem sc_stroke_fault : FnScope ["points", "before", "which", "pieces", "added", "point", "one", "other", "number"] ["points", "before"] (defScope s_stroke_fault) := ⟨rfl, rfl, rfl, by decide +kernel, rfl, by decide +kernel, by decide +kernel⟩
theorem ok_stroke_fault {f : Addr} {fd : FuncData} (F : Fun K "stroke_fault" "stroke_fault" s_stroke_fault f fd) (T : Top mg) (K_first_true : Known P wd K mg base "first_true" 1 (SpF K R_first_true)) (K_stroke_pieces : Known P wd K mg base "stroke_pieces" 1 (SpF K R_stroke_pieces)) (K_meets_one_badly : Known P wd K mg base "meets_one_badly" 5 (SpF K R_meets_one_badly)) (K_is_one_too_many : Known P wd K mg base "is_one_too_many" 3 (SpF K R_is_one_too_many)) (K_is_point : Known P wd K mg base "is_point" 1 (SpF K R_is_point)) : FnOk P wd K mg base CX0 6 f fd ["points", "before"] (SpF K R_stroke_fault) := by
  refine fn_pure (k := 5) F sc_stroke_fault (by rintro _ _ ⟨s, l, _, _, _, _, rfl, _⟩; rfl) ?_
  rintro _ _ ⟨s, l, hpos, hl, hs, hll, rfl, rfl⟩ cdv A outer st H E hr
  unfold strokeFaultI
  have hsz : (65536 : Nat) ≤ sizeLine := by decide
  -- which = first_true([not is_point(point) for point in points])
  refine pps_next (pp1_set (d := optNat (firstI (s.map fun c => decide (4095 < max c.1 c.2)))) 2 sc_stroke_fault.nd (pp_call K_first_true (hr.mono (by decide)) (ppa_cons (pp_eq (pp_lc (lc_name (l := s) (enc := ptD) (f := fun c => .bl (!isPointI c)) 5 rfl sc_stroke_fault.nd (blkOk_by (by rfl)) (by omega) (ppi_list (pp_var 0 rfl)) ?_)) ?_) ppa_nil) ⟨s.map fun c => decide (4095 < max c.1 c.2), by rw [List.length_map]; omega, rfl, rfl⟩)) ?_
  · intro c hc s H C cl fp
    exact pp_not (pp_call K_is_point (hr.mono (by decide)) (ppa_cons (pp_var 5 rfl) ppa_nil) ⟨c, rfl, rfl⟩)
  · rw [filter_yes, List.map_map]
    congr 1
    apply List.map_congr_left
    intro c _
    show Da.bl (!isPointI c) = Da.bl (decide (4095 < max c.1 c.2))
    unfold isPointI
    rw [← decide_not]
    congr 1
    exact decide_eq_decide.mpr (by omega)
  cases h1 : firstI (s.map fun c => decide (4095 < max c.1 c.2)) with
  | some i =>
    exact pps_ifRet (t := true) (ppt_eq (ppt_notN (pp_var 2 rfl) pp_non) rfl) (fun _ => pps_one (pp1_ret (pp_tup (ppa_cons (pp_glob T.c_COORDINATE_TOO_LARGE) (ppa_cons (pp_var 2 rfl) ppa_nil))))) (fun h => by cases h)
  | none =>
  refine pps_ifRet (t := false) (ppt_eq (ppt_notN (pp_var 2 rfl) pp_non) rfl) (fun h => by cases h) fun _ => ?_
  have hsm : ∀ c ∈ s, Sm c := by
    intro c hc
    have h2 := List.findIdx?_eq_none_iff.mp h1 (decide (4095 < max c.1 c.2)) (List.mem_map_of_mem hc)
    have h3 := hpos c hc
    have h4 : ¬ 4095 < max c.1 c.2 := by simpa using h2
    unfold Sm
    omega
  have hps : ∀ p ∈ piecesI s, SmP p := fun p hp => by
    obtain ⟨ha, hb⟩ := List.of_mem_zip (a := p.1) (b := p.2) (show (p.1, p.2) ∈ s.zip s.tail from hp)
    exact ⟨hsm _ ha, hsm _ (List.mem_of_mem_tail hb)⟩
  have hpl : (piecesI s).length ≤ 64 := by
    unfold piecesI
    rw [List.length_zip, List.length_tail]
    omega
  -- which = first_true([one == other for one, other in stroke_pieces(points)])
  refine pps_next (pp1_set (d := optNat (firstI ((piecesI s).map fun p => decide (p.1 = p.2)))) 2 sc_stroke_fault.nd (pp_call K_first_true (hr.mono (by decide)) (ppa_cons (pp_eq (pp_lc (lc_pair (l := piecesI s) (e1 := fun p => ptD p.1) (e2 := fun p => ptD p.2) (f := fun p => .bl (decide (p.1 = p.2))) 6 7 rfl sc_stroke_fault.nd (blkOk_by (by rfl)) (by omega) (ppi_list (pp_call K_stroke_pieces (hr.mono (by decide)) (ppa_cons (pp_var 0 rfl) ppa_nil) ⟨s, by omega, rfl, rfl⟩)) ?_)) ?_) ppa_nil) ⟨(piecesI s).map fun p => decide (p.1 = p.2), by rw [List.length_map]; omega, rfl, rfl⟩)) ?_
  · intro p hp s H C cl fp
    exact pp_eqPt hr (pp_var 6 rfl) (pp_var 7 rfl)
  · rw [filter_yes, List.map_map]
    rfl
  dsimp only
  cases h2 : firstI ((piecesI s).map fun p => decide (p.1 = p.2)) with
  | some i =>
    exact pps_ifRet (t := true) (ppt_eq (ppt_notN (pp_var 2 rfl) pp_non) rfl) (fun _ => pps_one (pp1_ret (pp_eq (pp_tup (ppa_cons (pp_glob T.c_POINT_REPEATED) (ppa_cons (pp_add (pp_var 2 rfl) pp_int) ppa_nil))) rfl))) (fun h => by cases h)
  | none =>
  refine pps_ifRet (t := false) (ppt_eq (ppt_notN (pp_var 2 rfl) pp_non) rfl) (fun h => by cases h) fun _ => ?_
  -- pieces = before + stroke_pieces(points)
  refine pps_next (pp1_set (d := .lst ((l ++ piecesI s).map pcD)) 3 sc_stroke_fault.nd (pp_eq (pp_cat (by rw [List.length_map, List.length_map]; omega) (pp_var 1 rfl) (pp_call K_stroke_pieces (hr.mono (by decide)) (ppa_cons (pp_var 0 rfl) ppa_nil) ⟨s, by omega, rfl, rfl⟩)) (by rw [List.map_append]))) ?_
  dsimp only
  refine pps_ifRet (t := decide (64 < l.length + (piecesI s).length)) (ppt_eq (ppt_gt (pp_len T.b_len rfl (pp_var 3 rfl)) (pp_glob T.c_MOST_PIECES)) (by rw [List.length_map, List.length_append]; exact decide_eq_decide.mpr (by omega))) (fun h => ?_) (fun h => ?_)
  · rw [if_pos (by simpa using h)]
    exact pps_one (pp1_ret (pp_tup (ppa_cons (pp_glob T.c_TOO_MANY_PIECES) (ppa_cons pp_int ppa_nil))))
  rw [if_neg (by simpa using h)]
  -- added = list(range(len(before), len(pieces)))
  refine pps_next (pp1_set (d := .lst ((List.range (piecesI s).length).map fun j => .int ((l.length + j : Nat) : Int))) 4 sc_stroke_fault.nd (pp_eq (pp_listRange (i := (l.length : Int)) (j := (((l ++ piecesI s).length : Nat) : Int)) rfl T.b_list T.b_range (by rw [List.length_append]; omega) (by rw [List.length_append]; omega) (pp_eq (pp_len T.b_len rfl (pp_var 1 rfl)) (by rw [List.length_map])) (pp_eq (pp_len T.b_len rfl (pp_var 3 rfl)) (by rw [List.length_map]))) ?_)) ?_
  · unfold upFrom
    rw [List.length_append, show ((((l.length + (piecesI s).length : Nat) : Int)) - (l.length : Int)).toNat = (piecesI s).length by omega]
    congr 1
  have pcs : ∀ j, j < (piecesI s).length → (l ++ piecesI s)[l.length + j]? = some (pcAt (piecesI s) j) := fun j hj => by
    rw [List.getElem?_append_right (by omega), Nat.add_sub_cancel_left]
    unfold pcAt
    rw [List.getD_eq_getElem?_getD, List.getElem?_eq_getElem hj]
    rfl
  have itm : ∀ j, j < (piecesI s).length → L2.atI ((l ++ piecesI s).map pcD) ((l.length + j : Nat) : Int) = some (pcD (pcAt (piecesI s) j)) := fun j hj =>
    at_item (l.length + j) rfl (by rw [List.getElem?_map, pcs j hj]; rfl)
  have smA : ∀ q ∈ l ++ piecesI s, SmP q := fun q hq => (List.mem_append.mp hq).elim (hl q) (hps q)
  have tkl : ∀ j, ((l ++ piecesI s).take (l.length + j)).length ≤ 65536 := fun j => by
    rw [List.length_take, List.length_append]
    omega
  have cutE : ∀ j, cutD ((l ++ piecesI s).map pcD) none (some ((l.length + j : Nat) : Int)) = ((l ++ piecesI s).take (l.length + j)).map pcD := fun j => by
    rw [cut_head, List.map_take]
  -- which = first_true([meets_one_badly(pieces[number], pieces[:number]) for number in added])
  refine pps_next (pp1_set (d := optNat (firstNewI (fun p l => l.any fun q => badI p q) l (piecesI s))) 2 sc_stroke_fault.nd (pp_call K_first_true (hr.mono (by decide)) (ppa_cons (pp_eq (pp_lc (lc_name (l := List.range (piecesI s).length) (enc := fun j => .int ((l.length + j : Nat) : Int)) (f := fun j => .bl (((l ++ piecesI s).take (l.length + j)).any fun q => badI (pcAt (piecesI s) j) q)) 8 rfl sc_stroke_fault.nd (blkOk_by (by rfl)) (by rw [List.length_range]; omega) (ppi_list (pp_var 4 rfl)) ?_)) ?_) ppa_nil) ⟨(List.range (piecesI s).length).map fun j => ((l ++ piecesI s).take (l.length + j)).any fun q => badI (pcAt (piecesI s) j) q, by rw [List.length_map, List.length_range]; omega, rfl, rfl⟩)) ?_
  · intro j hj s' H C cl fp
    have hj := List.mem_range.mp hj
    exact pp_call K_meets_one_badly (hr.mono (by decide)) (ppa_cons (pp_ixL (itm j hj) (pp_var 3 rfl) (pp_var 8 rfl)) (ppa_cons (pp_eq (pp_slice (pp_var 3 rfl) ppo_none (ppo_some (pp_var 8 rfl))) (by rw [cutE])) ppa_nil)) ⟨pcAt (piecesI s) j, (l ++ piecesI s).take (l.length + j), hps _ (by
      unfold pcAt
      rw [List.getD_eq_getElem?_getD, List.getElem?_eq_getElem hj]
      exact List.getElem_mem hj), fun q hq => smA q (List.mem_of_mem_take hq), tkl j, rfl, rfl⟩
  · rw [filter_yes, List.map_map]
    rfl
  have addI : ∀ i, i < (piecesI s).length → L2.atI ((List.range (piecesI s).length).map fun j => Da.int ((l.length + j : Nat) : Int)) (i : Nat) = some (.int ((l.length + i : Nat) : Int)) := fun i hi =>
    at_item i rfl (by rw [List.getElem?_map, List.getElem?_range hi]; rfl)
  have newLt : ∀ (g : Pc → List Pc → Bool) (i : Nat), firstNewI g l (piecesI s) = some i → i < (piecesI s).length := fun g i h => by
    unfold firstNewI firstI at h
    have := (List.findIdx?_eq_some_iff_getElem.mp h).1
    simpa using this
  cases h3 : firstNewI (fun p l => l.any fun q => badI p q) l (piecesI s) with
  | some i =>
    exact pps_ifRet (t := true) (ppt_eq (ppt_notN (pp_var 2 rfl) pp_non) rfl) (fun _ => pps_one (pp1_ret (pp_tup (ppa_cons (pp_glob T.c_MEETS_BADLY) (ppa_cons (pp_ixL (addI i (newLt _ i h3)) (pp_var 4 rfl) (pp_var 2 rfl)) ppa_nil))))) (fun h => by cases h)
  | none =>
  refine pps_ifRet (t := false) (ppt_eq (ppt_notN (pp_var 2 rfl) pp_non) rfl) (fun h => by cases h) fun _ => ?_
  refine pps_next (pp1_set (d := optNat (firstNewI ninthI l (piecesI s))) 2 sc_stroke_fault.nd (pp_call K_first_true (hr.mono (by decide)) (ppa_cons (pp_eq (pp_lc (lc_name (l := List.range (piecesI s).length) (enc := fun j => .int ((l.length + j : Nat) : Int)) (f := fun j => .bl (ninthI (pcAt (piecesI s) j) ((l ++ piecesI s).take (l.length + j)))) 8 rfl sc_stroke_fault.nd (blkOk_by (by rfl)) (by rw [List.length_range]; omega) (ppi_list (pp_var 4 rfl)) ?_)) ?_) ppa_nil) ⟨(List.range (piecesI s).length).map fun j => ninthI (pcAt (piecesI s) j) ((l ++ piecesI s).take (l.length + j)), by rw [List.length_map, List.length_range]; omega, rfl, rfl⟩)) ?_
  · intro j hj s' H C cl fp
    have hj := List.mem_range.mp hj
    exact pp_call K_is_one_too_many (hr.mono (by decide)) (ppa_cons (pp_ixL (itm j hj) (pp_var 3 rfl) (pp_var 8 rfl)) (ppa_cons (pp_eq (pp_slice (pp_var 3 rfl) ppo_none (ppo_some (pp_var 8 rfl))) (by rw [cutE])) ppa_nil)) ⟨pcAt (piecesI s) j, (l ++ piecesI s).take (l.length + j), tkl j, rfl, rfl⟩
  · rw [filter_yes, List.map_map]
    rfl
  dsimp only
  cases h4 : firstNewI ninthI l (piecesI s) with
  | some i =>
    exact pps_ifRet (t := true) (ppt_eq (ppt_notN (pp_var 2 rfl) pp_non) rfl) (fun _ => pps_one (pp1_ret (pp_tup (ppa_cons (pp_glob T.c_NINTH_AT_POINT) (ppa_cons (pp_ixL (addI i (newLt _ i h4)) (pp_var 4 rfl) (pp_var 2 rfl)) ppa_nil))))) (fun h => by cases h)
  | none =>
    exact pps_ifRet (t := false) (ppt_eq (ppt_notN (pp_var 2 rfl) pp_non) rfl) (fun h => by cases h) fun _ => pps_one (pp1_ret pp_non)
theorem kn_stroke_fault {f : Addr} {fd : FuncData} (F : Fun K "stroke_fault" "stroke_fault" s_stroke_fault f fd) (hm : mg "stroke_fault" = some (.ref f)) (T : Top mg) (K_first_true : Known P wd K mg base "first_true" 1 (SpF K R_first_true)) (K_stroke_pieces : Known P wd K mg base "stroke_pieces" 1 (SpF K R_stroke_pieces)) (K_meets_one_badly : Known P wd K mg base "meets_one_badly" 5 (SpF K R_meets_one_badly)) (K_is_one_too_many : Known P wd K mg base "is_one_too_many" 3 (SpF K R_is_one_too_many)) (K_is_point : Known P wd K mg base "is_point" 1 (SpF K R_is_point)) : Known P wd K mg base "stroke_fault" 6 (SpF K R_stroke_fault) :=
  known_of F hm (F.binds (ps := ["points", "before"]) fun _ _ _ _ _ _ us hl => match us, hl with | [_, _], _ => rfl) (ok_stroke_fault F T K_first_true K_stroke_pieces K_meets_one_badly K_is_one_too_many K_is_point)
theorem sc_fault_of : FnScope ["t", "lines", "pieces", "number", "points", "fault"] ["t"] (defScope s_fault_of) := ⟨rfl, rfl, rfl, by decide +kernel, rfl, by decide +kernel, by decide +kernel⟩
theorem ok_fault_of {f : Addr} {fd : FuncData} (F : Fun K "fault_of" "fault_of" s_fault_of f fd) (T : Top mg) (K_lines_of : Known P wd K mg base "lines_of" 2 (SpF K R_lines_of)) (K_is_sign_line : Known P wd K mg base "is_sign_line" 3 (SpF K R_is_sign_line)) (K_points_of : Known P wd K mg base "points_of" 4 (SpF K R_points_of)) (K_stroke_fault : Known P wd K mg base "stroke_fault" 6 (SpF K R_stroke_fault)) (K_stroke_pieces : Known P wd K mg base "stroke_pieces" 1 (SpF K R_stroke_pieces)) : FnOk P wd K mg base CX0 7 f fd ["t"] (SpF K R_fault_of) := by
  refine fn_pure (k := 6) F sc_fault_of (by rintro _ _ ⟨t, _, rfl, _⟩; rfl) ?_
  rintro _ _ ⟨t, ht, rfl, rfl⟩ cdv A outer s H E hr
  refine pps_next (pp1_set (d := .lst ((linesI t).map linD)) 1 sc_fault_of.nd (pp_call K_lines_of (hr.mono (by decide)) (ppa_cons (pp_var 0 rfl) ppa_nil) ⟨t, ht, rfl, rfl⟩)) ?_
  have hsub : ∀ u ∈ linesI t, u.length ≤ 65536 := lines_short ht
  have hcount : (linesI t).length ≤ 65538 := lines_few ht
  unfold faultI
  match hL : linesI t with
  | [] => exact absurd hL (lines_ne t)
  | l0 :: rest =>
    have h0 := hsub l0 (by rw [hL]; simp)
    rw [hL] at hcount hsub
    refine pps_ifRet (ppt_not (ppt_val (pp_call K_is_sign_line (hr.mono (by decide)) (ppa_cons (pp_l0 (pp_var 1 rfl)) ppa_nil) ⟨l0, h0, rfl, rfl⟩))) (fun h => ?_) (fun h => ?_)
    · dsimp only
      rw [if_neg (by intro q; rw [q] at h; cases h)]
      exact pps_one (pp1_ret (pp_tup (ppa_cons (pp_glob T.c_WRONG_LINE) (ppa_cons pp_int (ppa_cons pp_int ppa_nil)))))
    · dsimp only
      rw [if_pos (by simpa using h)]
      refine pps_next (pp1_own (ds := []) 2 sc_fault_of.nd (ppn_lst ppa_nil)) ?_
      have hln : (((l0 :: rest).map linD).length : Nat) = rest.length + 1 := by simp
      have hrange : upFrom 1 ((((rest.length + 1 : Nat) : Int)) - 1).toNat = (List.range rest.length).map fun (k : Nat) => Da.int ((1 + k : Nat) : Int) := by
        unfold upFrom
        rw [show ((((rest.length + 1 : Nat) : Int)) - 1).toNat = rest.length by omega]
        apply List.map_congr_left
        intro k _
        rw [Int.natCast_add]
        rfl
      have hds : ∀ (i : Nat) (d : Da), ((List.range rest.length).map fun (k : Nat) => Da.int ((1 + k : Nat) : Int))[i]? = some d → i < rest.length ∧ d = .int ((1 + i : Nat) : Int) := by
        intro i d hd
        rw [List.getElem?_map] at hd
        obtain ⟨j, hj, rfl⟩ := Option.map_eq_some_iff.mp hd
        obtain ⟨g1, g2⟩ := List.getElem?_eq_some_iff.mp hj
        rw [List.getElem_range] at g2
        subst g2
        rw [List.length_range] at g1
        exact ⟨g1, rfl⟩
      have itm : ∀ (i : Nat) (u : List Int), rest[i]? = some u → L2.atI ((l0 :: rest).map linD) ((1 + i : Nat) : Int) = some (linD u) := fun i u hu =>
        at_item (1 + i) rfl (by rw [List.getElem?_map, Nat.add_comm 1 i, List.getElem?_cons_succ, hu]; rfl)
      have hmem : ∀ (i : Nat) (u : List Int), rest[i]? = some u → u.length ≤ 65536 := fun i u hu => hsub u (List.mem_cons_of_mem _ (List.mem_of_getElem? hu))
      have hv : ∀ (ps : List Pc) (i j : Nat) (us : List Da), ([.val (.arg t), .val (.lst ((l0 :: rest).map linD)), .own (ps.map pcD), .val (.int ((1 + i : Nat) : Int)), .no, .no] : Rho)[j]? = some (.own us) → j ∉ [3] ∧ ([.val (.arg t), .val (.lst ((l0 :: rest).map linD)), .own (ps.map pcD), .no, .no, .no] : Rho)[j]? = some (.own us) := by
        intro ps i j us h
        match j, h with
        | 0, h => cases h
        | 1, h => cases h
        | 2, h => exact ⟨by decide, h⟩
        | 3, h => cases h
        | 4, h => cases h
        | 5, h => cases h
      have iter : PPi (cxOf CX0 P wd K mg base ["t", "lines", "pieces", "number", "points", "fault"] "fault_of" (defScope s_fault_of) f cdv A outer s H E).nox [.val (.arg t), .val (.lst ((l0 :: rest).map linD)), .own (([] : List Pc).map pcD), .no, .no, .no] (forTg (stAt (defBody s_fault_of) 3)) (forIt (stAt (defBody s_fault_of) 3)) ((List.range rest.length).map fun (k : Nat) => Da.int ((1 + k : Nat) : Int)) :=
        ppi_eq (ppi_range2 (i := 1) (j := ((rest.length + 1 : Nat) : Int)) T.b_range (by simp at hcount; omega) pp_int (pp_eq (pp_len T.b_len rfl (pp_var 1 rfl)) (by rw [hln]))) hrange
      have goes : ∀ (i : Nat), i < rest.length → Goes [] rest i → SmAll (pastAt [] rest i) → PPs (cxOf CX0 P wd K mg base ["t", "lines", "pieces", "number", "points", "fault"] "fault_of" (defScope s_fault_of) f cdv A outer s H E).nox [.val (.arg t), .val (.lst ((l0 :: rest).map linD)), .own ((pastAt [] rest i).map pcD), .val (.int ((1 + i : Nat) : Int)), .no, .no] (forBody (stAt (defBody s_fault_of) 3)) (.next [.val (.arg t), .val (.lst ((l0 :: rest).map linD)), .own ((pastAt [] rest (i + 1)).map pcD), .no, .no, .no]) := by
        rintro i hi ⟨u, sk, hu, hp, hf⟩ ⟨sm, few⟩
        have nn := points_nonneg hp
        have e1 : ptsOf u = sk := by unfold ptsOf; rw [hp]; rfl
        have e2 := pastAt_succ (past := []) hu
        rw [e1] at e2
        refine pps_eq (pps_weak 3 (pps_weak 4 (pps_weak 5 (pps_next (pp1_set (d := .lst (sk.map ptD)) 4 sc_fault_of.nd (pp_eq (pp_call K_points_of (hr.mono (by decide)) (ppa_cons (pp_ixL (itm i u hu) (pp_var 1 rfl) (pp_var 3 rfl)) ppa_nil) ⟨u, hmem i u hu, rfl, rfl⟩) (by rw [hp]; rfl))) (pps_next (pp1_if (t := false) (ppt_eq (ppt_isN (pp_var 4 rfl) pp_non) rfl) (fun h => by cases h) (fun _ => pps_nil)) (pps_next (pp1_set (d := .non) 5 sc_fault_of.nd (pp_lend 2 rfl rfl (pp_eq (pp_call K_stroke_fault (hr.mono (by decide)) (ppa_cons (pp_var 4 rfl) (ppa_cons (pp_var 2 rfl) ppa_nil)) ⟨sk, pastAt [] rest i, nn.1, sm, nn.2, few, rfl, rfl⟩) (by rw [hf]; rfl)))) (pps_next (pp1_if (t := false) (ppt_eq (ppt_notN (pp_var 5 rfl) pp_non) rfl) (fun h => by cases h) (fun _ => pps_nil)) (pps_one (pp1_extend (us := (piecesI sk).map pcD) 2 rfl ?_ (pp_call K_stroke_pieces (hr.mono (by decide)) (ppa_cons (pp_var 4 rfl) ppa_nil) ⟨sk, by omega, rfl, rfl⟩)))))))))) ?_
        · rw [List.length_map, List.length_map]
          have : (piecesI sk).length ≤ 64 := by
            unfold piecesI
            rw [List.length_zip, List.length_tail]
            omega
          exact Nat.le_trans (Nat.add_le_add few this) (by decide)
        · rw [e2, List.map_append]
          rfl
      rcases loop_cases rest 1 [] with ⟨h1, h2⟩ | ⟨k, x, u, h1, h2, h3, h4⟩
      · rw [h1]
        refine pps_next (pp1_for (vs := [3]) (fun i => [.val (.arg t), .val (.lst ((l0 :: rest).map linD)), .own ((pastAt [] rest i).map pcD), .no, .no, .no]) (fun i => [.val (.arg t), .val (.lst ((l0 :: rest).map linD)), .own ((pastAt [] rest i).map pcD), .val (.int ((1 + i : Nat) : Int)), .no, .no]) rfl PassesOwn.never (by rw [pastAt_zero]; rfl) iter (pg_name (i := 3) sc_fault_of.nd rfl (Or.inl rfl)) (fun i d hd => ?_) (fun i j us h => hv _ i j us h) (fun i d hd => ?_)) ?_
        · obtain ⟨g1, rfl⟩ := hds i d hd
          exact tg_name 3
        · obtain ⟨g1, rfl⟩ := hds i d hd
          exact goes i g1 (h2 i g1) (goes_sm fun j hj => h2 j (by omega))
        · exact pps_one (pp1_ret pp_non)
      · rw [h1]
        have hk := (List.getElem?_eq_some_iff.mp h2).1
        have smk := goes_sm h3
        refine pps_ret (pp1_forRet (vs := [3]) k (fun i => [.val (.arg t), .val (.lst ((l0 :: rest).map linD)), .own ((pastAt [] rest i).map pcD), .no, .no, .no]) (fun i => [.val (.arg t), .val (.lst ((l0 :: rest).map linD)), .own ((pastAt [] rest i).map pcD), .val (.int ((1 + i : Nat) : Int)), .no, .no]) rfl PassesOwn.never (by rw [pastAt_zero]; rfl) (by rw [List.length_map, List.length_range]; exact hk) iter (pg_name (i := 3) sc_fault_of.nd rfl (Or.inl rfl)) (fun i d _ hd => ?_) (fun i j us h => hv _ i j us h) (fun i d hi hd => ?_) ?_)
        · obtain ⟨g1, rfl⟩ := hds i d hd
          exact tg_name 3
        · obtain ⟨g1, rfl⟩ := hds i d hd
          exact goes i g1 (h3 i hi) (goes_sm fun j hj => h3 j (by omega))
        · rcases h4 with ⟨h5, rfl⟩ | ⟨sk, e, h5, h6, rfl⟩
          · exact pps_next (pp1_set (d := .non) 4 sc_fault_of.nd (pp_eq (pp_call K_points_of (hr.mono (by decide)) (ppa_cons (pp_ixL (itm k u h2) (pp_var 1 rfl) (pp_var 3 rfl)) ppa_nil) ⟨u, hmem k u h2, rfl, rfl⟩) (by rw [h5]; rfl))) (pps_ifRet (t := true) (ppt_eq (ppt_isN (pp_var 4 rfl) pp_non) rfl) (fun _ => pps_one (pp1_ret (pp_tup (ppa_cons (pp_glob T.c_WRONG_LINE) (ppa_cons (pp_var 3 rfl) (ppa_cons pp_int ppa_nil)))))) (fun h => by cases h))
          · have nn := points_nonneg h5
            exact pps_next (pp1_set (d := .lst (sk.map ptD)) 4 sc_fault_of.nd (pp_eq (pp_call K_points_of (hr.mono (by decide)) (ppa_cons (pp_ixL (itm k u h2) (pp_var 1 rfl) (pp_var 3 rfl)) ppa_nil) ⟨u, hmem k u h2, rfl, rfl⟩) (by rw [h5]; rfl))) (pps_ifRet (t := false) (ppt_eq (ppt_isN (pp_var 4 rfl) pp_non) rfl) (fun h => by cases h) fun _ =>
              pps_next (pp1_set (d := .tup [.int (e.1 : Nat), .int (e.2 : Nat)]) 5 sc_fault_of.nd (pp_lend 2 rfl rfl (pp_eq (pp_call K_stroke_fault (hr.mono (by decide)) (ppa_cons (pp_var 4 rfl) (ppa_cons (pp_var 2 rfl) ppa_nil)) ⟨sk, pastAt [] rest k, nn.1, smk.1, nn.2, smk.2, rfl, rfl⟩) (by rw [h6]; rfl)))) (pps_ifRet (t := true) (ppt_eq (ppt_notN (pp_var 5 rfl) pp_non) rfl) (fun _ => pps_one (pp1_ret (pp_tup (ppa_cons (pp_t0 (pp_var 5 rfl)) (ppa_cons (pp_var 3 rfl) (ppa_cons (pp_t1 (pp_var 5 rfl)) ppa_nil)))))) (fun h => by cases h)))
theorem kn_fault_of {f : Addr} {fd : FuncData} (F : Fun K "fault_of" "fault_of" s_fault_of f fd) (hm : mg "fault_of" = some (.ref f)) (T : Top mg) (K_lines_of : Known P wd K mg base "lines_of" 2 (SpF K R_lines_of)) (K_is_sign_line : Known P wd K mg base "is_sign_line" 3 (SpF K R_is_sign_line)) (K_points_of : Known P wd K mg base "points_of" 4 (SpF K R_points_of)) (K_stroke_fault : Known P wd K mg base "stroke_fault" 6 (SpF K R_stroke_fault)) (K_stroke_pieces : Known P wd K mg base "stroke_pieces" 1 (SpF K R_stroke_pieces)) : Known P wd K mg base "fault_of" 7 (SpF K R_fault_of) :=
  known_of F hm (F.binds (ps := ["t"]) fun _ _ _ _ _ _ us hl => match us, hl with | [_], _ => rfl) (ok_fault_of F T K_lines_of K_is_sign_line K_points_of K_stroke_fault K_stroke_pieces)
theorem sc_judge : FnScope ["t", "fault"] ["t"] (defScope s_judge) := ⟨rfl, rfl, rfl, by decide +kernel, rfl, by decide +kernel, by decide +kernel⟩
theorem ok_judge {f : Addr} {fd : FuncData} (F : Fun K "judge" "judge" s_judge f fd) (T : Top mg) (K_fault_of : Known P wd K mg base "fault_of" 7 (SpF K R_fault_of)) : FnOk P wd K mg base CX0 8 f fd ["t"] (SpF K R_judge) := by
  refine fn_pure (k := 7) F sc_judge (by rintro _ _ ⟨t, rfl, _⟩; rfl) ?_
  rintro _ _ ⟨t, rfl, rfl⟩ cdv A outer s H E hr
  unfold judgeM
  refine pps_ifRet (t := decide (65536 < t.length)) (ppt_eq (ppt_gt (pp_len T.b_len rfl (pp_var 0 rfl)) (pp_glob T.c_LONGEST_TEXT)) (decide_eq_decide.mpr (by omega))) (fun h => ?_) (fun h => ?_)
  · rw [if_pos (by simpa using h)]
    exact pps_one (pp1_ret (pp_lst (ppa_cons (pp_glob T.c_TOO_LONG) ppa_nil)))
  · have ht : t.length ≤ 65536 := by simp at h; omega
    rw [if_neg (by omega)]
    refine pps_next (pp1_set (d := optThree (faultI t)) 1 sc_judge.nd (pp_call K_fault_of (hr.mono (by decide)) (ppa_cons (pp_var 0 rfl) ppa_nil) ⟨t, ht, rfl, rfl⟩)) ?_
    cases faultI t with
    | none => exact pps_ifRet (t := true) (ppt_eq (ppt_isN (pp_var 1 rfl) pp_non) rfl) (fun _ => pps_one (pp1_ret (pp_lst (ppa_cons pp_int ppa_nil)))) (fun h => by cases h)
    | some e => exact pps_ifRet (t := false) (ppt_eq (ppt_isN (pp_var 1 rfl) pp_non) rfl) (fun h => by cases h) fun _ => pps_one (pp1_ret (pp_eq (pp_cat (by show 1 + 3 ≤ sizeLine; decide) (pp_lst (ppa_cons (pp_glob T.c_NO_DRAWING) ppa_nil)) (pp_listOf (ds := [.int (e.1 : Nat), .int (e.2.1 : Nat), .int (e.2.2 : Nat)]) T.b_list bt_list rfl (pp_var 1 rfl))) rfl))
theorem kn_judge {f : Addr} {fd : FuncData} (F : Fun K "judge" "judge" s_judge f fd) (hm : mg "judge" = some (.ref f)) (T : Top mg) (K_fault_of : Known P wd K mg base "fault_of" 7 (SpF K R_fault_of)) : Known P wd K mg base "judge" 8 (SpF K R_judge) :=
  known_of F hm (F.binds (ps := ["t"]) fun _ _ _ _ _ _ us hl => match us, hl with | [_], _ => rfl) (ok_judge F T K_fault_of)
theorem sc_text_refusal : FnScope ["t", "verdict"] ["t"] (defScope s_text_refusal) := ⟨rfl, rfl, rfl, by decide +kernel, rfl, by decide +kernel, by decide +kernel⟩
theorem ok_text_refusal {f : Addr} {fd : FuncData} (F : Fun K "text_refusal" "text_refusal" s_text_refusal f fd) (T : Top mg) (K_judge : Known P wd K mg base "judge" 8 (SpF K R_judge)) : FnOk P wd K mg base CX0 9 f fd ["t"] (SpF K R_text_refusal) := by
  refine fn_pure (k := 8) F sc_text_refusal (by rintro _ _ ⟨t, rfl, _⟩; rfl) ?_
  rintro _ _ ⟨t, rfl, rfl⟩ cdv A outer s H E hr
  refine pps_next (pp1_set (d := .lst ((judgeM t).map Da.int)) 1 sc_text_refusal.nd (pp_call K_judge (hr.mono (by decide)) (ppa_cons (pp_var 0 rfl) ppa_nil) ⟨t, rfl, rfl⟩)) ?_
  unfold judgeM refusalI
  by_cases hl : 65536 < t.length
  · rw [if_pos hl, if_pos hl]
    exact pps_ifRet (t := false) (ppt_eq (ppt_eqI (pp_l0 (pp_var 1 rfl)) pp_int) rfl) (fun h => by cases h) fun _ => pps_one (pp1_ret (pp_eq (pp_slice (pp_var 1 rfl) ppo_none (ppo_some pp_int)) rfl))
  · rw [if_neg hl, if_neg hl]
    cases faultI t with
    | none => exact pps_ifRet (t := true) (ppt_eq (ppt_eqI (pp_l0 (pp_var 1 rfl)) pp_int) rfl) (fun _ => pps_one (pp1_ret pp_non)) (fun h => by cases h)
    | some e => exact pps_ifRet (t := false) (ppt_eq (ppt_eqI (pp_l0 (pp_var 1 rfl)) pp_int) rfl) (fun h => by cases h) fun _ => pps_one (pp1_ret (pp_eq (pp_slice (pp_var 1 rfl) ppo_none (ppo_some pp_int)) rfl))
theorem kn_text_refusal {f : Addr} {fd : FuncData} (F : Fun K "text_refusal" "text_refusal" s_text_refusal f fd) (hm : mg "text_refusal" = some (.ref f)) (T : Top mg) (K_judge : Known P wd K mg base "judge" 8 (SpF K R_judge)) : Known P wd K mg base "text_refusal" 9 (SpF K R_text_refusal) :=
  known_of F hm (F.binds (ps := ["t"]) fun _ _ _ _ _ _ us hl => match us, hl with | [_], _ => rfl) (ok_text_refusal F T K_judge)
theorem sc_strokes_of : FnScope ["t", "line"] ["t"] (defScope s_strokes_of) := ⟨rfl, rfl, rfl, by decide +kernel, rfl, by decide +kernel, by decide +kernel⟩
theorem ok_strokes_of {f : Addr} {fd : FuncData} (F : Fun K "strokes_of" "strokes_of" s_strokes_of f fd) (T : Top mg) (K_points_of : Known P wd K mg base "points_of" 4 (SpF K R_points_of)) (K_lines_of : Known P wd K mg base "lines_of" 2 (SpF K R_lines_of)) : FnOk P wd K mg base CX0 5 f fd ["t"] (SpF K R_strokes_of) := by
  refine fn_pure (k := 4) F sc_strokes_of (by rintro _ _ ⟨t, _, rfl, _⟩; rfl) ?_
  rintro _ _ ⟨t, good, rfl, rfl⟩ cdv A outer s H E hr
  have hsub : ∀ u ∈ (linesI t).tail, u.length ≤ 65536 := fun u hu => lines_short good.len u (List.mem_of_mem_tail hu)
  refine pps_one (pp1_ret (pp_eq (pp_lc (lc_name (l := (linesI t).tail) (enc := linD) (f := fun u => optPts (pointsI u)) 1 rfl sc_strokes_of.nd (blkOk_by (by rfl)) ?_ (ppi_list (pp_eq (pp_slice (pp_call K_lines_of (hr.mono (by decide)) (ppa_cons (pp_var 0 rfl) ppa_nil) ⟨t, good.len, rfl, rfl⟩) (ppo_some pp_int) ppo_none) ?_)) ?_)) ?_))
  · rw [List.length_tail]
    exact Nat.le_trans (Nat.sub_le _ _) (Nat.le_trans (lines_few good.len) (by decide))
  · rw [cut_tail', List.map_tail]
  · intro u hu s H C cl fp
    exact pp_call K_points_of (hr.mono (by decide)) (ppa_cons (pp_var 1 rfl) ppa_nil) ⟨u, hsub u hu, rfl, rfl⟩
  · rw [filter_yes, strokes_tail good]
theorem kn_strokes_of {f : Addr} {fd : FuncData} (F : Fun K "strokes_of" "strokes_of" s_strokes_of f fd) (hm : mg "strokes_of" = some (.ref f)) (T : Top mg) (K_points_of : Known P wd K mg base "points_of" 4 (SpF K R_points_of)) (K_lines_of : Known P wd K mg base "lines_of" 2 (SpF K R_lines_of)) : Known P wd K mg base "strokes_of" 5 (SpF K R_strokes_of) :=
  known_of F hm (F.binds (ps := ["t"]) fun _ _ _ _ _ _ us hl => match us, hl with | [_], _ => rfl) (ok_strokes_of F T K_points_of K_lines_of)
theorem sc_pieces_of : FnScope ["strokes", "pieces", "points"] ["strokes"] (defScope s_pieces_of) := ⟨rfl, rfl, rfl, by decide +kernel, rfl, by decide +kernel, by decide +kernel⟩
theorem ok_pieces_of {f : Addr} {fd : FuncData} (F : Fun K "pieces_of" "pieces_of" s_pieces_of f fd) (T : Top mg) (K_stroke_pieces : Known P wd K mg base "stroke_pieces" 1 (SpF K R_stroke_pieces)) : FnOk P wd K mg base CX0 2 f fd ["strokes"] (SpF K R_pieces_of) := by
  refine fn_pure (k := 1) F sc_pieces_of (by rintro _ _ ⟨ss, _, _, _, rfl, _⟩; rfl) ?_
  rintro _ _ ⟨ss, hshort, hfew, hmany, rfl, rfl⟩ cdv A outer s H E hr
  refine pps_next (pp1_own (ds := []) 1 sc_pieces_of.nd (ppn_lst ppa_nil)) ?_
  refine pps_next (pp1_for (vs := [2]) (fun i => [.val (.lst (ss.map strD)), .own (((ss.take i).flatMap piecesI).map pcD), .no]) (fun i => [.val (.lst (ss.map strD)), .own (((ss.take i).flatMap piecesI).map pcD), .val (strD (ss.getD i []))]) rfl PassesOwn.never rfl (ppi_list (pp_var 0 rfl)) (pg_name (i := 2) sc_pieces_of.nd rfl (Or.inl rfl)) (fun i d hd => ?_) (fun i j us h => ?_) (fun i d hd => ?_)) ?_
  · rw [List.getElem?_map] at hd
    obtain ⟨sk, hk, rfl⟩ := Option.map_eq_some_iff.mp hd
    have e : ss.getD i [] = sk := by rw [List.getD_eq_getElem?_getD, hk]; rfl
    rw [e]
    exact tg_name 2
  · match j, h with
    | 0, h => cases h
    | 1, h => exact ⟨by decide, h⟩
    | 2, h => cases h
  · rw [List.getElem?_map] at hd
    obtain ⟨sk, hk, rfl⟩ := Option.map_eq_some_iff.mp hd
    have e : ss.getD i [] = sk := by rw [List.getD_eq_getElem?_getD, hk]; rfl
    have e2 : (ss.take (i + 1)).flatMap piecesI = (ss.take i).flatMap piecesI ++ piecesI sk := by
      rw [take_snoc hk, List.flatMap_append]
      simp
    have hl : ((ss.take i).flatMap piecesI).length + (piecesI sk).length ≤ 64 := by
      have := flat_len (ss := ss) (i + 1)
      rw [e2, List.length_append] at this
      omega
    have hs : sk.length ≤ 65536 := Nat.le_trans (hshort sk (List.mem_of_getElem? hk)) (by decide)
    rw [e]
    refine pps_eq (pps_weak 2 (pps_one (pp1_extend (us := (piecesI sk).map pcD) 1 rfl ?_ (pp_call K_stroke_pieces (hr.mono (by decide)) (ppa_cons (pp_var 2 rfl) ppa_nil) ⟨sk, hs, rfl, rfl⟩)))) ?_
    · rw [List.length_map, List.length_map]
      exact Nat.le_trans hl (by decide)
    · rw [e2, List.map_append]
      rfl
  · rw [List.length_map, List.take_length]
    exact pps_one (pp1_retOwn 1 rfl)
theorem kn_pieces_of {f : Addr} {fd : FuncData} (F : Fun K "pieces_of" "pieces_of" s_pieces_of f fd) (hm : mg "pieces_of" = some (.ref f)) (T : Top mg) (K_stroke_pieces : Known P wd K mg base "stroke_pieces" 1 (SpF K R_stroke_pieces)) : Known P wd K mg base "pieces_of" 2 (SpF K R_pieces_of) :=
  known_of F hm (F.binds (ps := ["strokes"]) fun _ _ _ _ _ _ us hl => match us, hl with | [_], _ => rfl) (ok_pieces_of F T K_stroke_pieces)
theorem sc_least_mates : FnScope ["pieces", "least", "number", "piece", "touched", "lowest", "k", "mate"] ["pieces"] (defScope s_least_mates) := ⟨rfl, rfl, rfl, by decide +kernel, rfl, by decide +kernel, by decide +kernel⟩
theorem ok_least_mates {f : Addr} {fd : FuncData} (F : Fun K "least_mates" "least_mates" s_least_mates f fd) (T : Top mg) (K_shares_end : Known P wd K mg base "shares_end" 1 (SpF K R_shares_end)) : FnOk P wd K mg base CX0 2 f fd ["pieces"] (SpF K R_least_mates) := by
  refine fn_pure (k := 1) F sc_least_mates (by rintro _ _ ⟨l, _, rfl, _⟩; rfl) ?_
  rintro _ _ ⟨l, hlen, rfl, rfl⟩ cdv A outer s H E hr
  have hds : ∀ (i : Nat) (d : Da), (numbered (l.map pcD))[i]? = some d → i < l.length ∧ d = .tup [.int (i : Nat), pcD (pcAt l i)] := by
    intro i d hd
    rw [numbered_eq pcD ((0, 0), (0, 0)) l, List.getElem?_map] at hd
    obtain ⟨j, hj, rfl⟩ := Option.map_eq_some_iff.mp hd
    obtain ⟨h1, h2⟩ := List.getElem?_eq_some_iff.mp hj
    rw [List.getElem_range] at h2
    subst h2
    rw [List.length_range] at h1
    exact ⟨h1, rfl⟩
  refine pps_next (pp1_set (d := .lst []) 1 sc_least_mates.nd (pp_lst ppa_nil)) ?_
  refine pps_next (pp1_for (vs := [2, 3]) (fun i => [.val (.lst (l.map pcD)), .val (.lst ((leastI l i).map natD)), .no, .no, .no, .no, .no, .no]) (fun i => [.val (.lst (l.map pcD)), .val (.lst ((leastI l i).map natD)), .val (.int (i : Nat)), .val (pcD (pcAt l i)), .no, .no, .no, .no]) rfl PassesOwn.never rfl (ppi_enum T.b_enumerate (pp_var 0 rfl)) (pg_tup rfl (pgs_cons (pg_name (i := 2) sc_least_mates.nd rfl (Or.inl rfl)) (pgs_cons (pg_name (i := 3) sc_least_mates.nd rfl (Or.inr rfl)) pgs_nil))) (fun i d hd => ?_) (fun i j us h => ?_) (fun i d hd => ?_)) ?_
  · obtain ⟨h1, rfl⟩ := hds i d hd
    exact tg_pair 2 3
  · have := NoOwn.of (ρ := [.val (.lst (l.map pcD)), .val (.lst ((leastI l i).map natD)), .val (.int (i : Nat)), .val (pcD (pcAt l i)), .no, .no, .no, .no]) rfl
    exact absurd h (this j us)
  · obtain ⟨h1, rfl⟩ := hds i d hd
    have big : (64 : Nat) ≤ sizeLine := by decide
    have e1 : ((List.range i).filter fun k => shareI (pcAt l i) (pcAt l k)).map (fun k => natD ((leastI l i).getD k 0)) = (touchI l i).map natD := by
      unfold touchI
      rw [List.map_map]
      rfl
    refine pps_eq (pps_weak 2 (pps_weak 3 (pps_weak 4 (pps_weak 5 (ρ' := [.val (.lst (l.map pcD)), .val (.lst ((leastI l (i + 1)).map natD)), .val (.int (i : Nat)), .val (pcD (pcAt l i)), .val (.lst ((touchI l i).map natD)), .val (natD (lowI l i)), .no, .no]) ?_)))) rfl
    refine pps_next (pp1_set (d := .lst ((touchI l i).map natD)) 4 sc_least_mates.nd (pp_eq (pp_lc (lc_nameIf (l := List.range i) (enc := natD) (f := fun k => natD ((leastI l i).getD k 0)) (b := fun k => shareI (pcAt l i) (pcAt l k)) 6 rfl sc_least_mates.nd (blkOk_by (by rfl)) (by rw [List.length_range]; omega) (ppi_eq (ppi_range1 T.b_range (by omega) (pp_var 2 rfl)) ?_) ?_ ?_)) (congrArg Da.lst e1))) ?_
    · unfold upFrom
      simp
    · intro k hk s H C cl fp
      have hk' := List.mem_range.mp hk
      exact ppt_val (pp_call K_shares_end (hr.mono (by decide)) (ppa_cons (pp_var 3 rfl) (ppa_cons (pp_ixL (atI_nat ((0, 0), (0, 0)) (by omega)) (pp_var 0 rfl) (pp_var 6 rfl)) ppa_nil)) ⟨pcAt l i, pcAt l k, rfl, rfl⟩)
    · intro k hk hb s H C cl fp
      have hk' := List.mem_range.mp hk
      exact pp_ixL (atI_nat 0 (by rw [least_len]; omega)) (pp_var 1 rfl) (pp_var 6 rfl)
    · refine pps_next (pp1_set (d := natD (lowI l i)) 5 sc_least_mates.nd (pp_eq (pp_minD (ns := (touchI l i).map fun (n : Nat) => (n : Int)) (d := (i : Nat)) rfl T.b_min (pp_eq (pp_var 4 rfl) (by rw [natD_ints])) (pp_var 2 rfl)) (by rw [minD_nat]; rfl))) ?_
      refine pps_one (pp1_set (d := .lst ((leastI l (i + 1)).map natD)) 1 sc_least_mates.nd (pp_eq (pp_cat ?_ (pp_lc (lc_name (l := leastI l i) (enc := natD) (f := fun m => natD (if m ∈ touchI l i then lowI l i else m)) 7 rfl sc_least_mates.nd (blkOk_by (by rfl)) (by rw [least_len]; omega) (ppi_list (pp_var 1 rfl)) ?_)) (pp_lst (ds := [natD (lowI l i)]) (ppa_cons (pp_var 5 rfl) ppa_nil))) ?_))
      · rw [filter_yes, List.length_map, least_len]
        show i + 1 ≤ _
        omega
      · intro m hm s H C cl fp
        refine pp_ifExp (t := decide (m ∈ touchI l i)) (ppt_eq (ppt_in (ds := (touchI l i).map natD) hr rfl rfl (fit_nats _) (pp_var 7 rfl) (pp_var 4 rfl)) (in_nats m _)) (fun h => ?_) (fun h => ?_)
        · rw [if_pos (of_decide_eq_true h)]
          exact pp_var 5 rfl
        · rw [if_neg (of_decide_eq_false h)]
          exact pp_var 7 rfl
      · rw [filter_yes, least_step, List.map_append, List.map_map]
        rfl
  · refine pps_one (pp1_ret (pp_eq (pp_var 1 rfl) ?_))
    rw [numbered_eq pcD ((0, 0), (0, 0)) l, List.length_map, List.length_range]
    rfl
theorem kn_least_mates {f : Addr} {fd : FuncData} (F : Fun K "least_mates" "least_mates" s_least_mates f fd) (hm : mg "least_mates" = some (.ref f)) (T : Top mg) (K_shares_end : Known P wd K mg base "shares_end" 1 (SpF K R_shares_end)) : Known P wd K mg base "least_mates" 2 (SpF K R_least_mates) :=
  known_of F hm (F.binds (ps := ["pieces"]) fun _ _ _ _ _ _ us hl => match us, hl with | [_], _ => rfl) (ok_least_mates F T K_shares_end)
theorem sc_part : FnScope ["i", "t", "refusal", "pieces", "least", "parts", "k"] ["i", "t"] (defScope s_part) := ⟨rfl, rfl, rfl, by decide +kernel, rfl, by decide +kernel, by decide +kernel⟩
theorem ok_part {f : Addr} {fd : FuncData} (F : Fun K "part" "part" s_part f fd) (T : Top mg) (K_text_refusal : Known P wd K mg base "text_refusal" 9 (SpF K R_text_refusal)) (K_pieces_of : Known P wd K mg base "pieces_of" 2 (SpF K R_pieces_of)) (K_least_mates : Known P wd K mg base "least_mates" 2 (SpF K R_least_mates)) (K_strokes_of : Known P wd K mg base "strokes_of" 5 (SpF K R_strokes_of)) : FnOk P wd K mg base CX0 10 f fd ["i", "t"] (SpF K R_part) := by
  refine fn_pure (k := 9) F sc_part (by rintro _ _ ⟨j, bs, _, rfl, _⟩; rfl) ?_
  rintro _ _ ⟨j, bs, hj, rfl, rfl⟩ cdv A outer s H E hr
  refine pps_next (pp1_set (d := optList (refusalI (bs.map up))) 2 sc_part.nd (pp_call K_text_refusal (hr.mono (by decide)) (ppa_cons (pp_var 1 rfl) ppa_nil) ⟨bs.map up, rfl, rfl⟩)) ?_
  unfold partM
  cases hR : refusalI (bs.map up) with
  | some r => exact pps_ifRet (t := true) (ppt_eq (ppt_notN (pp_var 2 rfl) pp_non) rfl) (fun _ => pps_one (pp1_ret (pp_var 2 rfl))) (fun h => by cases h)
  | none =>
  have good := good_of hR
  refine pps_ifRet (t := false) (ppt_eq (ppt_notN (pp_var 2 rfl) pp_non) rfl) (fun h => by cases h) fun _ => ?_
  rw [Option.getD_none]
  refine pps_next (pp1_set (d := .lst ((piecesT (bs.map up)).map pcD)) 3 sc_part.nd (pp_call K_pieces_of (hr.mono (by decide)) (ppa_cons (pp_call K_strokes_of (hr.mono (by decide)) (ppa_cons (pp_var 1 rfl) ppa_nil) ⟨bs.map up, good, rfl, rfl⟩) ppa_nil) ⟨strokesI (bs.map up), good.short, good.few, good.many, rfl, rfl⟩)) ?_
  have hlen : (piecesT (bs.map up)).length ≤ 65536 := Nat.le_trans good.few (by decide)
  generalize hl : piecesT (bs.map up) = l at hlen
  have hl64 : l.length ≤ 64 := hl ▸ good.few

  refine pps_ifRet (ppt_ge (pp_var 0 rfl) (pp_len T.b_len (n := l.length) (by show some _ = _; rw [List.length_map]) (pp_var 3 rfl))) (fun h => ?_) (fun h => ?_)
  · rw [if_pos (of_decide_eq_true h)]
    exact pps_one (pp1_ret (pp_lst (ppa_cons (pp_glob T.c_NOT_THERE) ppa_nil)))
  have hj2 : ¬ (l.length : Int) ≤ j := of_decide_eq_false h
  rw [if_neg hj2]
  have hll : (leastT l).length = l.length := least_len l l.length
  have hji : j.toNat < l.length := by omega
  have hix : L2.atI ((leastT l).map natD) j = some (natD ((leastT l).getD j.toNat 0)) := atI_map 0 hj (by rw [hll]; omega)
  have hmem : (leastT l).getD j.toNat 0 ∈ headsI l := by
    rw [mem_headsI, List.getD_eq_getElem?_getD, List.getElem?_eq_getElem (by rw [hll]; exact hji)]
    exact List.getElem_mem _
  have hhl : (headsI l).length ≤ 65536 := by
    unfold headsI
    exact Nat.le_trans (List.length_filter_le _ _) (by rw [List.length_range]; exact hlen)
  refine pps_next (pp1_set (d := .lst ((leastT l).map natD)) 4 sc_part.nd (pp_call K_least_mates (hr.mono (by decide)) (ppa_cons (pp_var 3 rfl) ppa_nil) ⟨l, hl64, rfl, rfl⟩)) ?_
  refine pps_next (pp1_set (d := .lst ((headsI l).map natD)) 5 sc_part.nd (pp_eq (pp_sortedSet (ns := (leastT l).map natI) (us := (headsI l).map natI) (by rw [List.length_map, hll]; exact hl64) (fun ns' h1 h2 => heads_out l h1 h2) rfl T.b_sorted T.b_set (pp_eq (pp_var 4 rfl) (by rw [natD_ints]))) (by rw [natD_ints]))) ?_
  have big : (65538 : Nat) ≤ sizeLine := by decide
  refine pps_one (pp1_ret (pp_eq (pp_cat ?_ (pp_lst (ds := [natD ((headsI l).findIdx (fun z => decide (z = (leastT l).getD j.toNat 0)))]) (ppa_cons (pp_indexNat hr hhl hmem (pp_var 5 rfl) (pp_ixL hix (pp_var 4 rfl) (pp_var 0 rfl))) ppa_nil))
    (pp_lc (lc_nameIf (l := List.range l.length) (enc := natD) (f := natD) (b := fun k => decide ((leastT l).getD k 0 = (leastT l).getD j.toNat 0)) 6 rfl sc_part.nd (blkOk_by (by rfl)) (by rw [List.length_range]; omega) (ppi_eq (ppi_range1 T.b_range (by omega) (pp_len T.b_len (n := l.length) (by show some _ = _; rw [List.length_map]) (pp_var 3 rfl))) ?_) ?_ ?_))) ?_))
  · have h1 := List.length_filter_le (fun k => decide ((leastT l).getD k 0 = (leastT l).getD j.toNat 0)) (List.range l.length)
    rw [List.length_range] at h1
    rw [List.length_map]
    show 1 + _ ≤ _
    omega
  · unfold upFrom
    simp
  · intro k hk s H C cl fp
    have hk' := List.mem_range.mp hk
    have hk2 : L2.atI ((leastT l).map natD) (k : Int) = some (natD ((leastT l).getD k 0)) := atI_nat 0 (by rw [hll]; exact hk')
    exact ppt_eq (ppt_eqI (i := ((leastT l).getD k 0 : Nat)) (j := ((leastT l).getD j.toNat 0 : Nat)) (pp_ixL hk2 (pp_var 4 rfl) (pp_var 6 rfl)) (pp_ixL hix (pp_var 4 rfl) (pp_var 0 rfl))) (by rw [Bool.eq_iff_iff, decide_eq_true_eq, decide_eq_true_eq]; omega)
  · intro k hk hb s H C cl fp
    exact pp_var 6 rfl
  · rw [List.map_cons, List.map_map]
    rfl
end
theorem all_mk {P : Program} {wd : World} {K : PySem.W.Frag} {h : Heap} {mg : Str → Option Value} {fa : Addr} (X : K.In h) (G : h.Ns mainGlobals mg) (hfa : mg "part" = some (.ref fa))
    {oc_is_point kV_is_point dc_is_point pm_is_point cd_is_point ct_is_point : Value} {od_is_point an_is_point : Option Addr} {sl_is_point : Array (Option Value)} {f_is_point : Addr}
    {oc_side kV_side dc_side pm_side cd_side ct_side : Value} {od_side an_side : Option Addr} {sl_side : Array (Option Value)} {f_side : Addr}
    {oc_is_between kV_is_between dc_is_between pm_is_between cd_is_between ct_is_between : Value} {od_is_between an_is_between : Option Addr} {sl_is_between : Array (Option Value)} {f_is_between : Addr}
    {oc_lies_on kV_lies_on dc_lies_on pm_lies_on cd_lies_on ct_lies_on : Value} {od_lies_on an_lies_on : Option Addr} {sl_lies_on : Array (Option Value)} {f_lies_on : Addr}
    {oc_ends_in_midst kV_ends_in_midst dc_ends_in_midst pm_ends_in_midst cd_ends_in_midst ct_ends_in_midst : Value} {od_ends_in_midst an_ends_in_midst : Option Addr} {sl_ends_in_midst : Array (Option Value)} {f_ends_in_midst : Addr}
    {oc_divides kV_divides dc_divides pm_divides cd_divides ct_divides : Value} {od_divides an_divides : Option Addr} {sl_divides : Array (Option Value)} {f_divides : Addr}
    {oc_meets_badly kV_meets_badly dc_meets_badly pm_meets_badly cd_meets_badly ct_meets_badly : Value} {od_meets_badly an_meets_badly : Option Addr} {sl_meets_badly : Array (Option Value)} {f_meets_badly : Addr}
    {oc_shares_end kV_shares_end dc_shares_end pm_shares_end cd_shares_end ct_shares_end : Value} {od_shares_end an_shares_end : Option Addr} {sl_shares_end : Array (Option Value)} {f_shares_end : Addr}
    {oc_split_at kV_split_at dc_split_at pm_split_at cd_split_at ct_split_at : Value} {od_split_at an_split_at : Option Addr} {sl_split_at : Array (Option Value)} {f_split_at : Addr}
    {oc_lines_of kV_lines_of dc_lines_of pm_lines_of cd_lines_of ct_lines_of : Value} {od_lines_of an_lines_of : Option Addr} {sl_lines_of : Array (Option Value)} {f_lines_of : Addr}
    {oc_spells kV_spells dc_spells pm_spells cd_spells ct_spells : Value} {od_spells an_spells : Option Addr} {sl_spells : Array (Option Value)} {f_spells : Addr}
    {oc_is_letter kV_is_letter dc_is_letter pm_is_letter cd_is_letter ct_is_letter : Value} {od_is_letter an_is_letter : Option Addr} {sl_is_letter : Array (Option Value)} {f_is_letter : Addr}
    {oc_is_digit kV_is_digit dc_is_digit pm_is_digit cd_is_digit ct_is_digit : Value} {od_is_digit an_is_digit : Option Addr} {sl_is_digit : Array (Option Value)} {f_is_digit : Addr}
    {oc_is_name kV_is_name dc_is_name pm_is_name cd_is_name ct_is_name : Value} {od_is_name an_is_name : Option Addr} {sl_is_name : Array (Option Value)} {f_is_name : Addr}
    {oc_is_number kV_is_number dc_is_number pm_is_number cd_is_number ct_is_number : Value} {od_is_number an_is_number : Option Addr} {sl_is_number : Array (Option Value)} {f_is_number : Addr}
    {oc_coordinate_of kV_coordinate_of dc_coordinate_of pm_coordinate_of cd_coordinate_of ct_coordinate_of : Value} {od_coordinate_of an_coordinate_of : Option Addr} {sl_coordinate_of : Array (Option Value)} {f_coordinate_of : Addr}
    {oc_point_of kV_point_of dc_point_of pm_point_of cd_point_of ct_point_of : Value} {od_point_of an_point_of : Option Addr} {sl_point_of : Array (Option Value)} {f_point_of : Addr}
    {oc_points_of kV_points_of dc_points_of pm_points_of cd_points_of ct_points_of : Value} {od_points_of an_points_of : Option Addr} {sl_points_of : Array (Option Value)} {f_points_of : Addr}
    {oc_is_sign_line kV_is_sign_line dc_is_sign_line pm_is_sign_line cd_is_sign_line ct_is_sign_line : Value} {od_is_sign_line an_is_sign_line : Option Addr} {sl_is_sign_line : Array (Option Value)} {f_is_sign_line : Addr}
    {oc_first_true kV_first_true dc_first_true pm_first_true cd_first_true ct_first_true : Value} {od_first_true an_first_true : Option Addr} {sl_first_true : Array (Option Value)} {f_first_true : Addr}
    {oc_stroke_pieces kV_stroke_pieces dc_stroke_pieces pm_stroke_pieces cd_stroke_pieces ct_stroke_pieces : Value} {od_stroke_pieces an_stroke_pieces : Option Addr} {sl_stroke_pieces : Array (Option Value)} {f_stroke_pieces : Addr}
    {oc_meets_one_badly kV_meets_one_badly dc_meets_one_badly pm_meets_one_badly cd_meets_one_badly ct_meets_one_badly : Value} {od_meets_one_badly an_meets_one_badly : Option Addr} {sl_meets_one_badly : Array (Option Value)} {f_meets_one_badly : Addr}
    {oc_ending_at kV_ending_at dc_ending_at pm_ending_at cd_ending_at ct_ending_at : Value} {od_ending_at an_ending_at : Option Addr} {sl_ending_at : Array (Option Value)} {f_ending_at : Addr}
    {oc_degree kV_degree dc_degree pm_degree cd_degree ct_degree : Value} {od_degree an_degree : Option Addr} {sl_degree : Array (Option Value)} {f_degree : Addr}
    {oc_is_one_too_many kV_is_one_too_many dc_is_one_too_many pm_is_one_too_many cd_is_one_too_many ct_is_one_too_many : Value} {od_is_one_too_many an_is_one_too_many : Option Addr} {sl_is_one_too_many : Array (Option Value)} {f_is_one_too_many : Addr}
    {oc_stroke_fault kV_stroke_fault dc_stroke_fault pm_stroke_fault cd_stroke_fault ct_stroke_fault : Value} {od_stroke_fault an_stroke_fault : Option Addr} {sl_stroke_fault : Array (Option Value)} {f_stroke_fault : Addr}
    {oc_fault_of kV_fault_of dc_fault_of pm_fault_of cd_fault_of ct_fault_of : Value} {od_fault_of an_fault_of : Option Addr} {sl_fault_of : Array (Option Value)} {f_fault_of : Addr}
    {oc_judge kV_judge dc_judge pm_judge cd_judge ct_judge : Value} {od_judge an_judge : Option Addr} {sl_judge : Array (Option Value)} {f_judge : Addr}
    {oc_text_refusal kV_text_refusal dc_text_refusal pm_text_refusal cd_text_refusal ct_text_refusal : Value} {od_text_refusal an_text_refusal : Option Addr} {sl_text_refusal : Array (Option Value)} {f_text_refusal : Addr}
    {oc_strokes_of kV_strokes_of dc_strokes_of pm_strokes_of cd_strokes_of ct_strokes_of : Value} {od_strokes_of an_strokes_of : Option Addr} {sl_strokes_of : Array (Option Value)} {f_strokes_of : Addr}
    {oc_pieces_of kV_pieces_of dc_pieces_of pm_pieces_of cd_pieces_of ct_pieces_of : Value} {od_pieces_of an_pieces_of : Option Addr} {sl_pieces_of : Array (Option Value)} {f_pieces_of : Addr}
    {oc_least_mates kV_least_mates dc_least_mates pm_least_mates cd_least_mates ct_least_mates : Value} {od_least_mates an_least_mates : Option Addr} {sl_least_mates : Array (Option Value)} {f_least_mates : Addr}
    {oc_part kV_part dc_part pm_part cd_part ct_part : Value} {od_part an_part : Option Addr} {sl_part : Array (Option Value)} {f_part : Addr}
    {t_LINE_END t_BLANK t_COMMA t_ZERO t_NINE t_LONGEST_NAME t_LEAST_POINTS t_MOST_POINTS t_MOST_PIECES t_HIGHEST_DEGREE t_LARGEST_COORDINATE t_MOST_DIGITS t_WRONG_LINE t_COORDINATE_TOO_LARGE t_POINT_REPEATED t_TOO_MANY_PIECES t_MEETS_BADLY t_NINTH_AT_POINT t_LONGEST_TEXT t_TOO_LONG t_NOT_THERE t_NO_DRAWING : Tok}
    (a_is_point : PySem.W.nsIn K mainGlobals "is_point" = some (some (.ref f_is_point))) (l_is_point : K.lookup f_is_point = some ⟨oc_is_point, od_is_point, .func (PySem.W.fnOf "is_point" "is_point" (defArgs s_is_point) (defBody s_is_point) (defScope s_is_point) .none kV_is_point dc_is_point pm_is_point an_is_point cd_is_point ct_is_point), sl_is_point⟩) (c_is_point : PySem.W.codeIn K cd_is_point "is_point" = true) (k_is_point : PySem.W.keepIn K (.ref f_is_point) = true)
    (a_side : PySem.W.nsIn K mainGlobals "side" = some (some (.ref f_side))) (l_side : K.lookup f_side = some ⟨oc_side, od_side, .func (PySem.W.fnOf "side" "side" (defArgs s_side) (defBody s_side) (defScope s_side) .none kV_side dc_side pm_side an_side cd_side ct_side), sl_side⟩) (c_side : PySem.W.codeIn K cd_side "side" = true) (k_side : PySem.W.keepIn K (.ref f_side) = true)
    (a_is_between : PySem.W.nsIn K mainGlobals "is_between" = some (some (.ref f_is_between))) (l_is_between : K.lookup f_is_between = some ⟨oc_is_between, od_is_between, .func (PySem.W.fnOf "is_between" "is_between" (defArgs s_is_between) (defBody s_is_between) (defScope s_is_between) .none kV_is_between dc_is_between pm_is_between an_is_between cd_is_between ct_is_between), sl_is_between⟩) (c_is_between : PySem.W.codeIn K cd_is_between "is_between" = true) (k_is_between : PySem.W.keepIn K (.ref f_is_between) = true)
    (a_lies_on : PySem.W.nsIn K mainGlobals "lies_on" = some (some (.ref f_lies_on))) (l_lies_on : K.lookup f_lies_on = some ⟨oc_lies_on, od_lies_on, .func (PySem.W.fnOf "lies_on" "lies_on" (defArgs s_lies_on) (defBody s_lies_on) (defScope s_lies_on) .none kV_lies_on dc_lies_on pm_lies_on an_lies_on cd_lies_on ct_lies_on), sl_lies_on⟩) (c_lies_on : PySem.W.codeIn K cd_lies_on "lies_on" = true) (k_lies_on : PySem.W.keepIn K (.ref f_lies_on) = true)
    (a_ends_in_midst : PySem.W.nsIn K mainGlobals "ends_in_midst" = some (some (.ref f_ends_in_midst))) (l_ends_in_midst : K.lookup f_ends_in_midst = some ⟨oc_ends_in_midst, od_ends_in_midst, .func (PySem.W.fnOf "ends_in_midst" "ends_in_midst" (defArgs s_ends_in_midst) (defBody s_ends_in_midst) (defScope s_ends_in_midst) .none kV_ends_in_midst dc_ends_in_midst pm_ends_in_midst an_ends_in_midst cd_ends_in_midst ct_ends_in_midst), sl_ends_in_midst⟩) (c_ends_in_midst : PySem.W.codeIn K cd_ends_in_midst "ends_in_midst" = true) (k_ends_in_midst : PySem.W.keepIn K (.ref f_ends_in_midst) = true)
    (a_divides : PySem.W.nsIn K mainGlobals "divides" = some (some (.ref f_divides))) (l_divides : K.lookup f_divides = some ⟨oc_divides, od_divides, .func (PySem.W.fnOf "divides" "divides" (defArgs s_divides) (defBody s_divides) (defScope s_divides) .none kV_divides dc_divides pm_divides an_divides cd_divides ct_divides), sl_divides⟩) (c_divides : PySem.W.codeIn K cd_divides "divides" = true) (k_divides : PySem.W.keepIn K (.ref f_divides) = true)
    (a_meets_badly : PySem.W.nsIn K mainGlobals "meets_badly" = some (some (.ref f_meets_badly))) (l_meets_badly : K.lookup f_meets_badly = some ⟨oc_meets_badly, od_meets_badly, .func (PySem.W.fnOf "meets_badly" "meets_badly" (defArgs s_meets_badly) (defBody s_meets_badly) (defScope s_meets_badly) .none kV_meets_badly dc_meets_badly pm_meets_badly an_meets_badly cd_meets_badly ct_meets_badly), sl_meets_badly⟩) (c_meets_badly : PySem.W.codeIn K cd_meets_badly "meets_badly" = true) (k_meets_badly : PySem.W.keepIn K (.ref f_meets_badly) = true)
    (a_shares_end : PySem.W.nsIn K mainGlobals "shares_end" = some (some (.ref f_shares_end))) (l_shares_end : K.lookup f_shares_end = some ⟨oc_shares_end, od_shares_end, .func (PySem.W.fnOf "shares_end" "shares_end" (defArgs s_shares_end) (defBody s_shares_end) (defScope s_shares_end) .none kV_shares_end dc_shares_end pm_shares_end an_shares_end cd_shares_end ct_shares_end), sl_shares_end⟩) (c_shares_end : PySem.W.codeIn K cd_shares_end "shares_end" = true) (k_shares_end : PySem.W.keepIn K (.ref f_shares_end) = true)
    (a_split_at : PySem.W.nsIn K mainGlobals "split_at" = some (some (.ref f_split_at))) (l_split_at : K.lookup f_split_at = some ⟨oc_split_at, od_split_at, .func (PySem.W.fnOf "split_at" "split_at" (defArgs s_split_at) (defBody s_split_at) (defScope s_split_at) .none kV_split_at dc_split_at pm_split_at an_split_at cd_split_at ct_split_at), sl_split_at⟩) (c_split_at : PySem.W.codeIn K cd_split_at "split_at" = true) (k_split_at : PySem.W.keepIn K (.ref f_split_at) = true)
    (a_lines_of : PySem.W.nsIn K mainGlobals "lines_of" = some (some (.ref f_lines_of))) (l_lines_of : K.lookup f_lines_of = some ⟨oc_lines_of, od_lines_of, .func (PySem.W.fnOf "lines_of" "lines_of" (defArgs s_lines_of) (defBody s_lines_of) (defScope s_lines_of) .none kV_lines_of dc_lines_of pm_lines_of an_lines_of cd_lines_of ct_lines_of), sl_lines_of⟩) (c_lines_of : PySem.W.codeIn K cd_lines_of "lines_of" = true) (k_lines_of : PySem.W.keepIn K (.ref f_lines_of) = true)
    (a_spells : PySem.W.nsIn K mainGlobals "spells" = some (some (.ref f_spells))) (l_spells : K.lookup f_spells = some ⟨oc_spells, od_spells, .func (PySem.W.fnOf "spells" "spells" (defArgs s_spells) (defBody s_spells) (defScope s_spells) .none kV_spells dc_spells pm_spells an_spells cd_spells ct_spells), sl_spells⟩) (c_spells : PySem.W.codeIn K cd_spells "spells" = true) (k_spells : PySem.W.keepIn K (.ref f_spells) = true)
    (a_is_letter : PySem.W.nsIn K mainGlobals "is_letter" = some (some (.ref f_is_letter))) (l_is_letter : K.lookup f_is_letter = some ⟨oc_is_letter, od_is_letter, .func (PySem.W.fnOf "is_letter" "is_letter" (defArgs s_is_letter) (defBody s_is_letter) (defScope s_is_letter) .none kV_is_letter dc_is_letter pm_is_letter an_is_letter cd_is_letter ct_is_letter), sl_is_letter⟩) (c_is_letter : PySem.W.codeIn K cd_is_letter "is_letter" = true) (k_is_letter : PySem.W.keepIn K (.ref f_is_letter) = true)
    (a_is_digit : PySem.W.nsIn K mainGlobals "is_digit" = some (some (.ref f_is_digit))) (l_is_digit : K.lookup f_is_digit = some ⟨oc_is_digit, od_is_digit, .func (PySem.W.fnOf "is_digit" "is_digit" (defArgs s_is_digit) (defBody s_is_digit) (defScope s_is_digit) .none kV_is_digit dc_is_digit pm_is_digit an_is_digit cd_is_digit ct_is_digit), sl_is_digit⟩) (c_is_digit : PySem.W.codeIn K cd_is_digit "is_digit" = true) (k_is_digit : PySem.W.keepIn K (.ref f_is_digit) = true)
    (a_is_name : PySem.W.nsIn K mainGlobals "is_name" = some (some (.ref f_is_name))) (l_is_name : K.lookup f_is_name = some ⟨oc_is_name, od_is_name, .func (PySem.W.fnOf "is_name" "is_name" (defArgs s_is_name) (defBody s_is_name) (defScope s_is_name) .none kV_is_name dc_is_name pm_is_name an_is_name cd_is_name ct_is_name), sl_is_name⟩) (c_is_name : PySem.W.codeIn K cd_is_name "is_name" = true) (k_is_name : PySem.W.keepIn K (.ref f_is_name) = true)
    (a_is_number : PySem.W.nsIn K mainGlobals "is_number" = some (some (.ref f_is_number))) (l_is_number : K.lookup f_is_number = some ⟨oc_is_number, od_is_number, .func (PySem.W.fnOf "is_number" "is_number" (defArgs s_is_number) (defBody s_is_number) (defScope s_is_number) .none kV_is_number dc_is_number pm_is_number an_is_number cd_is_number ct_is_number), sl_is_number⟩) (c_is_number : PySem.W.codeIn K cd_is_number "is_number" = true) (k_is_number : PySem.W.keepIn K (.ref f_is_number) = true)
    (a_coordinate_of : PySem.W.nsIn K mainGlobals "coordinate_of" = some (some (.ref f_coordinate_of))) (l_coordinate_of : K.lookup f_coordinate_of = some ⟨oc_coordinate_of, od_coordinate_of, .func (PySem.W.fnOf "coordinate_of" "coordinate_of" (defArgs s_coordinate_of) (defBody s_coordinate_of) (defScope s_coordinate_of) .none kV_coordinate_of dc_coordinate_of pm_coordinate_of an_coordinate_of cd_coordinate_of ct_coordinate_of), sl_coordinate_of⟩) (c_coordinate_of : PySem.W.codeIn K cd_coordinate_of "coordinate_of" = true) (k_coordinate_of : PySem.W.keepIn K (.ref f_coordinate_of) = true)
    (a_point_of : PySem.W.nsIn K mainGlobals "point_of" = some (some (.ref f_point_of))) (l_point_of : K.lookup f_point_of = some ⟨oc_point_of, od_point_of, .func (PySem.W.fnOf "point_of" "point_of" (defArgs s_point_of) (defBody s_point_of) (defScope s_point_of) .none kV_point_of dc_point_of pm_point_of an_point_of cd_point_of ct_point_of), sl_point_of⟩) (c_point_of : PySem.W.codeIn K cd_point_of "point_of" = true) (k_point_of : PySem.W.keepIn K (.ref f_point_of) = true)
    (a_points_of : PySem.W.nsIn K mainGlobals "points_of" = some (some (.ref f_points_of))) (l_points_of : K.lookup f_points_of = some ⟨oc_points_of, od_points_of, .func (PySem.W.fnOf "points_of" "points_of" (defArgs s_points_of) (defBody s_points_of) (defScope s_points_of) .none kV_points_of dc_points_of pm_points_of an_points_of cd_points_of ct_points_of), sl_points_of⟩) (c_points_of : PySem.W.codeIn K cd_points_of "points_of" = true) (k_points_of : PySem.W.keepIn K (.ref f_points_of) = true)
    (a_is_sign_line : PySem.W.nsIn K mainGlobals "is_sign_line" = some (some (.ref f_is_sign_line))) (l_is_sign_line : K.lookup f_is_sign_line = some ⟨oc_is_sign_line, od_is_sign_line, .func (PySem.W.fnOf "is_sign_line" "is_sign_line" (defArgs s_is_sign_line) (defBody s_is_sign_line) (defScope s_is_sign_line) .none kV_is_sign_line dc_is_sign_line pm_is_sign_line an_is_sign_line cd_is_sign_line ct_is_sign_line), sl_is_sign_line⟩) (c_is_sign_line : PySem.W.codeIn K cd_is_sign_line "is_sign_line" = true) (k_is_sign_line : PySem.W.keepIn K (.ref f_is_sign_line) = true)
    (a_first_true : PySem.W.nsIn K mainGlobals "first_true" = some (some (.ref f_first_true))) (l_first_true : K.lookup f_first_true = some ⟨oc_first_true, od_first_true, .func (PySem.W.fnOf "first_true" "first_true" (defArgs s_first_true) (defBody s_first_true) (defScope s_first_true) .none kV_first_true dc_first_true pm_first_true an_first_true cd_first_true ct_first_true), sl_first_true⟩) (c_first_true : PySem.W.codeIn K cd_first_true "first_true" = true) (k_first_true : PySem.W.keepIn K (.ref f_first_true) = true)
    (a_stroke_pieces : PySem.W.nsIn K mainGlobals "stroke_pieces" = some (some (.ref f_stroke_pieces))) (l_stroke_pieces : K.lookup f_stroke_pieces = some ⟨oc_stroke_pieces, od_stroke_pieces, .func (PySem.W.fnOf "stroke_pieces" "stroke_pieces" (defArgs s_stroke_pieces) (defBody s_stroke_pieces) (defScope s_stroke_pieces) .none kV_stroke_pieces dc_stroke_pieces pm_stroke_pieces an_stroke_pieces cd_stroke_pieces ct_stroke_pieces), sl_stroke_pieces⟩) (c_stroke_pieces : PySem.W.codeIn K cd_stroke_pieces "stroke_pieces" = true) (k_stroke_pieces : PySem.W.keepIn K (.ref f_stroke_pieces) = true)
    (a_meets_one_badly : PySem.W.nsIn K mainGlobals "meets_one_badly" = some (some (.ref f_meets_one_badly))) (l_meets_one_badly : K.lookup f_meets_one_badly = some ⟨oc_meets_one_badly, od_meets_one_badly, .func (PySem.W.fnOf "meets_one_badly" "meets_one_badly" (defArgs s_meets_one_badly) (defBody s_meets_one_badly) (defScope s_meets_one_badly) .none kV_meets_one_badly dc_meets_one_badly pm_meets_one_badly an_meets_one_badly cd_meets_one_badly ct_meets_one_badly), sl_meets_one_badly⟩) (c_meets_one_badly : PySem.W.codeIn K cd_meets_one_badly "meets_one_badly" = true) (k_meets_one_badly : PySem.W.keepIn K (.ref f_meets_one_badly) = true)
    (a_ending_at : PySem.W.nsIn K mainGlobals "ending_at" = some (some (.ref f_ending_at))) (l_ending_at : K.lookup f_ending_at = some ⟨oc_ending_at, od_ending_at, .func (PySem.W.fnOf "ending_at" "ending_at" (defArgs s_ending_at) (defBody s_ending_at) (defScope s_ending_at) .none kV_ending_at dc_ending_at pm_ending_at an_ending_at cd_ending_at ct_ending_at), sl_ending_at⟩) (c_ending_at : PySem.W.codeIn K cd_ending_at "ending_at" = true) (k_ending_at : PySem.W.keepIn K (.ref f_ending_at) = true)
    (a_degree : PySem.W.nsIn K mainGlobals "degree" = some (some (.ref f_degree))) (l_degree : K.lookup f_degree = some ⟨oc_degree, od_degree, .func (PySem.W.fnOf "degree" "degree" (defArgs s_degree) (defBody s_degree) (defScope s_degree) .none kV_degree dc_degree pm_degree an_degree cd_degree ct_degree), sl_degree⟩) (c_degree : PySem.W.codeIn K cd_degree "degree" = true) (k_degree : PySem.W.keepIn K (.ref f_degree) = true)
    (a_is_one_too_many : PySem.W.nsIn K mainGlobals "is_one_too_many" = some (some (.ref f_is_one_too_many))) (l_is_one_too_many : K.lookup f_is_one_too_many = some ⟨oc_is_one_too_many, od_is_one_too_many, .func (PySem.W.fnOf "is_one_too_many" "is_one_too_many" (defArgs s_is_one_too_many) (defBody s_is_one_too_many) (defScope s_is_one_too_many) .none kV_is_one_too_many dc_is_one_too_many pm_is_one_too_many an_is_one_too_many cd_is_one_too_many ct_is_one_too_many), sl_is_one_too_many⟩) (c_is_one_too_many : PySem.W.codeIn K cd_is_one_too_many "is_one_too_many" = true) (k_is_one_too_many : PySem.W.keepIn K (.ref f_is_one_too_many) = true)
    (a_stroke_fault : PySem.W.nsIn K mainGlobals "stroke_fault" = some (some (.ref f_stroke_fault))) (l_stroke_fault : K.lookup f_stroke_fault = some ⟨oc_stroke_fault, od_stroke_fault, .func (PySem.W.fnOf "stroke_fault" "stroke_fault" (defArgs s_stroke_fault) (defBody s_stroke_fault) (defScope s_stroke_fault) .none kV_stroke_fault dc_stroke_fault pm_stroke_fault an_stroke_fault cd_stroke_fault ct_stroke_fault), sl_stroke_fault⟩) (c_stroke_fault : PySem.W.codeIn K cd_stroke_fault "stroke_fault" = true) (k_stroke_fault : PySem.W.keepIn K (.ref f_stroke_fault) = true)
    (a_fault_of : PySem.W.nsIn K mainGlobals "fault_of" = some (some (.ref f_fault_of))) (l_fault_of : K.lookup f_fault_of = some ⟨oc_fault_of, od_fault_of, .func (PySem.W.fnOf "fault_of" "fault_of" (defArgs s_fault_of) (defBody s_fault_of) (defScope s_fault_of) .none kV_fault_of dc_fault_of pm_fault_of an_fault_of cd_fault_of ct_fault_of), sl_fault_of⟩) (c_fault_of : PySem.W.codeIn K cd_fault_of "fault_of" = true) (k_fault_of : PySem.W.keepIn K (.ref f_fault_of) = true)
    (a_judge : PySem.W.nsIn K mainGlobals "judge" = some (some (.ref f_judge))) (l_judge : K.lookup f_judge = some ⟨oc_judge, od_judge, .func (PySem.W.fnOf "judge" "judge" (defArgs s_judge) (defBody s_judge) (defScope s_judge) .none kV_judge dc_judge pm_judge an_judge cd_judge ct_judge), sl_judge⟩) (c_judge : PySem.W.codeIn K cd_judge "judge" = true) (k_judge : PySem.W.keepIn K (.ref f_judge) = true)
    (a_text_refusal : PySem.W.nsIn K mainGlobals "text_refusal" = some (some (.ref f_text_refusal))) (l_text_refusal : K.lookup f_text_refusal = some ⟨oc_text_refusal, od_text_refusal, .func (PySem.W.fnOf "text_refusal" "text_refusal" (defArgs s_text_refusal) (defBody s_text_refusal) (defScope s_text_refusal) .none kV_text_refusal dc_text_refusal pm_text_refusal an_text_refusal cd_text_refusal ct_text_refusal), sl_text_refusal⟩) (c_text_refusal : PySem.W.codeIn K cd_text_refusal "text_refusal" = true) (k_text_refusal : PySem.W.keepIn K (.ref f_text_refusal) = true)
    (a_strokes_of : PySem.W.nsIn K mainGlobals "strokes_of" = some (some (.ref f_strokes_of))) (l_strokes_of : K.lookup f_strokes_of = some ⟨oc_strokes_of, od_strokes_of, .func (PySem.W.fnOf "strokes_of" "strokes_of" (defArgs s_strokes_of) (defBody s_strokes_of) (defScope s_strokes_of) .none kV_strokes_of dc_strokes_of pm_strokes_of an_strokes_of cd_strokes_of ct_strokes_of), sl_strokes_of⟩) (c_strokes_of : PySem.W.codeIn K cd_strokes_of "strokes_of" = true) (k_strokes_of : PySem.W.keepIn K (.ref f_strokes_of) = true)
    (a_pieces_of : PySem.W.nsIn K mainGlobals "pieces_of" = some (some (.ref f_pieces_of))) (l_pieces_of : K.lookup f_pieces_of = some ⟨oc_pieces_of, od_pieces_of, .func (PySem.W.fnOf "pieces_of" "pieces_of" (defArgs s_pieces_of) (defBody s_pieces_of) (defScope s_pieces_of) .none kV_pieces_of dc_pieces_of pm_pieces_of an_pieces_of cd_pieces_of ct_pieces_of), sl_pieces_of⟩) (c_pieces_of : PySem.W.codeIn K cd_pieces_of "pieces_of" = true) (k_pieces_of : PySem.W.keepIn K (.ref f_pieces_of) = true)
    (a_least_mates : PySem.W.nsIn K mainGlobals "least_mates" = some (some (.ref f_least_mates))) (l_least_mates : K.lookup f_least_mates = some ⟨oc_least_mates, od_least_mates, .func (PySem.W.fnOf "least_mates" "least_mates" (defArgs s_least_mates) (defBody s_least_mates) (defScope s_least_mates) .none kV_least_mates dc_least_mates pm_least_mates an_least_mates cd_least_mates ct_least_mates), sl_least_mates⟩) (c_least_mates : PySem.W.codeIn K cd_least_mates "least_mates" = true) (k_least_mates : PySem.W.keepIn K (.ref f_least_mates) = true)
    (a_part : PySem.W.nsIn K mainGlobals "part" = some (some (.ref f_part))) (l_part : K.lookup f_part = some ⟨oc_part, od_part, .func (PySem.W.fnOf "part" "part" (defArgs s_part) (defBody s_part) (defScope s_part) .none kV_part dc_part pm_part an_part cd_part ct_part), sl_part⟩) (c_part : PySem.W.codeIn K cd_part "part" = true) (k_part : PySem.W.keepIn K (.ref f_part) = true)
    (v_LINE_END : PySem.W.nsIn K mainGlobals "LINE_END" = some (some (.int (10) t_LINE_END)))
    (v_BLANK : PySem.W.nsIn K mainGlobals "BLANK" = some (some (.int (32) t_BLANK)))
    (v_COMMA : PySem.W.nsIn K mainGlobals "COMMA" = some (some (.int (44) t_COMMA)))
    (v_ZERO : PySem.W.nsIn K mainGlobals "ZERO" = some (some (.int (48) t_ZERO)))
    (v_NINE : PySem.W.nsIn K mainGlobals "NINE" = some (some (.int (57) t_NINE)))
    (v_LONGEST_NAME : PySem.W.nsIn K mainGlobals "LONGEST_NAME" = some (some (.int (12) t_LONGEST_NAME)))
    (v_LEAST_POINTS : PySem.W.nsIn K mainGlobals "LEAST_POINTS" = some (some (.int (2) t_LEAST_POINTS)))
    (v_MOST_POINTS : PySem.W.nsIn K mainGlobals "MOST_POINTS" = some (some (.int (65) t_MOST_POINTS)))
    (v_MOST_PIECES : PySem.W.nsIn K mainGlobals "MOST_PIECES" = some (some (.int (64) t_MOST_PIECES)))
    (v_HIGHEST_DEGREE : PySem.W.nsIn K mainGlobals "HIGHEST_DEGREE" = some (some (.int (8) t_HIGHEST_DEGREE)))
    (v_LARGEST_COORDINATE : PySem.W.nsIn K mainGlobals "LARGEST_COORDINATE" = some (some (.int (4095) t_LARGEST_COORDINATE)))
    (v_MOST_DIGITS : PySem.W.nsIn K mainGlobals "MOST_DIGITS" = some (some (.int (4) t_MOST_DIGITS)))
    (v_WRONG_LINE : PySem.W.nsIn K mainGlobals "WRONG_LINE" = some (some (.int (1) t_WRONG_LINE)))
    (v_COORDINATE_TOO_LARGE : PySem.W.nsIn K mainGlobals "COORDINATE_TOO_LARGE" = some (some (.int (2) t_COORDINATE_TOO_LARGE)))
    (v_POINT_REPEATED : PySem.W.nsIn K mainGlobals "POINT_REPEATED" = some (some (.int (3) t_POINT_REPEATED)))
    (v_TOO_MANY_PIECES : PySem.W.nsIn K mainGlobals "TOO_MANY_PIECES" = some (some (.int (4) t_TOO_MANY_PIECES)))
    (v_MEETS_BADLY : PySem.W.nsIn K mainGlobals "MEETS_BADLY" = some (some (.int (5) t_MEETS_BADLY)))
    (v_NINTH_AT_POINT : PySem.W.nsIn K mainGlobals "NINTH_AT_POINT" = some (some (.int (6) t_NINTH_AT_POINT)))
    (v_LONGEST_TEXT : PySem.W.nsIn K mainGlobals "LONGEST_TEXT" = some (some (.int (65536) t_LONGEST_TEXT)))
    (v_TOO_LONG : PySem.W.nsIn K mainGlobals "TOO_LONG" = some (some (.int (-2) t_TOO_LONG)))
    (v_NOT_THERE : PySem.W.nsIn K mainGlobals "NOT_THERE" = some (some (.int (-4) t_NOT_THERE)))
    (v_NO_DRAWING : PySem.W.nsIn K mainGlobals "NO_DRAWING" = some (some (.int (-6) t_NO_DRAWING)))
    (n_len : PySem.W.nsIn K mainGlobals "len" = some none)
    (n_range : PySem.W.nsIn K mainGlobals "range" = some none)
    (n_all : PySem.W.nsIn K mainGlobals "all" = some none)
    (n_any : PySem.W.nsIn K mainGlobals "any" = some none)
    (n_ord : PySem.W.nsIn K mainGlobals "ord" = some none)
    (n_list : PySem.W.nsIn K mainGlobals "list" = some none)
    (n_zip : PySem.W.nsIn K mainGlobals "zip" = some none)
    (n_enumerate : PySem.W.nsIn K mainGlobals "enumerate" = some none)
    (n_min : PySem.W.nsIn K mainGlobals "min" = some none)
    (n_max : PySem.W.nsIn K mainGlobals "max" = some none)
    (n_set : PySem.W.nsIn K mainGlobals "set" = some none)
    (n_sorted : PySem.W.nsIn K mainGlobals "sorted" = some none)
    : ∃ fd : FuncData, (∀ (s : Shared) (us : List Value), us.length = (["i", "t"] : List Str).length → BindsTo s fd ⟨us, []⟩ ((["i", "t"] : List Str).zip us)) ∧ ∀ base : Heap, K.In base → base.Ns mainGlobals mg → FnOk P wd K mg base CX0 10 fa fd ["i", "t"] (SpF K R_part) := by
  have e := hfa.symm.trans (PySem.W.mg_of X G a_part)
  cases e
  have T : Top mg := ⟨⟨_, PySem.W.mg_of X G v_LINE_END⟩, ⟨_, PySem.W.mg_of X G v_BLANK⟩, ⟨_, PySem.W.mg_of X G v_COMMA⟩, ⟨_, PySem.W.mg_of X G v_ZERO⟩, ⟨_, PySem.W.mg_of X G v_NINE⟩, ⟨_, PySem.W.mg_of X G v_LONGEST_NAME⟩, ⟨_, PySem.W.mg_of X G v_LEAST_POINTS⟩, ⟨_, PySem.W.mg_of X G v_MOST_POINTS⟩, ⟨_, PySem.W.mg_of X G v_MOST_PIECES⟩, ⟨_, PySem.W.mg_of X G v_HIGHEST_DEGREE⟩, ⟨_, PySem.W.mg_of X G v_LARGEST_COORDINATE⟩, ⟨_, PySem.W.mg_of X G v_MOST_DIGITS⟩, ⟨_, PySem.W.mg_of X G v_WRONG_LINE⟩, ⟨_, PySem.W.mg_of X G v_COORDINATE_TOO_LARGE⟩, ⟨_, PySem.W.mg_of X G v_POINT_REPEATED⟩, ⟨_, PySem.W.mg_of X G v_TOO_MANY_PIECES⟩, ⟨_, PySem.W.mg_of X G v_MEETS_BADLY⟩, ⟨_, PySem.W.mg_of X G v_NINTH_AT_POINT⟩, ⟨_, PySem.W.mg_of X G v_LONGEST_TEXT⟩, ⟨_, PySem.W.mg_of X G v_TOO_LONG⟩, ⟨_, PySem.W.mg_of X G v_NOT_THERE⟩, ⟨_, PySem.W.mg_of X G v_NO_DRAWING⟩, PySem.W.mg_none_of X G n_len, PySem.W.mg_none_of X G n_range, PySem.W.mg_none_of X G n_all, PySem.W.mg_none_of X G n_any, PySem.W.mg_none_of X G n_ord, PySem.W.mg_none_of X G n_list, PySem.W.mg_none_of X G n_zip, PySem.W.mg_none_of X G n_enumerate, PySem.W.mg_none_of X G n_min, PySem.W.mg_none_of X G n_max, PySem.W.mg_none_of X G n_set, PySem.W.mg_none_of X G n_sorted⟩
  have F_is_point := fun_mk (st := s_is_point) l_is_point c_is_point k_is_point
  have F_side := fun_mk (st := s_side) l_side c_side k_side
  have F_is_between := fun_mk (st := s_is_between) l_is_between c_is_between k_is_between
  have F_lies_on := fun_mk (st := s_lies_on) l_lies_on c_lies_on k_lies_on
  have F_ends_in_midst := fun_mk (st := s_ends_in_midst) l_ends_in_midst c_ends_in_midst k_ends_in_midst
  have F_divides := fun_mk (st := s_divides) l_divides c_divides k_divides
  have F_meets_badly := fun_mk (st := s_meets_badly) l_meets_badly c_meets_badly k_meets_badly
  have F_shares_end := fun_mk (st := s_shares_end) l_shares_end c_shares_end k_shares_end
  have F_split_at := fun_mk (st := s_split_at) l_split_at c_split_at k_split_at
  have F_lines_of := fun_mk (st := s_lines_of) l_lines_of c_lines_of k_lines_of
  have F_spells := fun_mk (st := s_spells) l_spells c_spells k_spells
  have F_is_letter := fun_mk (st := s_is_letter) l_is_letter c_is_letter k_is_letter
  have F_is_digit := fun_mk (st := s_is_digit) l_is_digit c_is_digit k_is_digit
  have F_is_name := fun_mk (st := s_is_name) l_is_name c_is_name k_is_name
  have F_is_number := fun_mk (st := s_is_number) l_is_number c_is_number k_is_number
  have F_coordinate_of := fun_mk (st := s_coordinate_of) l_coordinate_of c_coordinate_of k_coordinate_of
  have F_point_of := fun_mk (st := s_point_of) l_point_of c_point_of k_point_of
  have F_points_of := fun_mk (st := s_points_of) l_points_of c_points_of k_points_of
  have F_is_sign_line := fun_mk (st := s_is_sign_line) l_is_sign_line c_is_sign_line k_is_sign_line
  have F_first_true := fun_mk (st := s_first_true) l_first_true c_first_true k_first_true
  have F_stroke_pieces := fun_mk (st := s_stroke_pieces) l_stroke_pieces c_stroke_pieces k_stroke_pieces
  have F_meets_one_badly := fun_mk (st := s_meets_one_badly) l_meets_one_badly c_meets_one_badly k_meets_one_badly
  have F_ending_at := fun_mk (st := s_ending_at) l_ending_at c_ending_at k_ending_at
  have F_degree := fun_mk (st := s_degree) l_degree c_degree k_degree
  have F_is_one_too_many := fun_mk (st := s_is_one_too_many) l_is_one_too_many c_is_one_too_many k_is_one_too_many
  have F_stroke_fault := fun_mk (st := s_stroke_fault) l_stroke_fault c_stroke_fault k_stroke_fault
  have F_fault_of := fun_mk (st := s_fault_of) l_fault_of c_fault_of k_fault_of
  have F_judge := fun_mk (st := s_judge) l_judge c_judge k_judge
  have F_text_refusal := fun_mk (st := s_text_refusal) l_text_refusal c_text_refusal k_text_refusal
  have F_strokes_of := fun_mk (st := s_strokes_of) l_strokes_of c_strokes_of k_strokes_of
  have F_pieces_of := fun_mk (st := s_pieces_of) l_pieces_of c_pieces_of k_pieces_of
  have F_least_mates := fun_mk (st := s_least_mates) l_least_mates c_least_mates k_least_mates
  have F_part := fun_mk (st := s_part) l_part c_part k_part
  refine ⟨PySem.W.fnOf "part" "part" (defArgs s_part) (defBody s_part) (defScope s_part) .none kV_part dc_part pm_part an_part cd_part ct_part, fun s us hu => match us, hu with | [_, _], _ => .of_eq rfl, fun base _ _ => ?_⟩
  have K_is_point : Known P wd K mg base "is_point" 1 (SpF K R_is_point) := kn_is_point F_is_point (PySem.W.mg_of X G a_is_point) T
  have K_side : Known P wd K mg base "side" 1 (SpF K R_side) := kn_side F_side (PySem.W.mg_of X G a_side) T
  have K_is_between : Known P wd K mg base "is_between" 1 (SpF K R_is_between) := kn_is_between F_is_between (PySem.W.mg_of X G a_is_between) T
  have K_lies_on : Known P wd K mg base "lies_on" 2 (SpF K R_lies_on) := kn_lies_on F_lies_on (PySem.W.mg_of X G a_lies_on) T K_side K_is_between
  have K_ends_in_midst : Known P wd K mg base "ends_in_midst" 3 (SpF K R_ends_in_midst) := kn_ends_in_midst F_ends_in_midst (PySem.W.mg_of X G a_ends_in_midst) T K_lies_on
  have K_divides : Known P wd K mg base "divides" 2 (SpF K R_divides) := kn_divides F_divides (PySem.W.mg_of X G a_divides) T K_side
  have K_meets_badly : Known P wd K mg base "meets_badly" 4 (SpF K R_meets_badly) := kn_meets_badly F_meets_badly (PySem.W.mg_of X G a_meets_badly) T K_divides K_ends_in_midst
  have K_shares_end : Known P wd K mg base "shares_end" 1 (SpF K R_shares_end) := kn_shares_end F_shares_end (PySem.W.mg_of X G a_shares_end) T
  have K_split_at : Known P wd K mg base "split_at" 1 (SpN K R_split_at) := kn_split_at F_split_at (PySem.W.mg_of X G a_split_at) T
  have K_lines_of : Known P wd K mg base "lines_of" 2 (SpF K R_lines_of) := kn_lines_of F_lines_of (PySem.W.mg_of X G a_lines_of) T K_split_at
  have K_spells : Known P wd K mg base "spells" 1 (SpF K R_spells) := kn_spells F_spells (PySem.W.mg_of X G a_spells) T
  have K_is_letter : Known P wd K mg base "is_letter" 1 (SpF K R_is_letter) := kn_is_letter F_is_letter (PySem.W.mg_of X G a_is_letter) T
  have K_is_digit : Known P wd K mg base "is_digit" 1 (SpF K R_is_digit) := kn_is_digit F_is_digit (PySem.W.mg_of X G a_is_digit) T
  have K_is_name : Known P wd K mg base "is_name" 2 (SpF K R_is_name) := kn_is_name F_is_name (PySem.W.mg_of X G a_is_name) T K_is_letter K_is_digit
  have K_is_number : Known P wd K mg base "is_number" 2 (SpF K R_is_number) := kn_is_number F_is_number (PySem.W.mg_of X G a_is_number) T K_is_digit
  have K_coordinate_of : Known P wd K mg base "coordinate_of" 1 (SpF K R_coordinate_of) := kn_coordinate_of F_coordinate_of (PySem.W.mg_of X G a_coordinate_of) T
  have K_point_of : Known P wd K mg base "point_of" 3 (SpF K R_point_of) := kn_point_of F_point_of (PySem.W.mg_of X G a_point_of) T K_split_at K_coordinate_of K_is_number
  have K_points_of : Known P wd K mg base "points_of" 4 (SpF K R_points_of) := kn_points_of F_points_of (PySem.W.mg_of X G a_points_of) T K_split_at K_point_of K_spells
  have K_is_sign_line : Known P wd K mg base "is_sign_line" 3 (SpF K R_is_sign_line) := kn_is_sign_line F_is_sign_line (PySem.W.mg_of X G a_is_sign_line) T K_split_at K_spells K_is_name
  have K_first_true : Known P wd K mg base "first_true" 1 (SpF K R_first_true) := kn_first_true F_first_true (PySem.W.mg_of X G a_first_true) T
  have K_stroke_pieces : Known P wd K mg base "stroke_pieces" 1 (SpF K R_stroke_pieces) := kn_stroke_pieces F_stroke_pieces (PySem.W.mg_of X G a_stroke_pieces) T
  have K_meets_one_badly : Known P wd K mg base "meets_one_badly" 5 (SpF K R_meets_one_badly) := kn_meets_one_badly F_meets_one_badly (PySem.W.mg_of X G a_meets_one_badly) T K_meets_badly
  have K_ending_at : Known P wd K mg base "ending_at" 1 (SpF K R_ending_at) := kn_ending_at F_ending_at (PySem.W.mg_of X G a_ending_at) T
  have K_degree : Known P wd K mg base "degree" 2 (SpF K R_degree) := kn_degree F_degree (PySem.W.mg_of X G a_degree) T K_ending_at
  have K_is_one_too_many : Known P wd K mg base "is_one_too_many" 3 (SpF K R_is_one_too_many) := kn_is_one_too_many F_is_one_too_many (PySem.W.mg_of X G a_is_one_too_many) T K_degree
  have K_stroke_fault : Known P wd K mg base "stroke_fault" 6 (SpF K R_stroke_fault) := kn_stroke_fault F_stroke_fault (PySem.W.mg_of X G a_stroke_fault) T K_first_true K_stroke_pieces K_meets_one_badly K_is_one_too_many K_is_point
  have K_fault_of : Known P wd K mg base "fault_of" 7 (SpF K R_fault_of) := kn_fault_of F_fault_of (PySem.W.mg_of X G a_fault_of) T K_lines_of K_is_sign_line K_points_of K_stroke_fault K_stroke_pieces
  have K_judge : Known P wd K mg base "judge" 8 (SpF K R_judge) := kn_judge F_judge (PySem.W.mg_of X G a_judge) T K_fault_of
  have K_text_refusal : Known P wd K mg base "text_refusal" 9 (SpF K R_text_refusal) := kn_text_refusal F_text_refusal (PySem.W.mg_of X G a_text_refusal) T K_judge
  have K_strokes_of : Known P wd K mg base "strokes_of" 5 (SpF K R_strokes_of) := kn_strokes_of F_strokes_of (PySem.W.mg_of X G a_strokes_of) T K_points_of K_lines_of
  have K_pieces_of : Known P wd K mg base "pieces_of" 2 (SpF K R_pieces_of) := kn_pieces_of F_pieces_of (PySem.W.mg_of X G a_pieces_of) T K_stroke_pieces
  have K_least_mates : Known P wd K mg base "least_mates" 2 (SpF K R_least_mates) := kn_least_mates F_least_mates (PySem.W.mg_of X G a_least_mates) T K_shares_end
  exact ok_part F_part T K_text_refusal K_pieces_of K_least_mates K_strokes_of
end DX
open PySem PySem.W PyProof.Rows
set_option maxRecDepth 100000 in
set_option maxHeartbeats 0 in
theorem PySem.Challenge.cw_drawnglass_s06_part_holds : PySem.Challenge.rw_drawnglass_s06_part.Holds := by
  w_on; k_headS; (case hw => exact ⟨[.int 0, .list []], by decide +kernel, by decide +kernel⟩)
  k_fillS
  refine L2.walk_specK (r := PySem.Challenge.rw_drawnglass_s06_part) (k := 10) (CX := L2.CX0) (ps := ["i", "t"]) (sp := fun K => PP.SpF K PP.R_part) (by decide +kernel) rfl rfl ⟨rfl, by decide, by decide⟩ (fun w h Y => PySem.W.kIn_of Y) ?F ?S (fun _ _ _ _ z => z)
  case F =>
    intro w mg fa h Y KX G hmg
    refine' DX.all_mk KX G hmg ?a_is_point ?l_is_point ?c_is_point ?k_is_point ?a_side ?l_side ?c_side ?k_side ?a_is_between ?l_is_between ?c_is_between ?k_is_between ?a_lies_on ?l_lies_on ?c_lies_on ?k_lies_on ?a_ends_in_midst ?l_ends_in_midst ?c_ends_in_midst ?k_ends_in_midst ?a_divides ?l_divides ?c_divides ?k_divides ?a_meets_badly ?l_meets_badly ?c_meets_badly ?k_meets_badly ?a_shares_end ?l_shares_end ?c_shares_end ?k_shares_end ?a_split_at ?l_split_at ?c_split_at ?k_split_at ?a_lines_of ?l_lines_of ?c_lines_of ?k_lines_of ?a_spells ?l_spells ?c_spells ?k_spells ?a_is_letter ?l_is_letter ?c_is_letter ?k_is_letter ?a_is_digit ?l_is_digit ?c_is_digit ?k_is_digit ?a_is_name ?l_is_name ?c_is_name ?k_is_name ?a_is_number ?l_is_number ?c_is_number ?k_is_number ?a_coordinate_of ?l_coordinate_of ?c_coordinate_of ?k_coordinate_of ?a_point_of ?l_point_of ?c_point_of ?k_point_of ?a_points_of ?l_points_of ?c_points_of ?k_points_of ?a_is_sign_line ?l_is_sign_line ?c_is_sign_line ?k_is_sign_line ?a_first_true ?l_first_true ?c_first_true ?k_first_true ?a_stroke_pieces ?l_stroke_pieces ?c_stroke_pieces ?k_stroke_pieces ?a_meets_one_badly ?l_meets_one_badly ?c_meets_one_badly ?k_meets_one_badly ?a_ending_at ?l_ending_at ?c_ending_at ?k_ending_at ?a_degree ?l_degree ?c_degree ?k_degree ?a_is_one_too_many ?l_is_one_too_many ?c_is_one_too_many ?k_is_one_too_many ?a_stroke_fault ?l_stroke_fault ?c_stroke_fault ?k_stroke_fault ?a_fault_of ?l_fault_of ?c_fault_of ?k_fault_of ?a_judge ?l_judge ?c_judge ?k_judge ?a_text_refusal ?l_text_refusal ?c_text_refusal ?k_text_refusal ?a_strokes_of ?l_strokes_of ?c_strokes_of ?k_strokes_of ?a_pieces_of ?l_pieces_of ?c_pieces_of ?k_pieces_of ?a_least_mates ?l_least_mates ?c_least_mates ?k_least_mates ?a_part ?l_part ?c_part ?k_part ?v_LINE_END ?v_BLANK ?v_COMMA ?v_ZERO ?v_NINE ?v_LONGEST_NAME ?v_LEAST_POINTS ?v_MOST_POINTS ?v_MOST_PIECES ?v_HIGHEST_DEGREE ?v_LARGEST_COORDINATE ?v_MOST_DIGITS ?v_WRONG_LINE ?v_COORDINATE_TOO_LARGE ?v_POINT_REPEATED ?v_TOO_MANY_PIECES ?v_MEETS_BADLY ?v_NINTH_AT_POINT ?v_LONGEST_TEXT ?v_TOO_LONG ?v_NOT_THERE ?v_NO_DRAWING ?n_len ?n_range ?n_all ?n_any ?n_ord ?n_list ?n_zip ?n_enumerate ?n_min ?n_max ?n_set ?n_sorted
    (case a_is_point => k_is); (case l_is_point => k_is); (case c_is_point => k_is); (case k_is_point => k_is); (case a_side => k_is); (case l_side => k_is); (case c_side => k_is); (case k_side => k_is); (case a_is_between => k_is); (case l_is_between => k_is); (case c_is_between => k_is); (case k_is_between => k_is); (case a_lies_on => k_is); (case l_lies_on => k_is); (case c_lies_on => k_is); (case k_lies_on => k_is); (case a_ends_in_midst => k_is); (case l_ends_in_midst => k_is); (case c_ends_in_midst => k_is); (case k_ends_in_midst => k_is); (case a_divides => k_is); (case l_divides => k_is); (case c_divides => k_is); (case k_divides => k_is); (case a_meets_badly => k_is); (case l_meets_badly => k_is); (case c_meets_badly => k_is); (case k_meets_badly => k_is); (case a_shares_end => k_is); (case l_shares_end => k_is); (case c_shares_end => k_is); (case k_shares_end => k_is); (case a_split_at => k_is); (case l_split_at => k_is); (case c_split_at => k_is); (case k_split_at => k_is); (case a_lines_of => k_is); (case l_lines_of => k_is); (case c_lines_of => k_is); (case k_lines_of => k_is); (case a_spells => k_is); (case l_spells => k_is); (case c_spells => k_is); (case k_spells => k_is); (case a_is_letter => k_is); (case l_is_letter => k_is); (case c_is_letter => k_is); (case k_is_letter => k_is); (case a_is_digit => k_is); (case l_is_digit => k_is); (case c_is_digit => k_is); (case k_is_digit => k_is); (case a_is_name => k_is); (case l_is_name => k_is); (case c_is_name => k_is); (case k_is_name => k_is); (case a_is_number => k_is); (case l_is_number => k_is); (case c_is_number => k_is); (case k_is_number => k_is); (case a_coordinate_of => k_is); (case l_coordinate_of => k_is); (case c_coordinate_of => k_is); (case k_coordinate_of => k_is); (case a_point_of => k_is); (case l_point_of => k_is); (case c_point_of => k_is); (case k_point_of => k_is); (case a_points_of => k_is); (case l_points_of => k_is); (case c_points_of => k_is); (case k_points_of => k_is); (case a_is_sign_line => k_is); (case l_is_sign_line => k_is); (case c_is_sign_line => k_is); (case k_is_sign_line => k_is); (case a_first_true => k_is); (case l_first_true => k_is); (case c_first_true => k_is); (case k_first_true => k_is); (case a_stroke_pieces => k_is); (case l_stroke_pieces => k_is); (case c_stroke_pieces => k_is); (case k_stroke_pieces => k_is); (case a_meets_one_badly => k_is); (case l_meets_one_badly => k_is); (case c_meets_one_badly => k_is); (case k_meets_one_badly => k_is); (case a_ending_at => k_is); (case l_ending_at => k_is); (case c_ending_at => k_is); (case k_ending_at => k_is); (case a_degree => k_is); (case l_degree => k_is); (case c_degree => k_is); (case k_degree => k_is); (case a_is_one_too_many => k_is); (case l_is_one_too_many => k_is); (case c_is_one_too_many => k_is); (case k_is_one_too_many => k_is); (case a_stroke_fault => k_is); (case l_stroke_fault => k_is); (case c_stroke_fault => k_is); (case k_stroke_fault => k_is); (case a_fault_of => k_is); (case l_fault_of => k_is); (case c_fault_of => k_is); (case k_fault_of => k_is); (case a_judge => k_is); (case l_judge => k_is); (case c_judge => k_is); (case k_judge => k_is); (case a_text_refusal => k_is); (case l_text_refusal => k_is); (case c_text_refusal => k_is); (case k_text_refusal => k_is); (case a_strokes_of => k_is); (case l_strokes_of => k_is); (case c_strokes_of => k_is); (case k_strokes_of => k_is); (case a_pieces_of => k_is); (case l_pieces_of => k_is); (case c_pieces_of => k_is); (case k_pieces_of => k_is); (case a_least_mates => k_is); (case l_least_mates => k_is); (case c_least_mates => k_is); (case k_least_mates => k_is); (case a_part => k_is); (case l_part => k_is); (case c_part => k_is); (case k_part => k_is); (case v_LINE_END => k_is); (case v_BLANK => k_is); (case v_COMMA => k_is); (case v_ZERO => k_is); (case v_NINE => k_is); (case v_LONGEST_NAME => k_is); (case v_LEAST_POINTS => k_is); (case v_MOST_POINTS => k_is); (case v_MOST_PIECES => k_is); (case v_HIGHEST_DEGREE => k_is); (case v_LARGEST_COORDINATE => k_is); (case v_MOST_DIGITS => k_is); (case v_WRONG_LINE => k_is); (case v_COORDINATE_TOO_LARGE => k_is); (case v_POINT_REPEATED => k_is); (case v_TOO_MANY_PIECES => k_is); (case v_MEETS_BADLY => k_is); (case v_NINTH_AT_POINT => k_is); (case v_LONGEST_TEXT => k_is); (case v_TOO_LONG => k_is); (case v_NOT_THERE => k_is); (case v_NO_DRAWING => k_is); (case n_len => k_is); (case n_range => k_is); (case n_all => k_is); (case n_any => k_is); (case n_ord => k_is); (case n_list => k_is); (case n_zip => k_is); (case n_enumerate => k_is); (case n_min => k_is); (case n_max => k_is); (case n_set => k_is); (case n_sorted => k_is)
  case S =>
    intro K H xs a hO hwi hask hx
    obtain ⟨j, t, u⟩ := a
    have hb : ∀ {n : Int}, Codec.inInt 0 4294967295 n = true → 0 ≤ n := fun h => (Codec.inInt_iff.mp h).1
    have hw' := (Bool.and_eq_true _ _).mp (show (Codec.inInt 0 4294967295 j && _) = true from hwi)
    cases hx with | cons x1 hx => cases hx with | cons x2 hx =>
    cases hx; cases x1
    cases x2 with
    | lst hs ha =>
    have e := L2.ints_dw t _ ha
    subst e
    have hby := PP.asked_bytes (PP.asked_one (n := 6) hask)
    obtain ⟨bs, rfl⟩ := DG.bytes_of hby
    refine ⟨[], _, _, PP.Dom.nil, .cons (.int j) (.cons (.arg (by rw [PP.hide_nil]; exact hs)) .nil), ⟨j, bs, hb hw'.1, rfl, rfl⟩, fun v H' _ rv => ?_⟩
    have e := PP.back_ints rv
    rw [← DG.part_spec (hb hw'.1)] at e
    exact e
#print axioms PySem.Challenge.cw_drawnglass_s06_part_holds
