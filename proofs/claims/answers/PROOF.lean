import PyProof.Rows.All
import Wide.All
import OpenK.AllK
import Wide.FinOn
import PyProof.EqAt
import PyProof.EqKinds
import PyProof.TupleCall
import KE.BitLaws
import Open.SpecLaws
import KE.OsHead
import KE.OsGo
import Si57Spec
import PySi57
import PyWideLaws
import PySem.Challenge.RW_treethinning_s01_answers
set_option Elab.async false
set_option linter.all false
set_option maxRecDepth 100000
namespace L2
open PySem PySem.Spec PyProof.Rows
abbrev Key := Sum Int Str
def keyIs : Key → Value → Bool
  | .inl k, v => Value.isInt k v
  | .inr x, v => Value.isStrOf x v
def keyH (w : World) : Key → Int
  | .inl k => hashInt k
  | .inr x => hashStr w x
theorem keyIs_shape : ∀ {k : Key} {v : Value}, keyIs k v = true → (∃ i t, k = Sum.inl i ∧ v = Value.int i t) ∨ (∃ x t, k = Sum.inr x ∧ v = Value.str x t)
  | .inl i, v, h => by
    obtain ⟨t, e⟩ := Value.isInt_shape (k := i) (v := v) h
    exact .inl ⟨i, t, rfl, e⟩
  | .inr x, v, h => by
    obtain ⟨t, e⟩ := Value.isStrOf_shape (x := x) (v := v) h
    exact .inr ⟨x, t, rfl, e⟩
theorem key_ll (a b : Int) : decide ((Sum.inl a : Key) = Sum.inl b) = (a == b) := by
  by_cases e : a = b
  · subst e; simp
  · have h : ¬ (Sum.inl a : Key) = Sum.inl b := fun q => e (Sum.inl.inj q)
    rw [decide_eq_false h]
    exact (beq_eq_false_iff_ne.mpr e).symm
theorem key_rr (a b : Str) : decide ((Sum.inr a : Key) = Sum.inr b) = decide (a = b) := by
  by_cases e : a = b
  · subst e; simp
  · have h : ¬ (Sum.inr a : Key) = Sum.inr b := fun q => e (Sum.inr.inj q)
    rw [decide_eq_false h, decide_eq_false e]
theorem key_lr (a : Int) (b : Str) : decide ((Sum.inl a : Key) = Sum.inr b) = false := decide_eq_false (fun q => nomatch q)
theorem key_rl (a : Str) (b : Int) : decide ((Sum.inr a : Key) = Sum.inl b) = false := decide_eq_false (fun q => nomatch q)
def mixKind (prog : Program) (w : World) : PySem.KeyKind prog w Key where
  is := keyIs
  hash := keyH w
  inj := fun v a b ha hb => by
    rcases keyIs_shape ha with ⟨i, t, rfl, rfl⟩ | ⟨x, t, rfl, rfl⟩
    · rcases keyIs_shape hb with ⟨j, u, rfl, e⟩ | ⟨y, u, rfl, e⟩
      · injection e with e1 _; rw [e1]
      · exact nomatch e
    · rcases keyIs_shape hb with ⟨j, u, rfl, e⟩ | ⟨y, u, rfl, e⟩
      · exact nomatch e
      · injection e with e1 _; rw [e1]
  byValue := fun k v h => by
    rcases keyIs_shape h with ⟨i, t, rfl, rfl⟩ | ⟨x, t, rfl, rfl⟩ <;> rfl
  pyHash := fun hv h => by
    rcases keyIs_shape hv with ⟨i, t, rfl, rfl⟩ | ⟨x, t, rfl, rfl⟩
    · exact wpAny_pyHash_int h
    · exact wpAny_pyHash_str h
  eqBool := fun hu hv h => by
    rcases keyIs_shape hu with ⟨i, t, rfl, rfl⟩ | ⟨x, t, rfl, rfl⟩
    · rcases keyIs_shape hv with ⟨j, u, rfl, rfl⟩ | ⟨y, u, rfl, rfl⟩
      · rw [key_ll] at h; exact wpAny_eqBool_int h
      · rw [key_lr] at h; exact SeqAt.EqAt.int_str i t y u _ _ _ _ h
    · rcases keyIs_shape hv with ⟨j, u, rfl, rfl⟩ | ⟨y, u, rfl, rfl⟩
      · rw [key_rl] at h; exact SeqAt.EqAt.str_int x t j u _ _ _ _ h
      · rw [key_rr] at h; exact wpAny_eqBool_str h
  «strs» := fun k x t v h => by
    rcases keyIs_shape h with ⟨i, u, rfl, e⟩ | ⟨y, u, rfl, e⟩
    · exact nomatch e
    · injection e with e1 _
      subst e1
      cases v <;> rfl
end L2
namespace L2
open PySem PySem.Spec PyProof.Rows
inductive V where
  | non | bl (b : Bool) | int (i : Int) | str (x : Str) | byt (b : Array UInt8) | flt (b : UInt64) | ref (a : Addr) | ty (n : String)
  deriving DecidableEq
def RelV : V → Value → Prop
  | .non, u => u = Value.none
  | .bl b, u => u = Value.bool b
  | .int i, u => ∃ t, u = Value.int i t
  | .str x, u => ∃ t, u = Value.str x t
  | .byt b, u => ∃ t, u = Value.bytes b t
  | .flt b, u => ∃ t, u = Value.float b t
  | .ref a, u => u = Value.ref a
  | .ty n, u => u = Value.type n
abbrev Vals : List V → List Value → Prop := Paired RelV
theorem Vals.length {xs : List V} {us : List Value} (r : Vals xs us) : xs.length = us.length := Paired.length r
theorem Vals.get : ∀ {xs : List V} {us : List Value} {i : Nat} {x : V}, Vals xs us → xs[i]? = some x → ∃ u, us[i]? = some u ∧ RelV x u
  | _, _, _, _, .nil, e => by simp at e
  | _, _, 0, _, .cons r _, e => by simp at e; subst e; exact ⟨_, rfl, r⟩
  | _, _, i + 1, x, .cons _ t, e => by
    obtain ⟨u, h1, h2⟩ := Vals.get (i := i) (x := x) t (by simpa using e)
    exact ⟨u, by simpa using h1, h2⟩
theorem Vals.append : ∀ {xs ys : List V} {us ws : List Value}, Vals xs us → Vals ys ws → Vals (xs ++ ys) (us ++ ws)
  | _, _, _, _, .nil, s => s
  | _, _, _, _, .cons r t, s => .cons r (Vals.append t s)
theorem Vals.take : ∀ {xs : List V} {us : List Value} (n : Nat), Vals xs us → Vals (xs.take n) (us.take n)
  | _, _, 0, _ => .nil
  | _, _, _ + 1, .nil => .nil
  | _, _, n + 1, .cons r t => .cons r (Vals.take n t)
theorem Vals.drop : ∀ {xs : List V} {us : List Value} (n : Nat), Vals xs us → Vals (xs.drop n) (us.drop n)
  | _, _, 0, r => r
  | _, _, _ + 1, .nil => .nil
  | _, _, n + 1, .cons _ t => Vals.drop n t
def RelO : Option V → Option Value → Prop
  | some v, some u => RelV v u
  | none, none => True
  | _, _ => False
def KV {κ : Type} : List (κ × V) → List (κ × Value) → Prop := Paired fun (p : κ × V) (q : κ × Value) => p.1 = q.1 ∧ RelV p.2 q.2
def kV : Key → V
  | .inl i => .int i
  | .inr x => .str x
inductive HO where
  /-- a list -/
  | lst (xs : List V)
  /-- a tuple (never changes) -/
  | tup (xs : List V)
  /-- a dict whose keys are ints and texts; one whose keys are tuples of ints and texts (the empty one is both) -/
  | dK (kvs : List (Key × V)) | dT (kvs : List (List Key × V))
  /-- a set of ints: its members, its size -/
  | set (S : Int → Bool) (n : Nat)
  /-- an instance of the class at C, its dict at dx, its attributes -/
  | ins (C dx : Addr) (fs : List (Str × V))
  /-- the dict of the instance at x -/
  | own (x : Addr)
  /-- the dict of an exception -/
  | xd (fs : List (Str × V))
  /-- a bound method, f of x -/
  | met (f x : Addr)
  /-- a range object lo, lo + 1, .. below hi -/
  | rng (lo hi : Int)
  /-- a thing that is known to the object (the script; a dict while a loop walks it): read, never written while it is so -/
  | frz (o : Obj) (u : HO)
  /-- a code object's table -/
  | tbl (ps : Array Value)
  /-- any other thing, by what is true of its one object (a def of one's own: SetO a S n := HO.ext fun h => ..) -/
  | ext (φ : Heap → Prop)
abbrev Hp := Addr → Option HO
def upd (H : Hp) (a : Addr) (o : HO) : Hp := fun b => if b = a then some o else H b
theorem upd_same {H : Hp} {a : Addr} {o : HO} : upd H a o a = some o := by unfold upd; rw [if_pos rfl]
theorem upd_ne {H : Hp} {a b : Addr} {o : HO} (h : b ≠ a) : upd H a o b = H b := by unfold upd; rw [if_neg h]
theorem upd_upd {H : Hp} {a : Addr} {o u : HO} : upd (upd H a o) a u = upd H a u := by
  funext b; unfold upd; split <;> rfl
theorem ne_of {H : Hp} {a b : Addr} {o u : HO} (h : H a = some o) (h' : H b = some u) (d : o ≠ u) : a ≠ b := by
  intro e; subst e; rw [h] at h'; exact d (Option.some.inj h')
theorem ne_of_none {H : Hp} {a b : Addr} {o : HO} (h : H a = some o) (h' : H b = none) : a ≠ b := by
  intro e; subst e; rw [h] at h'; cases h'
section
variable (P : Program) (w : World)
def ObjOk (H : Hp) (h : Heap) (a : Addr) : HO → Prop
  | .lst xs => xs.length ≤ sizeLine ∧ ∃ (its : List Value) (n : Nat), Vals xs its ∧ h.get? a = some { cls := .type "list", data := .seq its.toArray n }
  | .tup xs => xs.length ≤ sizeLine ∧ ∃ its : List Value, Vals xs its ∧ IsTup h a its.toArray
  | .dK kvs => kvs.length ≤ sizeLine ∧ (a == sysModules) = false ∧ ∃ vs, KV kvs vs ∧ h.DictOf (mixKind P w) a vs
  | .dT kvs => kvs.length ≤ sizeLine ∧ (a == sysModules) = false ∧ ∃ xs : List (List Key × Addr × Value),
      Paired (fun (p : List Key × V) (q : List Key × Addr × Value) => p.1 = q.1 ∧ H q.2.1 = some (.tup (p.1.map kV)) ∧ RelV p.2 q.2.2) kvs xs ∧
      ∃ o es ep, h.get? a = some o ∧ o.ExactDict ∧ o.data = .dict es ep ∧ es.toList = xs.map (entryOfKey (tupleKind (mixKind P w))) ∧ (xs.map (·.1)).Nodup
  | .set S n => h.SetOf (intKind P w) a S n
  | .ins C dx fs => H dx = some (.own a) ∧ fs.length ≤ 1000 ∧ dx ≠ a ∧ h.get? a = some (PySem.W.instObj C dx) ∧
      ∃ mA, h.Ns1 dx mA ∧ (∀ f, RelO (fs.lookup f) (mA f)) ∧ PySem.Within mA (fs.map (·.1))
  | .own _ => ∃ o, h.get? a = some o
  | .xd fs => ∃ mA, h.Ns1 a mA ∧ ∀ f, RelO (fs.lookup f) (mA f)
  | .rng lo hi => ∃ t u v, h.get? a = some { cls := .type "range", data := .fields #[.int lo t, .int hi u, .int 1 v] }
  | .frz o u => h.get? a = some o ∧ ObjOk H h a u
  | .tbl ps => h.get? a = some { cls := .none, data := .fields ps }
  | .met f x => h.get? a = some (PySem.W.methodObj (.ref f) (.ref x))
  | .ext φ => φ h ∧ (∃ o, h.get? a = some o) ∧ ∀ h1 h2 : Heap, φ h1 → (∀ o, h1.get? a = some o → h2.get? a = some o) → φ h2
def HOk (H : Hp) (h : Heap) : Prop := ∀ a o, H a = some o → ObjOk P w H h a o
end
section
variable {P : Program} {w : World} {H H' : Hp} {h h' : Heap} {a : Addr} {o : HO}
theorem ObjOk.lt (x : ObjOk P w H h a o) : a < h.objs.size := by
  cases o with
  | lst xs => obtain ⟨_, _, _, _, e⟩ := x; exact Heap.lt_size e
  | tup xs => obtain ⟨_, _, _, p⟩ := x; exact p.lt
  | dK kvs => obtain ⟨_, _, _, _, o, _, _, e, _⟩ := x; exact Heap.lt_size e
  | dT kvs => obtain ⟨_, _, _, _, o, _, _, e, _⟩ := x; exact Heap.lt_size e
  | set S n => obtain ⟨o, _, _, _, e, _⟩ := x; exact Heap.lt_size e
  | ins C dx fs => obtain ⟨_, _, _, e, _⟩ := x; exact Heap.lt_size e
  | own y => obtain ⟨_, e⟩ := x; exact Heap.lt_size e
  | xd fs => obtain ⟨_, ⟨_, _, _, e, _⟩, _⟩ := x; exact Heap.lt_size e
  | rng lo hi => obtain ⟨_, _, _, e⟩ := x; exact Heap.lt_size e
  | frz ob u => obtain ⟨e, _⟩ := x; exact Heap.lt_size e
  | tbl ps => exact Heap.lt_size (show h.get? a = some _ from x)
  | met f y => exact Heap.lt_size (show h.get? a = some _ from x)
  | ext φ => obtain ⟨_, ⟨_, e⟩, _⟩ := x; exact Heap.lt_size e
theorem Paired.mapP {α β : Type} {F G : α → β → Prop} : ∀ {l₁ : List α} {l₂ : List β}, Paired F l₁ l₂ → (∀ a b, F a b → G a b) → Paired G l₁ l₂
  | _, _, .nil, _ => .nil
  | _, _, .cons r t, f => .cons (f _ _ r) (Paired.mapP t f)
theorem ObjOk.stay (x : ObjOk P w H h a o) (k : ∀ b u, (b = a ∨ H b = some (.own a)) → h.get? b = some u → h'.get? b = some u)
    (ho : ∀ b, H b = some (.own a) → H' b = some (.own a)) (ht : ∀ b xs, H b = some (.tup xs) → H' b = some (.tup xs)) : ObjOk P w H' h' a o := by
  induction o with
  | lst xs => obtain ⟨z, its, n, r, e⟩ := x; exact ⟨z, its, n, r, k _ _ (.inl rfl) e⟩
  | tup xs => obtain ⟨z, its, r, ob, e, c⟩ := x; exact ⟨z, its, r, ob, k _ _ (.inl rfl) e, c⟩
  | dK kvs => obtain ⟨z, y, vs, r, ob, es, ep, e, c⟩ := x; exact ⟨z, y, vs, r, ob, es, ep, k _ _ (.inl rfl) e, c⟩
  | dT kvs =>
    obtain ⟨z, y, xs, r, ob, es, ep, e, c⟩ := x
    exact ⟨z, y, xs, Paired.mapP r fun p q z => ⟨z.1, ht _ _ z.2.1, z.2.2⟩, ob, es, ep, k _ _ (.inl rfl) e, c⟩
  | set S n => obtain ⟨ob, es, ep, t, e, c⟩ := x; exact ⟨ob, es, ep, t, k _ _ (.inl rfl) e, c⟩
  | ins C dx fs =>
    obtain ⟨d, z, ne, e, mA, ⟨od, es, ep, e2, c⟩, r⟩ := x
    exact ⟨ho _ d, z, ne, k _ _ (.inl rfl) e, mA, ⟨od, es, ep, k _ _ (.inr d) e2, c⟩, r⟩
  | own y => obtain ⟨ob, e⟩ := x; exact ⟨ob, k _ _ (.inl rfl) e⟩
  | xd fs => obtain ⟨mA, ⟨od, es, ep, e, c⟩, r⟩ := x; exact ⟨mA, ⟨od, es, ep, k _ _ (.inl rfl) e, c⟩, r⟩
  | rng lo hi => obtain ⟨t, u, v, e⟩ := x; exact ⟨t, u, v, k _ _ (.inl rfl) e⟩
  | frz ob u ih => obtain ⟨e, q⟩ := x; exact ⟨k _ _ (.inl rfl) e, ih q⟩
  | tbl ps =>
    have e : h.get? a = some { cls := .none, data := .fields ps } := x
    show h'.get? a = some { cls := .none, data := .fields ps }
    exact k a _ (.inl rfl) e
  | met f y =>
    have e : h.get? a = some (PySem.W.methodObj (.ref f) (.ref y)) := x
    show h'.get? a = some (PySem.W.methodObj (.ref f) (.ref y))
    exact k a _ (.inl rfl) e
  | ext φ => obtain ⟨p, ⟨o, e⟩, st⟩ := x; exact ⟨st _ _ p fun o q => k _ _ (.inl rfl) q, ⟨o, k _ _ (.inl rfl) e⟩, st⟩
theorem HOk.lt (x : HOk P w H h) (e : H a = some o) : a < h.objs.size := (x a o e).lt
theorem HOk.fresh (x : HOk P w H h) (e : h.objs.size ≤ a) : H a = none := by
  cases q : H a with
  | none => rfl
  | some u => exact absurd (Nat.lt_of_lt_of_le (x.lt q) e) (Nat.lt_irrefl _)
theorem HOk.kept (x : HOk P w H h) (k : ∀ b u, h.get? b = some u → h'.get? b = some u) : HOk P w H h' := fun a o e =>
  (x a o e).stay (fun b u _ q => k b u q) (fun _ q => q) fun _ _ q => q
theorem HOk.laid (x : HOk P w H h) (k : ∀ b u, h.get? b = some u → h'.get? b = some u) (hp : h.objs.size ≤ a) (new : ObjOk P w (upd H a o) h' a o) : HOk P w (upd H a o) h' := fun b u e => by
  have hn := x.fresh hp
  by_cases hb : b = a
  · subst hb; rw [upd_same] at e; cases e; exact new
  · rw [upd_ne hb] at e
    exact (x b u e).stay (fun c v _ q => k c v q) (fun c q => by rw [upd_ne (ne_of_none q hn)]; exact q) fun c xs q => by rw [upd_ne (ne_of_none q hn)]; exact q
end
def Rd (H : Hp) (a : Addr) (u : HO) : Prop := H a = some u ∨ ∃ o, H a = some (.frz o u)
theorem Rd.ok {P : Program} {w : World} {H : Hp} {h : Heap} {a : Addr} {u : HO} (r : Rd H a u) (x : HOk P w H h) : ObjOk P w H h a u := by
  rcases r with r | ⟨o, r⟩
  · exact x a u r
  · obtain ⟨_, q⟩ := x a _ r
    exact q
def Mut : Option HO → Prop
  | some (.lst _) => True
  | some (.dK _) => True
  | some (.dT _) => True
  | some (.set _ _) => True
  | some (.ins _ _ _) => True
  | some (.ext _) => True
  | _ => False
section
variable {P : Program} {w : World} {H : Hp} {h h' : Heap} {x e : Addr} {o' : HO}
theorem HOk.write (ok : HOk P w H h) (mu : Mut (H x)) (he : e = x ∨ H e = some (.own x)) (k : ∀ b u, b ≠ e → h.get? b = some u → h'.get? b = some u) (heo : ∃ u, h'.get? e = some u)
    (new : ObjOk P w (upd H x o') h' x o') : HOk P w (upd H x o') h' := fun b u q => by
  have nown : ∀ c y, H c = some (.own y) → c ≠ x := fun c y r z => by subst z; rw [r] at mu; exact mu
  have ntup : ∀ c xs, H c = some (.tup xs) → c ≠ x := fun c xs r z => by subst z; rw [r] at mu; exact mu
  by_cases hb : b = x
  · subst hb; rw [upd_same] at q; cases q; exact new
  · rw [upd_ne hb] at q
    by_cases hbe : b = e
    · have q' : H b = some (.own x) := by
        rcases he with z | z
        · exact absurd (hbe.trans z) hb
        · rw [hbe]; exact z
      rw [q] at q'; cases q'
      obtain ⟨v, hv⟩ := heo
      exact ⟨v, by rw [hbe]; exact hv⟩
    · refine (ok b u q).stay (fun c v hc r => k c v ?_ r) (fun c r => by rw [upd_ne (nown c b r)]; exact r) fun c xs r => by rw [upd_ne (ntup c xs r)]; exact r
      rcases hc with rfl | hc
      · exact hbe
      · rintro rfl
        rcases he with z | z
        · exact nown c b hc z
        · rw [hc] at z; cases z; exact hb rfl
end
structure Un (fs ex : List Addr) (H H' : Hp) (h h' : Heap) : Prop where
  keep : ∀ b o, h.get? b = some o → H b = none → b ∉ fs → b ∉ ex → h'.get? b = some o
  slot : ∀ b o, h.get? b = some o → H b = none → b ∈ fs → b ∉ ex → ∃ sl, h'.get? b = some { o with slots := sl }
  free : ∀ b o, h.get? b = some o → H b = none → b ∉ ex → H' b = none
  there : ∀ b o, h.get? b = some o → b ∉ ex → ∃ o', h'.get? b = some o'
  tups : ∀ b xs, H b = some (.tup xs) → H' b = some (.tup xs)
  frzs : ∀ b o u, H b = some (.frz o u) → H' b = some (.frz o u)
  tbls : ∀ b ps, H b = some (.tbl ps) → ∃ more, H' b = some (.tbl (ps ++ more))
section
variable {fs fs' ex ex' : List Addr} {H H1 H2 : Hp} {h h1 h2 h' : Heap} {a x e : Addr} {o : HO}
theorem Un.any (u : Un fs ex H H1 h h1) {b : Addr} {ob : Obj} (q : h.get? b = some ob) (n : H b = none) (hx : b ∉ ex) : ∃ sl, h1.get? b = some { ob with slots := sl } := by
  by_cases hb : b ∈ fs
  · exact u.slot b ob q n hb hx
  · exact ⟨ob.slots, u.keep b ob q n hb hx⟩
theorem Un.kept (k : ∀ b u, h.get? b = some u → h'.get? b = some u) : Un fs ex H H h h' :=
  ⟨fun b ob q _ _ _ => k b ob q, fun b ob q _ _ _ => ⟨ob.slots, k b ob q⟩, fun _ _ _ n _ => n, fun b ob q _ => ⟨ob, k b ob q⟩, fun _ _ q => q, fun _ _ _ q => q, fun _ ps q => ⟨#[], by rw [q]; simp⟩⟩
theorem Un.refl : Un fs ex H H h h := Un.kept fun _ _ q => q
theorem Un.laid (k : ∀ b u, h.get? b = some u → h'.get? b = some u) (hp : h.objs.size ≤ a) (hn : H a = none) : Un fs ex H (upd H a o) h h' where
  keep := fun b u q _ _ _ => k b u q
  slot := fun b u q _ _ _ => ⟨u.slots, k b u q⟩
  free := fun b u q n _ => by rw [upd_ne (Nat.ne_of_lt (Nat.lt_of_lt_of_le (Heap.lt_size q) hp))]; exact n
  there := fun b u q _ => ⟨u, k b u q⟩
  tups := fun b xs q => by rw [upd_ne (ne_of_none q hn)]; exact q
  frzs := fun b u xs q => by rw [upd_ne (ne_of_none q hn)]; exact q
  tbls := fun b ps q => ⟨#[], by rw [upd_ne (ne_of_none q hn), q]; simp⟩
theorem Un.write (mu : Mut (H x)) (he : e = x ∨ H e = some (.own x)) (k : ∀ b u, b ≠ e → h.get? b = some u → h'.get? b = some u) (heo : ∃ u, h'.get? e = some u) : Un fs ex H (upd H x o) h h' := by
  have hx : ∀ b, H b = none → b ≠ x := fun b n z => by subst z; rw [n] at mu; exact mu
  have hb : ∀ b, H b = none → b ≠ e := fun b n z => by
    subst z
    rcases he with r | r
    · exact hx b n r
    · rw [n] at r; cases r
  have hm : ∀ b u, H b = some u → ¬ Mut (some u) → b ≠ x := fun b u q nm z => by subst z; rw [q] at mu; exact nm mu
  refine ⟨fun b u q n _ _ => k b u (hb b n) q, fun b u q n _ _ => ⟨u.slots, k b u (hb b n) q⟩, fun b u q n _ => by rw [upd_ne (hx b n)]; exact n, fun b u q _ => ?_,
    fun b xs q => by rw [upd_ne (hm b _ q fun z => z)]; exact q, fun b u xs q => by rw [upd_ne (hm b _ q fun z => z)]; exact q, fun b ps q => ⟨#[], by rw [upd_ne (hm b _ q fun z => z), q]; simp⟩⟩
  by_cases hbe : b = e
  · subst hbe; exact heo
  · exact ⟨u, k b u hbe q⟩
end
def trk (h : Heap) (H : Hp) : List Addr := (List.range h.objs.size).filter fun a => (H a).isSome
def hidT (h : Heap) (H : Hp) : Heap := PySem.W.hideAll h (trk h H)
theorem hidT_size (h : Heap) (H : Hp) : (hidT h H).objs.size = h.objs.size := PySem.W.hideAll_size _ _
theorem hidT_get {h : Heap} {H : Hp} {b : Addr} {o : Obj} (e : h.get? b = some o) (n : H b = none) : (hidT h H).get? b = some o :=
  PySem.W.hideAll_get _ e fun hm => by
    have q : (H b).isSome = true := (List.mem_filter.mp hm).2
    rw [n] at q; simp at q
theorem of_hidT {h : Heap} {H : Hp} {b : Addr} {o : Obj} (e : (hidT h H).get? b = some o) : h.get? b = some o ∧ H b = none := by
  have e' : h.get? b = some o := PySem.W.of_hideAll (trk h H) e
  refine ⟨e', ?_⟩
  cases q : H b with
  | none => rfl
  | some x =>
    have hm : b ∈ trk h H := List.mem_filter.mpr ⟨List.mem_range.mpr (Heap.lt_size e'), by simp [q]⟩
    have z : (hidT h H).get? b = none := PySem.W.hideAll_none (trk h H) hm
    rw [z] at e; cases e
end L2
namespace L2
open PySem PySem.Spec PyProof.Rows
structure Mod (K : PySem.W.Frag) (mg : Str → Option Value) (base : Heap) : Prop where
  kin : K.In base
  glob : base.Ns mainGlobals mg
  blt : ∃ mb, base.Ns builtinsNs mb ∧ ∀ x : Str, x ≠ "__name__" → mb x = bootBuiltins x
  nolimit : base.NoLimit
structure Cx where
  prog : Program
  w : World
  K : PySem.W.Frag
  mg : Str → Option Value
  base : Heap
  A : Around
  N : List Str
  s_0 : Shared
  H_0 : Hp
  env : Env
  outer : List Env
  stack : List Env
  ex : List Addr
  fn : Str → Bool
  calm : Bool
  pn : List (Addr × Obj)
  xe : Value → Shared → Prop
def frs (l : List Env) : List Addr := l.filterMap (·.frame)
abbrev Cx.fs (X : Cx) : List Addr := frs X.outer
def Vis (sc : Scope) (x : Str) : Prop := sc.names.lookup x = some .local ∨ sc.names.lookup x = some .cell ∨ sc.names.lookup x = some .free
def Loc (sc : Scope) (x : Str) : Prop := sc.names.lookup x = some .local ∨ sc.names.lookup x = some .cell
def Look (env : Env) (h : Heap) (m : Str → Option Value) (x : Str) (u : Value) : Prop :=
  (env.kindOf x = some .local ∧ m x = some u) ∨ ((env.kindOf x = some .cell ∨ env.kindOf x = some .free) ∧ ∃ c, env.cells.lookup x = some c ∧ h.IsCell c (some u))
structure Cx.Ok (X : Cx) : Prop where
  mod : Mod X.K X.mg X.base
  kind : X.env.scope.kind = .function
  glob : X.env.globals = mainGlobals
  blt : X.env.builtins = builtinsNs
  above : X.s_0.heap.objs.size ≤ X.env.locals
  inj : ∀ x y c, X.env.cells.lookup x = some c → X.env.cells.lookup y = some c → x = y
  has : ∀ x, (X.env.kindOf x = some .cell ∨ X.env.kindOf x = some .free) → ∃ c, X.env.cells.lookup x = some c
  cab : ∀ x c, X.fn x = true → X.env.cells.lookup x = some c → X.s_0.heap.objs.size ≤ c
  hd : X.calm = true → X.A.handled = none
  frames : X.A.frames = some X.stack
  stk : X.stack = X.outer ∨ (X.stack = X.env :: X.outer ∧ X.env.frame = some X.env.locals)
  exf : ∀ b ∈ X.ex, b ≠ X.env.locals ∧ ∀ x c, X.env.cells.lookup x = some c → c ≠ b
  bs : ∀ b o, X.base.get? b = some o → X.s_0.heap.get? b = some o ∧ X.H_0 b = none
  bsz : X.base.objs.size ≤ X.s_0.heap.objs.size
  noex : ∀ b o, X.base.get? b = some o → b ∉ X.ex
  exfs : ∀ b ∈ X.ex, b ∉ X.fs
  funs : X.s_0.heap.FunFrames X.base X.outer
  frf : ∀ b ∈ X.fs, X.H_0 b = none
structure Inv (X : Cx) (pins : List (Addr × Obj)) (σ : List (Option V)) (H : Hp) (s : Shared) : Prop where
  ok : X.Ok
  os : s.os = X.s_0.os
  bare : AllBare s.gens
  base : Un X.fs X.ex X.H_0 H X.s_0.heap s.heap
  loc : ∃ m, s.heap.Ns X.env.locals m ∧ ∀ (i : Nat) (x : Str) (v : V), X.N[i]? = some x → σ[i]? = some (some v) → Vis X.env.scope x → ∃ u, RelV v u ∧ Look X.env s.heap m x u
  cell : ∀ x c, X.env.cells.lookup x = some c → ∃ v, s.heap.IsCell c v
  free : H X.env.locals = none
  freeC : ∀ x c, X.env.cells.lookup x = some c → H c = none
  pin : ∀ p ∈ X.pn ++ pins, s.heap.get? p.1 = some p.2 ∧ H p.1 = none ∧ p.1 ≠ X.env.locals ∧ p.1 ∉ X.fs ∧ ∀ v, p.2.data ≠ .cell v
  hok : HOk X.prog X.w H s.heap
  len : σ.length = X.N.length
section
variable {X : Cx} {pins : List (Addr × Obj)} {σ : List (Option V)} {H H' : Hp} {s : Shared} {h' : Heap}
theorem Cx.Ok.nofr (ok : X.Ok) {b : Addr} {o : Obj} (e : X.base.get? b = some o) : b ∉ X.fs := fun hb => by
  have := (ok.funs.mem hb).1
  rw [e] at this; cases this
theorem Inv.bs (I : Inv X pins σ H s) : ∀ b o, X.base.get? b = some o → s.heap.get? b = some o ∧ H b = none := fun b o e =>
  ⟨I.base.keep b o (I.ok.bs b o e).1 (I.ok.bs b o e).2 (I.ok.nofr e) (I.ok.noex b o e), I.base.free b o (I.ok.bs b o e).1 (I.ok.bs b o e).2 (I.ok.noex b o e)⟩
theorem Inv.bk (I : Inv X pins σ H s) : ∀ b o, X.base.get? b = some o → s.heap.get? b = some o := fun b o e => (I.bs b o e).1
theorem Inv.mod (I : Inv X pins σ H s) : Mod X.K X.mg X.base := I.ok.mod
theorem Inv.kIn (I : Inv X pins σ H s) : X.K.In s.heap := I.ok.mod.kin.keeps I.bk
theorem Inv.lt (I : Inv X pins σ H s) : X.env.locals < s.heap.objs.size := let ⟨_, hn, _⟩ := I.loc; hn.lt
theorem Inv.sz (I : Inv X pins σ H s) : X.s_0.heap.objs.size ≤ s.heap.objs.size := Nat.le_trans I.ok.above (Nat.le_of_lt I.lt)
theorem Inv.nofs (I : Inv X pins σ H s) {a : Addr} (h : s.heap.objs.size ≤ a) : a ∉ X.fs := fun hb => by
  obtain ⟨_, o, ho, _⟩ := I.ok.funs.mem hb
  exact absurd (Nat.lt_of_lt_of_le (Heap.lt_size ho) (Nat.le_trans I.sz h)) (Nat.lt_irrefl _)
theorem Inv.cne (I : Inv X pins σ H s) : ∀ x c, X.env.cells.lookup x = some c → c ≠ X.env.locals := fun x c e z => by
  obtain ⟨v, o, ho, hd⟩ := I.cell x c e
  obtain ⟨m, ⟨o', es, ep, ho', hd', _⟩, _⟩ := I.loc
  rw [z, ho'] at ho; cases ho; rw [hd'] at hd; cases hd
theorem Inv.funs (I : Inv X pins σ H s) : s.heap.FunFrames X.base X.outer := by
  have all : ∀ (l : List Env), (∀ b ∈ frs l, b ∈ X.fs) → X.s_0.heap.FunFrames X.base l → s.heap.FunFrames X.base l := by
    intro l
    induction l with
    | nil => intro _ _; trivial
    | cons env r ih =>
      intro hs hl
      obtain ⟨hk, ⟨L, o, hf, hn, ho, hd⟩, hr⟩ := hl
      have hL : L ∈ X.fs := hs L (by unfold frs; rw [List.filterMap_cons, hf]; exact List.mem_cons_self)
      obtain ⟨sl, e⟩ := I.base.slot L o ho (I.ok.frf L hL) hL fun z => I.ok.exfs L z hL
      exact ⟨hk, ⟨L, _, hf, hn, e, hd⟩, ih (fun b hb => hs b (by unfold frs; rw [List.filterMap_cons, hf]; exact List.mem_cons_of_mem _ hb)) hr⟩
  exact all X.outer (fun _ hb => hb) I.ok.funs
theorem Inv.stack (I : Inv X pins σ H s) : s.heap.FunFrames X.base X.stack := by
  rcases I.ok.stk with e | ⟨e, hf⟩
  · rw [e]; exact I.funs
  · rw [e]
    obtain ⟨m, hn, _⟩ := I.loc
    refine .cons (by rw [I.ok.kind]; decide) hf hn ?_ I.funs
    exact Heap.get?_none_of_le (Nat.le_trans I.ok.bsz I.ok.above)
theorem Inv.stkSub (I : Inv X pins σ H s) : ∀ b ∈ frs X.stack, b ∈ X.env.locals :: X.fs := fun b hb => by
  rcases I.ok.stk with e | ⟨e, hf⟩
  · rw [e] at hb; exact List.mem_cons_of_mem _ hb
  · rw [e] at hb
    unfold frs at hb
    rw [List.filterMap_cons, hf] at hb
    exact hb
theorem Inv.stkFree (I : Inv X pins σ H s) : ∀ b ∈ frs X.stack, H b = none := fun b hb => by
  rcases List.mem_cons.mp (I.stkSub b hb) with e | hb
  · rw [e]; exact I.free
  · obtain ⟨_, o, ho, _⟩ := I.ok.funs.mem hb
    exact I.base.free b o ho (I.ok.frf b hb) fun z => I.ok.exfs b z hb
theorem Inv.step {g' : Array GenState} {t' : Nat} {d' : Drawn} {ch : List Addr} (I : Inv X pins σ H s)
    (hch : ∀ b ∈ ch, (b ∈ X.ex ∨ X.s_0.heap.objs.size ≤ b) ∧ b ≠ X.env.locals ∧ (∀ x c, X.env.cells.lookup x = some c → c ≠ b) ∧ ∀ p ∈ X.pn ++ pins, p.1 ≠ b)
    (keep : ∀ b o, b ≠ X.env.locals → b ∉ X.fs → b ∉ ch → s.heap.get? b = some o → H b = none → h'.get? b = some o)
    (slot : ∀ b o, b ≠ X.env.locals → b ∈ X.fs → b ∉ ch → s.heap.get? b = some o → H b = none → ∃ sl, h'.get? b = some { o with slots := sl }) (free : ∀ b o, b ∉ ch → s.heap.get? b = some o → H b = none → H' b = none)
    (there : ∀ b o, b ∉ ch → s.heap.get? b = some o → ∃ o', h'.get? b = some o')
    (tups : ∀ b xs, H b = some (.tup xs) → H' b = some (.tup xs)) (frzs : ∀ b o u, H b = some (.frz o u) → H' b = some (.frz o u)) (tbls : ∀ b ps, H b = some (.tbl ps) → ∃ more, H' b = some (.tbl (ps ++ more)))
    (ns : ∀ m, s.heap.Ns X.env.locals m → h'.Ns X.env.locals m) (hok : HOk X.prog X.w H' h') (hg : AllBare g') :
    Inv X pins σ H' { s with heap := h', gens := g', drawn := d', toks := t' } := by
  have neL : ∀ b o, X.s_0.heap.get? b = some o → b ≠ X.env.locals := fun b o e => Nat.ne_of_lt (Nat.lt_of_lt_of_le (Heap.lt_size e) I.ok.above)
  have neC : ∀ b o, X.s_0.heap.get? b = some o → b ∉ X.ex → b ∉ ch := fun b o e hx hb => by
    rcases (hch b hb).1 with z | z
    · exact hx z
    · exact absurd (Nat.lt_of_lt_of_le (Heap.lt_size e) z) (Nat.lt_irrefl _)
  have cellK : ∀ x c, X.env.cells.lookup x = some c → ∀ v, s.heap.IsCell c v → h'.IsCell c v := fun x c e v ⟨o, ho, hd⟩ => by
    have nch : c ∉ ch := fun z => (hch c z).2.2.1 x c e rfl
    by_cases hc : c ∈ X.fs
    · obtain ⟨sl, q⟩ := slot c o (I.cne x c e) hc nch ho (I.freeC x c e)
      exact ⟨_, q, hd⟩
    · exact ⟨o, keep c o (I.cne x c e) hc nch ho (I.freeC x c e), hd⟩
  refine ⟨I.ok, I.os, hg, ⟨fun b o e n hb hx => ?_, fun b o e n hb hx => ?_, fun b o e n hx => ?_, fun b o e hx => ?_, fun b xs e => tups b xs (I.base.tups b xs e), fun b o xs e => frzs b o xs (I.base.frzs b o xs e), fun b ps e => ?_⟩, ?_, fun x c e => ?_, ?_, fun x c e => ?_, fun p hp => ?_, hok, I.len⟩
  · exact keep b o (neL b o e) hb (neC b o e hx) (I.base.keep b o e n hb hx) (I.base.free b o e n hx)
  · obtain ⟨sl, e1⟩ := I.base.slot b o e n hb hx
    obtain ⟨sl', e2⟩ := slot b _ (neL b o e) hb (neC b o e hx) e1 (I.base.free b o e n hx)
    exact ⟨sl', e2⟩
  · obtain ⟨o', e1⟩ := I.base.there b o e hx
    exact free b o' (neC b o e hx) e1 (I.base.free b o e n hx)
  · obtain ⟨o', e1⟩ := I.base.there b o e hx
    exact there b o' (neC b o e hx) e1
  · obtain ⟨m1, e1⟩ := I.base.tbls b ps e
    obtain ⟨m2, e2⟩ := tbls b _ e1
    exact ⟨m1 ++ m2, by rw [e2, Array.append_assoc]⟩
  · obtain ⟨m, hn, hl⟩ := I.loc
    refine ⟨m, ns m hn, fun i x v e1 e2 e3 => ?_⟩
    obtain ⟨u, r, l⟩ := hl i x v e1 e2 e3
    refine ⟨u, r, ?_⟩
    rcases l with l | ⟨k, c, e, z⟩
    · exact .inl l
    · exact .inr ⟨k, c, e, cellK x c e _ z⟩
  · obtain ⟨v, z⟩ := I.cell x c e
    exact ⟨v, cellK x c e v z⟩
  · obtain ⟨m, ⟨o, _, _, ho, _⟩, _⟩ := I.loc
    exact free _ o (fun z => (hch _ z).2.1 rfl) ho I.free
  · obtain ⟨v, o, ho, hd⟩ := I.cell x c e
    exact free c o (fun z => (hch c z).2.2.1 x c e rfl) ho (I.freeC x c e)
  · obtain ⟨e, n, ne, nf, d⟩ := I.pin p hp
    have nch : p.1 ∉ ch := fun z => (hch p.1 z).2.2.2 p hp rfl
    exact ⟨keep p.1 p.2 ne nf nch e n, free p.1 p.2 nch e n, ne, nf, d⟩
theorem Inv.un {t' : Nat} (I : Inv X pins σ H s) (u : Un X.fs [] H H' s.heap h') (hok : HOk X.prog X.w H' h') : Inv X pins σ H' { s with heap := h', toks := t' } := by
  obtain ⟨m, ⟨o, es, ep, ho, r⟩, _⟩ := id I.loc
  obtain ⟨sl, hL⟩ := u.any ho I.free (by simp)
  exact I.step (g' := s.gens) (d' := s.drawn) (ch := []) (fun _ z => nomatch z) (fun b o _ hb _ e n => u.keep b o e n hb (by simp)) (fun b o _ hb _ e n => u.slot b o e n hb (by simp)) (fun b o _ e n => u.free b o e n (by simp)) (fun b o _ e => u.there b o e (by simp)) u.tups u.frzs u.tbls (fun m' hm => by
    obtain ⟨o', es', ep', ho', r'⟩ := hm
    rw [ho] at ho'; cases ho'
    exact ⟨_, es', ep', hL, r'⟩) hok I.bare
theorem Inv.call {g' : Array GenState} {t' : Nat} {d' : Drawn} {ch : List Addr} (I : Inv X pins σ H s) (u : Un (frs X.stack) ch H H' s.heap h') (hok : HOk X.prog X.w H' h') (hg : AllBare g')
    (hch : ∀ b ∈ ch, (b ∈ X.ex ∨ X.s_0.heap.objs.size ≤ b) ∧ b ≠ X.env.locals ∧ (∀ x c, X.env.cells.lookup x = some c → c ≠ b) ∧ ∀ p ∈ X.pn ++ pins, p.1 ≠ b) :
    Inv X pins σ H' { s with heap := h', gens := g', drawn := d', toks := t' } := by
  obtain ⟨m, ⟨o, es, ep, ho, r⟩, _⟩ := id I.loc
  obtain ⟨sl, hL⟩ := u.any ho I.free fun z => (hch _ z).2.1 rfl
  exact I.step (ch := ch) hch (fun b o hL hb hc e n => u.keep b o e n (fun z => (List.mem_cons.mp (I.stkSub b z)).elim hL hb) hc) (fun b o _ _ hc e n => u.any e n hc) (fun b o hc e n => u.free b o e n hc) (fun b o hc e => u.there b o e hc) u.tups u.frzs u.tbls (fun m' hm => by
    obtain ⟨o', es', ep', ho', r'⟩ := hm
    rw [ho] at ho'; cases ho'
    exact ⟨_, es', ep', hL, r'⟩) hok hg
theorem Inv.turned {t' : Nat} {it : Addr} (I : Inv X pins σ H s) (k : ∀ b o, b ≠ it → s.heap.get? b = some o → h'.get? b = some o) (hn : H it = none) (hL : it ≠ X.env.locals)
    (h1 : it ∈ X.ex ∨ X.s_0.heap.objs.size ≤ it) (h2 : ∀ x c, X.env.cells.lookup x = some c → c ≠ it) (h3 : ∀ p ∈ X.pn ++ pins, p.1 ≠ it) : Inv X pins σ H { s with heap := h', toks := t' } := by
  have nit : ∀ b u, H b = some u → b ≠ it := fun b u e z => by rw [z, hn] at e; cases e
  refine I.step (g' := s.gens) (d' := s.drawn) (ch := [it]) (fun b hb => ?_) (fun b o _ _ hc e _ => k b o (fun z => hc (by simp [z])) e) (fun b o _ _ hc e _ => ⟨o.slots, k b o (fun z => hc (by simp [z])) e⟩) (fun _ _ _ _ n => n)
    (fun b o hc e => ⟨o, k b o (fun z => hc (by simp [z])) e⟩) (fun _ _ e => e) (fun _ _ _ e => e) (fun b ps e => ⟨#[], by rw [e]; simp⟩) (fun m hm => ?_) (fun b u e => ?_) I.bare
  · have e : b = it := by simpa using hb
    subst e
    exact ⟨h1, hL, h2, h3⟩
  · obtain ⟨o, es, ep, ho, r⟩ := hm
    exact ⟨o, es, ep, k _ o (Ne.symm hL) ho, r⟩
  · refine (I.hok b u e).stay (fun c v hc q => k c v ?_ q) (fun _ q => q) fun _ _ q => q
    rcases hc with z | z
    · rw [z]; exact nit b u e
    · exact nit c _ z
theorem Inv.tok (I : Inv X pins σ H s) (t : Nat) : Inv X pins σ H { s with toks := t } := I.un (h' := s.heap) (t' := t) Un.refl I.hok
theorem Inv.kept {t' : Nat} (I : Inv X pins σ H s) (k : ∀ b u, s.heap.get? b = some u → h'.get? b = some u) : Inv X pins σ H { s with heap := h', toks := t' } := I.un (Un.kept k) (I.hok.kept k)
theorem Inv.laid {a : Addr} {o : HO} {t' : Nat} (I : Inv X pins σ H s) (k : ∀ b u, s.heap.get? b = some u → h'.get? b = some u) (hp : s.heap.objs.size ≤ a) (new : ObjOk X.prog X.w (upd H a o) h' a o) :
    Inv X pins σ (upd H a o) { s with heap := h', toks := t' } := I.un (Un.laid k hp (I.hok.fresh hp)) (I.hok.laid k hp new)
theorem Inv.write {x e : Addr} {o : HO} {t' : Nat} (I : Inv X pins σ H s) (mu : Mut (H x)) (he : e = x ∨ H e = some (.own x)) (k : ∀ b u, b ≠ e → s.heap.get? b = some u → h'.get? b = some u) (heo : ∃ u, h'.get? e = some u)
    (new : ObjOk X.prog X.w (upd H x o) h' x o) : Inv X pins σ (upd H x o) { s with heap := h', toks := t' } := I.un (Un.write mu he k heo) (I.hok.write mu he k heo new)
theorem Inv.weak {σ' : List (Option V)} (I : Inv X pins σ H s) (hl : σ'.length = σ.length) (w : ∀ (i : Nat) v, σ'[i]? = some (some v) → σ[i]? = some (some v)) : Inv X pins σ' H s :=
  ⟨I.ok, I.os, I.bare, I.base, let ⟨m, hn, hl'⟩ := I.loc; ⟨m, hn, fun i x v e1 e2 e3 => hl' i x v e1 (w i v e2) e3⟩, I.cell, I.free, I.freeC, I.pin, I.hok, hl.trans I.len⟩
theorem Inv.pins_of {pins' : List (Addr × Obj)} (I : Inv X pins σ H s) (h : ∀ p ∈ pins', s.heap.get? p.1 = some p.2 ∧ H p.1 = none ∧ p.1 ≠ X.env.locals ∧ p.1 ∉ X.fs ∧ ∀ v, p.2.data ≠ .cell v) : Inv X pins' σ H s :=
  ⟨I.ok, I.os, I.bare, I.base, I.loc, I.cell, I.free, I.freeC, fun p hp => (List.mem_append.mp hp).elim (fun z => I.pin p (List.mem_append_left _ z)) (h p), I.hok, I.len⟩
theorem nodup_ix {N : List Str} (hN : N.Nodup) {i j : Nat} {x : Str} (a : N[i]? = some x) (b : N[j]? = some x) : i = j := by
  obtain ⟨h1, e1⟩ := List.getElem?_eq_some_iff.mp a
  obtain ⟨h2, e2⟩ := List.getElem?_eq_some_iff.mp b
  exact (List.getElem_inj hN).mp (e1.trans e2.symm)
theorem store_ok2 {M : Model} {A : Around} {E : Value → Shared → Prop} {i : Nat} {x : Str} {v : V} {u : Value} {Q : Unit → Shared → Prop} (I : Inv X pins σ H s) (hN : X.N.Nodup) (hi : X.N[i]? = some x) (hx : Loc X.env.scope x) (r : RelV v u)
    (h : ∀ s', Inv X pins (σ.set i (some v)) H s' → (∃ a, Heap.SameBut a s.heap s'.heap ∧ (a = X.env.locals ∨ X.env.cells.lookup x = some a)) → Q () s') (hf : X.fn x = true ∨ X.env.scope.names.lookup x = some .local := by first | exact .inl rfl | exact .inr rfl | assumption) : wpAny M A (storeName X.env x u) Q E s := by
  obtain ⟨m, hn, hl⟩ := id I.loc
  have hcls : (X.env.scope.kind == .class || (X.env.scope.kind == .module && X.env.locals != X.env.globals)) = false := by rw [I.ok.kind]; rfl
  have hiσ : i < σ.length := by rw [I.len]; exact (List.getElem?_eq_some_iff.mp hi).1
  have cne := I.cne
  have tracked : ∀ {a : Addr} {h' : Heap}, (∃ o, s.heap.get? a = some o ∧ H a = none) → Heap.SameBut a s.heap h' → HOk X.prog X.w H h' := fun {a h'} ha hs b ob e => by
    obtain ⟨_, _, hfree⟩ := ha
    refine (I.hok b ob e).stay (fun c w' hc q => (hs.2 c ?_).trans q) (fun _ q => q) fun _ _ q => q
    rintro rfl
    rcases hc with rfl | hc
    · rw [hfree] at e; cases e
    · rw [hfree] at hc; cases hc
  rcases hx with hk | hk
  · refine wpAny_storeName_local hk hn (fun h' hn' hs => ?_) hcls
    obtain ⟨oL, _, _, hoL, _⟩ := id hn
    refine h _ ⟨I.ok, I.os, I.bare, ⟨fun b o e n hb hx => ?_, fun b o e n hb hx => ?_, I.base.free, fun b o e hx => ?_, I.base.tups, I.base.frzs, I.base.tbls⟩, ⟨_, hn', fun j y v' e1 e2 e3 => ?_⟩, fun y c e => ?_, I.free, I.freeC, fun p hp => ?_, tracked ⟨oL, hoL, I.free⟩ hs, by simpa using I.len⟩ ⟨_, hs, .inl rfl⟩
    · exact (hs.2 b (Nat.ne_of_lt (Nat.lt_of_lt_of_le (Heap.lt_size e) I.ok.above))).trans (I.base.keep b o e n hb hx)
    · obtain ⟨sl, e1⟩ := I.base.slot b o e n hb hx
      exact ⟨sl, (hs.2 b (Nat.ne_of_lt (Nat.lt_of_lt_of_le (Heap.lt_size e) I.ok.above))).trans e1⟩
    · obtain ⟨o', e1⟩ := I.base.there b o e hx
      exact ⟨o', (hs.2 b (Nat.ne_of_lt (Nat.lt_of_lt_of_le (Heap.lt_size e) I.ok.above))).trans e1⟩
    · by_cases hj : j = i
      · subst hj
        rw [hi] at e1; cases e1
        rw [List.getElem?_set_self hiσ] at e2
        cases e2
        exact ⟨u, r, .inl ⟨hk, by simp⟩⟩
      · rw [List.getElem?_set_ne (Ne.symm hj)] at e2
        obtain ⟨u', r', q⟩ := hl j y v' e1 e2 e3
        refine ⟨u', r', ?_⟩
        rcases q with ⟨k, e⟩ | ⟨k, c, e, z⟩
        · refine .inl ⟨k, ?_⟩
          have : y ≠ x := fun e => hj (nodup_ix hN e1 (e ▸ hi))
          simp [this, e]
        · exact .inr ⟨k, c, e, z.sameBut hs (cne y c e)⟩
    · obtain ⟨w', z⟩ := I.cell y c e
      exact ⟨w', z.sameBut hs (cne y c e)⟩
    · obtain ⟨e, n, ne, nf, d⟩ := I.pin p hp
      exact ⟨(hs.2 p.1 ne).trans e, n, ne, nf, d⟩
  · have hfn : X.fn x = true := by
      rcases hf with z | z
      · exact z
      · rw [z] at hk; cases hk
    obtain ⟨c, hc⟩ := I.ok.has x (.inl hk)
    obtain ⟨w', z⟩ := I.cell x c hc
    refine wpAny_storeName_cell I.ok.kind hk hc z (fun h' hc' hs => ?_)
    obtain ⟨oc, hoc, hocd⟩ := id z
    refine h { s with heap := h' } ⟨I.ok, I.os, I.bare, ⟨fun b o e n hb hx => ?_, fun b o e n hb hx => ?_, I.base.free, fun b o e hx => ?_, I.base.tups, I.base.frzs, I.base.tbls⟩, ⟨m, hn.sameBut hs (Ne.symm (cne x c hc)), fun j y v' e1 e2 e3 => ?_⟩, fun y c' e => ?_, I.free, I.freeC, fun p hp => ?_, tracked ⟨oc, hoc, I.freeC x c hc⟩ hs, by simpa using I.len⟩ ⟨c, hs, .inr hc⟩
    · exact (hs.2 b (Nat.ne_of_lt (Nat.lt_of_lt_of_le (Heap.lt_size e) (I.ok.cab x c hfn hc)))).trans (I.base.keep b o e n hb hx)
    · obtain ⟨sl, e1⟩ := I.base.slot b o e n hb hx
      exact ⟨sl, (hs.2 b (Nat.ne_of_lt (Nat.lt_of_lt_of_le (Heap.lt_size e) (I.ok.cab x c hfn hc)))).trans e1⟩
    · obtain ⟨o', e1⟩ := I.base.there b o e hx
      exact ⟨o', (hs.2 b (Nat.ne_of_lt (Nat.lt_of_lt_of_le (Heap.lt_size e) (I.ok.cab x c hfn hc)))).trans e1⟩
    · by_cases hj : j = i
      · subst hj
        rw [hi] at e1; cases e1
        rw [List.getElem?_set_self hiσ] at e2
        cases e2
        exact ⟨u, r, .inr ⟨.inl hk, c, hc, hc'⟩⟩
      · rw [List.getElem?_set_ne (Ne.symm hj)] at e2
        obtain ⟨u', r', q⟩ := hl j y v' e1 e2 e3
        refine ⟨u', r', ?_⟩
        rcases q with q | ⟨k, c', e, z'⟩
        · exact .inl q
        · refine .inr ⟨k, c', e, z'.sameBut hs ?_⟩
          rintro rfl
          exact hj (nodup_ix hN e1 (I.ok.inj _ _ _ e hc ▸ hi))
    · by_cases hcc : c' = c
      · subst hcc; exact ⟨_, hc'⟩
      · obtain ⟨w2, z2⟩ := I.cell y c' e
        exact ⟨w2, z2.sameBut hs hcc⟩
    · obtain ⟨e, n, ne, nf, d⟩ := I.pin p hp
      refine ⟨(hs.2 p.1 ?_).trans e, n, ne, nf, d⟩
      intro q
      rw [q, hoc] at e
      have q' : oc = p.2 := Option.some.inj e
      exact d w' (by rw [← q']; exact hocd)
theorem store_ok {M : Model} {A : Around} {E : Value → Shared → Prop} {i : Nat} {x : Str} {v : V} {u : Value} {Q : Unit → Shared → Prop} (I : Inv X pins σ H s) (hN : X.N.Nodup) (hi : X.N[i]? = some x) (hx : Loc X.env.scope x) (r : RelV v u)
    (h : ∀ s', Inv X pins (σ.set i (some v)) H s' → Q () s') (hf : X.fn x = true ∨ X.env.scope.names.lookup x = some .local := by first | exact .inl rfl | exact .inr rfl | assumption) : wpAny M A (storeName X.env x u) Q E s :=
  store_ok2 I hN hi hx r (fun s' I' _ => h s' I') hf
theorem Inv.call' {s' : Shared} {ch : List Addr} (I : Inv X pins σ H s) (ho : s'.os = s.os) (u : Un (frs X.stack) ch H H' s.heap s'.heap) (hok : HOk X.prog X.w H' s'.heap) (hg : AllBare s'.gens)
    (hch : ∀ b ∈ ch, (b ∈ X.ex ∨ X.s_0.heap.objs.size ≤ b) ∧ b ≠ X.env.locals ∧ (∀ x c, X.env.cells.lookup x = some c → c ≠ b) ∧ ∀ p ∈ X.pn ++ pins, p.1 ≠ b) : Inv X pins σ H' s' := by
  obtain ⟨h', g', d', t', o'⟩ := s'
  have e : o' = s.os := ho
  subst e
  exact I.call (g' := g') (t' := t') (d' := d') u hok hg hch
end
abbrev XK := Value → Option Addr → Hp → Prop
abbrev St := List (Option V)
abbrev VK := V → Hp → Prop
abbrev TE := St → Hp → VK → Prop
abbrev TT := St → Hp → (Bool → Hp → Prop) → Prop
abbrev TA := St → Hp → (List V → Hp → Prop) → Prop
structure Ends where
  nx : St → Hp → Prop
  rt : VK
  bk : St → Hp → Prop := fun _ _ => False
  ct : St → Hp → Prop := fun _ _ => False
abbrev TS := Ends → St → Hp → Prop
def EP (X : Cx) (pins : List (Addr × Obj)) (σ : St) (Q : VK) (u : Value) (s' : Shared) : Prop := ∃ v H', Inv X pins σ H' s' ∧ RelV v u ∧ Q v H'
def TP (X : Cx) (pins : List (Addr × Obj)) (σ : St) (Q : Bool → Hp → Prop) (b : Bool) (s' : Shared) : Prop := ∃ H', Inv X pins σ H' s' ∧ Q b H'
def AP (X : Cx) (pins : List (Addr × Obj)) (σ : St) (Q : List V → Hp → Prop) (us : List Value) (s' : Shared) : Prop := ∃ vs H', Inv X pins σ H' s' ∧ Vals vs us ∧ Q vs H'
def SP (X : Cx) (pins : List (Addr × Obj)) (D : Ends) (f : Flow) (s' : Shared) : Prop :=
  match f with
  | .next => ∃ σ' H', Inv X pins σ' H' s' ∧ D.nx σ' H'
  | .brk => ∃ σ' H', Inv X pins σ' H' s' ∧ D.bk σ' H'
  | .cont => ∃ σ' H', Inv X pins σ' H' s' ∧ D.ct σ' H'
  | .ret u => ∃ v σ' H', Inv X pins σ' H' s' ∧ RelV v u ∧ D.rt v H'
def PE (X : Cx) (e : Expr) (t : TE) : Prop :=
  ∀ (pins : List (Addr × Obj)) (s : Shared) (σ : St) (H : Hp) (Q : VK), Inv X pins σ H s → t σ H Q → wpAny (model X.prog X.w) X.A (eval e X.env) (EP X pins σ Q) X.xe s
def PT (X : Cx) (e : Expr) (t : TT) : Prop :=
  ∀ (pins : List (Addr × Obj)) (s : Shared) (σ : St) (H : Hp) (Q : Bool → Hp → Prop), Inv X pins σ H s → t σ H Q → wpAny (model X.prog X.w) X.A (isTrue e X.env (eval e X.env)) (TP X pins σ Q) X.xe s
def PW (X : Cx) (e : Expr) (t : TT) : Prop :=
  ∀ (whole : Sem Value) (pins : List (Addr × Obj)) (s : Shared) (σ : St) (H : Hp) (Q : Bool → Hp → Prop), Inv X pins σ H s → t σ H Q → wpAny (model X.prog X.w) X.A (isTrue e X.env whole) (TP X pins σ Q) X.xe s
theorem PW.pt {X : Cx} {e : Expr} {t : TT} (h : PW X e t) : PT X e t := h _
def PA (X : Cx) (es : List Expr) (t : TA) : Prop :=
  ∀ (pos : Pos) (pins : List (Addr × Obj)) (s : Shared) (σ : St) (H : Hp) (Q : List V → Hp → Prop), Inv X pins σ H s → t σ H Q → wpAny (model X.prog X.w) X.A (spliced (backTo pos (starEach es X.env))) (AP X pins σ Q) X.xe s
def PS (X : Cx) (st : Stmt) (t : TS) : Prop :=
  ∀ (pins : List (Addr × Obj)) (s : Shared) (σ : St) (H : Hp) (D : Ends), Inv X pins σ H s → t D σ H → wpAny (model X.prog X.w) X.A (exec st X.env) (SP X pins D) X.xe s
def PSs (X : Cx) (st : List Stmt) (t : TS) : Prop :=
  ∀ (pins : List (Addr × Obj)) (s : Shared) (σ : St) (H : Hp) (D : Ends), Inv X pins σ H s → t D σ H → wpAny (model X.prog X.w) X.A (execs st X.env) (SP X pins D) X.xe s
theorem thn {α : Type} {t : Sem α} {Q Q' : α → Shared → Prop} {M : Model} {A : Around} {E : Value → Shared → Prop} {s : Shared} (h : wpAny M A t Q E s) (hQ : ∀ a s, Q a s → Q' a s) : wpAny M A t Q' E s := wpAny_mono h hQ fun _ _ x => x
end L2
namespace L2
open PySem PySem.Spec PyProof.Rows
section
variable {X : Cx}
def tVar (i : Nat) : TE := fun σ H Q => ∃ v, σ[i]? = some (some v) ∧ Q v H
def tC (v : V) : TE := fun _ H Q => Q v H
theorem pe_var {i : Nat} {x : Str} {pos : Pos} (hN : X.N[i]? = some x) (hv : Vis X.env.scope x) (hd : (x == ("__debug__" : Str)) = false := by decide) (hcd : (x == ("__classdict__" : Str)) = false := by decide) : PE X (.Name x pos) (tVar i) := by
  intro pins s σ H Q I h
  obtain ⟨v, e, h⟩ := h
  obtain ⟨m, hn, hl⟩ := I.loc
  obtain ⟨u, r, l⟩ := hl i x v hN e hv
  have fin : EP X pins σ Q u s := ⟨v, H, I, r, h⟩
  rcases l with ⟨hk, hm⟩ | ⟨hk, c, hc, hcell⟩
  · exact wpAny_Name (wpAny_loadName_local I.ok.kind hk hn hm fin) hd
  · rcases hk with hk | hk
    · exact wpAny_Name (wpAny_loadName_cell I.ok.kind hk hc hcell fin) hd
    · exact wpAny_Name (wpAny_loadName_free I.ok.kind hk hc hcell fin hcd) hd
theorem pe_int {i j pos} : PE X (.Constant (.int i) j pos) (tC (.int i)) := fun _ _ _ H _ I h => wpAny_Constant_int ⟨.int i, H, I.tok _, ⟨_, rfl⟩, h⟩
theorem pe_bl {b j pos} : PE X (.Constant (.bool b) j pos) (tC (.bl b)) := fun _ _ _ H _ I h => Constant_bool ⟨.bl b, H, I, rfl, h⟩
def Gl (X : Cx) (x : Str) : Prop := X.env.kindOf x = some .globalImplicit
theorem ld_glob {E : Value → Shared → Prop} {pins : List (Addr × Obj)} {s : Shared} {σ : St} {H : Hp} {x : Str} {u : Value} {pos : Pos} {Q : Value → Shared → Prop} (I : Inv X pins σ H s) (hg : Gl X x) (hm : X.mg x = some u) (h : Q u s)
    (hd : (x == ("__debug__" : Str)) = false := by decide) : wpAny (model X.prog X.w) X.A (eval (.Name x pos) X.env) Q E s :=
  Calls.Name_function_global I.ok.kind hg (Calls.loadGlobal_global (by rw [I.ok.glob]; exact I.mod.glob.keeps I.bk) hm h) hd
theorem ld_blt {E : Value → Shared → Prop} {pins : List (Addr × Obj)} {s : Shared} {σ : St} {H : Hp} {x : Str} {u : Value} {pos : Pos} {Q : Value → Shared → Prop} (I : Inv X pins σ H s) (hg : Gl X x) (hm : X.mg x = none) (hv : bootBuiltins x = some u) (h : Q u s)
    (hn : x ≠ "__name__" := by decide) (hd : (x == ("__debug__" : Str)) = false := by decide) : wpAny (model X.prog X.w) X.A (eval (.Name x pos) X.env) Q E s := by
  obtain ⟨mb, h1, h2⟩ := I.mod.blt
  exact Calls.Name_function_global I.ok.kind hg (Calls.loadGlobal_builtin (by rw [I.ok.glob]; exact I.mod.glob.keeps I.bk) hm (by rw [I.ok.blt]; exact h1.keeps I.bk) ((h2 x hn).trans hv) h) hd
theorem pe_glob {x : Str} {v : V} {u : Value} {pos : Pos} (hg : Gl X x) (hm : X.mg x = some u) (r : RelV v u) (hd : (x == ("__debug__" : Str)) = false := by decide) : PE X (.Name x pos) (tC v) :=
  fun _ _ _ H _ I h => ld_glob I hg hm ⟨v, H, I, r, h⟩ hd
variable {a b : Expr} {ta tb : TE} {pos : Pos}
def tB (t : TE) : TT := fun σ H Q => t σ H fun x H1 => ∃ c, x = .bl c ∧ Q c H1
theorem pt_val {e : Expr} {t : TE} (h : PE X e t) (he : ∀ whole, isTrue e X.env whole = (do let v ← whole; standAt e.pos; holding [v] (truthy v)) := by intro _; rfl) : PT X e (tB t) := by
  intro pins s σ H Q I hw
  refine isTrue_plain (thn (h pins s σ H _ I hw) fun v s1 ⟨x, H1, I1, r1, q1⟩ => ?_) (he _)
  obtain ⟨d, rfl, q⟩ := q1
  cases r1
  exact wpAny_truthy_bool ⟨H1, I1, q⟩
variable {tA tB' : TT} {rest : List Expr}
def tAnd (t u : TT) : TT := fun σ H Q => t σ H fun c H1 => if c = true then u σ H1 Q else Q false H1
def tOr (t u : TT) : TT := fun σ H Q => t σ H fun c H1 => if c = true then Q true H1 else u σ H1 Q
def tNot (t : TT) : TT := fun σ H Q => t σ H fun c H1 => Q (!c) H1
theorem pw_and1 (ha : PT X a tA) : PW X (.BoolOp .And [a] pos) tA := by
  intro wh pins s σ H Q I h
  refine isTrue_and (thn (ha pins s σ H Q I h) fun c s1 e => ?_)
  cases c with
  | true => exact isTrue_and_nil e
  | false => exact e
theorem pw_or1 (ha : PT X a tA) : PW X (.BoolOp .Or [a] pos) tA := by
  intro wh pins s σ H Q I h
  refine isTrue_or (thn (ha pins s σ H Q I h) fun c s1 e => ?_)
  cases c with
  | false => exact isTrue_or_nil e
  | true => exact e
theorem pw_and (ha : PT X a tA) (hb : PW X (.BoolOp .And (b :: rest) pos) tB') : PW X (.BoolOp .And (a :: b :: rest) pos) (tAnd tA tB') := by
  intro wh pins s σ H Q I h
  refine isTrue_and (thn (ha pins s σ H _ I h) fun c s1 ⟨H1, I1, q1⟩ => ?_)
  cases c with
  | true => exact hb wh pins s1 σ H1 Q I1 q1
  | false => exact ⟨H1, I1, q1⟩
theorem pw_or (ha : PT X a tA) (hb : PW X (.BoolOp .Or (b :: rest) pos) tB') : PW X (.BoolOp .Or (a :: b :: rest) pos) (tOr tA tB') := by
  intro wh pins s σ H Q I h
  refine isTrue_or (thn (ha pins s σ H _ I h) fun c s1 ⟨H1, I1, q1⟩ => ?_)
  cases c with
  | true => exact ⟨H1, I1, q1⟩
  | false => exact hb wh pins s1 σ H1 Q I1 q1
theorem pt_not (ha : PT X a tA) : PT X (.UnaryOp .Not a pos) (tNot tA) := by
  intro pins s σ H Q I h
  exact isTrue_not (ha pins s σ H (fun c H1 => Q (!c) H1) I h)
end
end L2
namespace L2
open PySem PySem.Spec PyProof.Rows
def SqL (K : PySem.W.Frag) (H : Hp) (a : Addr) (xs : List V) : Prop :=
  Rd H a (.lst xs) ∨
    ∃ (o : Obj) (its : Array Value) (n : Nat), K.lookup a = some o ∧ o.cls = .type "list" ∧ o.dict = none ∧ o.data = .seq its n ∧ its.size ≤ sizeLine ∧ Vals xs its.toList
def SqT (K : PySem.W.Frag) (H : Hp) (a : Addr) (xs : List V) : Prop :=
  Rd H a (.tup xs) ∨
    ∃ (o : Obj) (its : Array Value) (n : Nat), K.lookup a = some o ∧ o.cls = .type "tuple" ∧ o.data = .seq its n ∧ its.size ≤ sizeLine ∧ Vals xs its.toList
def absV : Value → Option V
  | .none => some .non
  | .bool b => some (.bl b)
  | .int i _ => some (.int i)
  | .str x _ => some (.str x)
  | .bytes b _ => some (.byt b)
  | .float b _ => some (.flt b)
  | .ref a => some (.ref a)
  | .type n => some (.ty n)
  | _ => none
theorem RelV.abs {x : V} {u : Value} (r : RelV x u) : absV u = some x := by
  cases x with
  | non => cases r; rfl
  | bl _ => cases r; rfl
  | int _ => obtain ⟨t, rfl⟩ := r; rfl
  | str _ => obtain ⟨t, rfl⟩ := r; rfl
  | byt _ => obtain ⟨t, rfl⟩ := r; rfl
  | flt _ => obtain ⟨t, rfl⟩ := r; rfl
  | ref _ => cases r; rfl
  | ty _ => cases r; rfl
theorem RelV.inj {x y : V} {u : Value} (r : RelV x u) (q : RelV y u) : x = y := Option.some.inj (r.abs.symm.trans q.abs)
theorem Vals.inj : ∀ {xs ys : List V} {us : List Value}, Vals xs us → Vals ys us → xs = ys
  | _, _, _, .nil, .nil => rfl
  | _, _, _, .cons r t, .cons r' t' => by rw [r.inj r', Vals.inj t t']
section
variable {X : Cx} {pins : List (Addr × Obj)} {σ : St} {H : Hp} {s : Shared} {a : Addr} {xs ys : List V}
theorem SqL.of {K : PySem.W.Frag} (h : H a = some (.lst xs)) : SqL K H a xs := .inl (.inl h)
theorem SqT.of {K : PySem.W.Frag} (h : H a = some (.tup xs)) : SqT K H a xs := .inl (.inl h)
theorem Inv.list (I : Inv X pins σ H s) (h : SqL X.K H a xs) : ∃ its : List Value, Vals xs its ∧ PlainL s.heap a its.toArray ∧ xs.length ≤ sizeLine := by
  rcases h with h | ⟨o, its, n, hk, hc, hd, hs, hz, r⟩
  · obtain ⟨z, its, n, r, e⟩ := h.ok I.hok
    exact ⟨its, r, ⟨_, n, e, rfl, rfl, rfl⟩, z⟩
  · refine ⟨its.toList, r, ⟨o, n, I.kIn a o hk, hc, hd, by simpa using hs⟩, ?_⟩
    have e := r.length
    simp only [Array.length_toList] at e
    omega
theorem Inv.tuple (I : Inv X pins σ H s) (h : SqT X.K H a xs) : ∃ its : List Value, Vals xs its ∧ IsTup s.heap a its.toArray ∧ xs.length ≤ sizeLine := by
  rcases h with h | ⟨o, its, n, hk, hc, hs, hz, r⟩
  · obtain ⟨z, its, r, p⟩ := h.ok I.hok
    exact ⟨its, r, p, z⟩
  · refine ⟨its.toList, r, ⟨o, I.kIn a o hk, hc, n, by simpa using hs⟩, ?_⟩
    have e := r.length
    simp only [Array.length_toList] at e
    omega
theorem Inv.list_inj (I : Inv X pins σ H s) (h : SqL X.K H a xs) (h' : SqL X.K H a ys) : xs = ys := by
  obtain ⟨its, r, ⟨o, n, e, _, _, d⟩, _⟩ := I.list h
  obtain ⟨its', r', ⟨o', n', e', _, _, d'⟩, _⟩ := I.list h'
  rw [e] at e'; cases e'
  rw [d] at d'
  injection d' with d1 _
  have : its = its' := by simpa using congrArg Array.toList d1
  subst this
  exact r.inj r'
theorem Inv.tuple_inj (I : Inv X pins σ H s) (h : SqT X.K H a xs) (h' : SqT X.K H a ys) : xs = ys := by
  obtain ⟨its, r, ⟨o, e, _, n, d⟩, _⟩ := I.tuple h
  obtain ⟨its', r', ⟨o', e', _, n', d'⟩, _⟩ := I.tuple h'
  rw [e] at e'; cases e'
  rw [d] at d'
  injection d' with d1 _
  have : its = its' := by simpa using congrArg Array.toList d1
  subst this
  exact r.inj r'
end
abbrev Cx.wish (X : Cx) (E : Value → Shared → Prop) : Cx := { X with xe := E }
abbrev Cx.nox (X : Cx) : Cx := X.wish fun _ _ => False
theorem Cx.Ok.wish {X : Cx} (ok : X.Ok) (E : Value → Shared → Prop) : (X.wish E).Ok :=
  ⟨ok.mod, ok.kind, ok.glob, ok.blt, ok.above, ok.inj, ok.has, ok.cab, ok.hd, ok.frames, ok.stk, ok.exf, ok.bs, ok.bsz, ok.noex, ok.exfs, ok.funs, ok.frf⟩
theorem Cx.Ok.unwish {X : Cx} {E : Value → Shared → Prop} (ok : (X.wish E).Ok) : X.Ok :=
  ⟨ok.mod, ok.kind, ok.glob, ok.blt, ok.above, ok.inj, ok.has, ok.cab, ok.hd, ok.frames, ok.stk, ok.exf, ok.bs, ok.bsz, ok.noex, ok.exfs, ok.funs, ok.frf⟩
section
variable {X : Cx} {pins : List (Addr × Obj)} {σ : St} {H : Hp} {s : Shared} {E : Value → Shared → Prop}
theorem Inv.wish (I : Inv X pins σ H s) (E : Value → Shared → Prop) : Inv (X.wish E) pins σ H s := ⟨I.ok.wish E, I.os, I.bare, I.base, I.loc, I.cell, I.free, I.freeC, I.pin, I.hok, I.len⟩
theorem Inv.unwish (I : Inv (X.wish E) pins σ H s) : Inv X pins σ H s := ⟨I.ok.unwish, I.os, I.bare, I.base, I.loc, I.cell, I.free, I.freeC, I.pin, I.hok, I.len⟩
theorem SP.unwish {D : Ends} {f : Flow} {s' : Shared} (h : SP (X.wish E) pins D f s') : SP X pins D f s' := by
  cases f with
  | next => obtain ⟨σ', H', I, q⟩ := h; exact ⟨σ', H', I.unwish, q⟩
  | brk => obtain ⟨σ', H', I, q⟩ := h; exact ⟨σ', H', I.unwish, q⟩
  | cont => obtain ⟨σ', H', I, q⟩ := h; exact ⟨σ', H', I.unwish, q⟩
  | ret u => obtain ⟨v, σ', H', I, r, q⟩ := h; exact ⟨v, σ', H', I.unwish, r, q⟩
theorem PSs.nox {st : List Stmt} {t : TS} (h : PSs X.nox st t) : PSs X st t := fun pins s σ H D I hw =>
  wpAny_mono (h pins s σ H D (I.wish _) hw) (fun _ _ q => q.unwish) fun _ _ z => False.elim z
end
section
variable {X : Cx} {st : Stmt} {rest : List Stmt} {t u : TS} {e : Expr} {te : TE} {pos : Pos}
def tNext : TS := fun D σ H => D.nx σ H
def tSeq (t u : TS) : TS := fun D σ H => t { D with nx := u D } σ H
theorem pss_nil : PSs X [] tNext := fun _ _ σ H _ I h => wpAny_execs_nil ⟨σ, H, I, h⟩
theorem pss_cons (h1 : PS X st t) (h2 : PSs X rest u) : PSs X (st :: rest) (tSeq t u) := by
  intro pins s σ H D I h
  refine wpAny_execs_cons (thn (h1 pins s σ H { D with nx := u D } I h) fun f s1 q => ?_)
  cases f with
  | next =>
    obtain ⟨σ', H', I', q⟩ := q
    exact h2 pins s1 σ' H' D I' q
  | ret v => exact q
  | brk => exact q
  | cont => exact q
theorem pss_one (h1 : PS X st t) : PSs X [st] t := by
  intro pins s σ H D I h
  refine wpAny_execs_cons (thn (h1 pins s σ H D I h) fun f s1 q => ?_)
  cases f with
  | next => exact wpAny_execs_nil q
  | ret v => exact q
  | brk => exact q
  | cont => exact q
theorem Inv.quiet {pins : List (Addr × Obj)} {σ : St} {H : Hp} {s : Shared} (I : Inv X pins σ H s) : interactive X.env = false := by simp [interactive, I.ok.kind]
def tDrop (te : TE) : TS := fun D σ H => te σ H fun _ H1 => D.nx σ H1
theorem ps_expr (he : PE X e te) (hs : swapsWith e none pos.line X.env = pure false := by rfl) : PS X (.Expr e pos) (tDrop te) := by
  intro pins s σ H D I h
  exact wpAny_Expr_any (thn (he pins s σ H _ I h) fun v s1 ⟨x, H1, I1, r1, q1⟩ => ⟨σ, H1, I1, q1⟩) I.quiet hs
def tRet (te : TE) : TS := fun D σ H => te σ H D.rt
theorem ps_ret (he : PE X e te) : PS X (.Return (some e) pos) (tRet te) := by
  intro pins s σ H D I h
  exact wpAny_Return_some (thn (he pins s σ H _ I h) fun v s1 ⟨x, H1, I1, r1, q1⟩ => ⟨x, σ, H1, I1, r1, q1⟩)
def tIfS (c : TT) (t u : TS) : TS := fun D σ H => c σ H fun b H1 => if b = true then t D σ H1 else u D σ H1
theorem ps_if {c : Expr} {a b : List Stmt} {tc : TT} (hc : PT X c tc) (ha : PSs X a t) (hb : PSs X b u) : PS X (.If c a b pos) (tIfS tc t u) := by
  intro pins s σ H D I h
  refine wpAny_If (thn (hc pins s σ H _ I h) fun d s1 ⟨H1, I1, q1⟩ => ?_)
  cases d with
  | true => exact ha pins s1 σ H1 D I1 q1
  | false => exact hb pins s1 σ H1 D I1 q1
def tNever : TS := fun _ _ _ => False
theorem pss_never {sts : List Stmt} : PSs X sts tNever := fun _ _ _ _ _ _ h => h.elim
end
abbrev TG := V → St → Hp → (St → Hp → Prop) → Prop
abbrev TGs := List V → St → Hp → (St → Hp → Prop) → Prop
def PG (X : Cx) (target : Expr) (t : TG) : Prop :=
  ∀ (pins : List (Addr × Obj)) (s : Shared) (σ : St) (H : Hp) (v : V) (u : Value) (Q : St → Hp → Prop), Inv X pins σ H s → RelV v u → t v σ H Q →
    wpAny (model X.prog X.w) X.A (assign target X.env u) (fun _ s' => ∃ σ' H', Inv X pins σ' H' s' ∧ Q σ' H') X.xe s
def PGs (X : Cx) (ts : List Expr) (t : TGs) : Prop :=
  ∀ (pins : List (Addr × Obj)) (s : Shared) (σ : St) (H : Hp) (vs : List V) (us : List Value) (Q : St → Hp → Prop), Inv X pins σ H s → Vals vs us → t vs σ H Q →
    wpAny (model X.prog X.w) X.A (assignInOrder ((assignEach ts X.env).map (·.2)) us) (fun _ s' => ∃ σ' H', Inv X pins σ' H' s' ∧ Q σ' H') X.xe s
abbrev TIp := V → V → Hp → VK → Prop
def PIp (X : Cx) (op : Operator) (t : TIp) : Prop :=
  ∀ (pins : List (Addr × Obj)) (s : Shared) (σ : St) (H : Hp) (x y : V) (v u : Value) (Q : VK), Inv X pins σ H s → RelV x v → RelV y u → t x y H Q →
    wpAny (model X.prog X.w) X.A (inplaceOp op v u) (EP X pins σ Q) X.xe s
section
variable {X : Cx} {pos : Pos}
def gName (i : Nat) : TG := fun v σ H Q => Q (σ.set i (some v)) H
theorem pg_name {i : Nat} {x : Str} (hN : X.N.Nodup) (hi : X.N[i]? = some x) (hx : Loc X.env.scope x) (hf : X.fn x = true ∨ X.env.scope.names.lookup x = some .local := by first | exact .inl rfl | exact .inr rfl | assumption) : PG X (.Name x pos) (gName i) := by
  intro pins s σ H v u Q I r h
  exact wpAny_assign_Name (store_ok I hN hi hx r (fun s' I' => ⟨_, H, I', h⟩) hf)
def gNil : TGs := fun vs σ H Q => vs = [] ∧ Q σ H
def gCons (t : TG) (u : TGs) : TGs := fun vs σ H Q => ∃ v r, vs = v :: r ∧ t v σ H fun σ' H' => u r σ' H' Q
theorem pgs_nil : PGs X [] gNil := by
  intro pins s σ H vs us Q I r h
  obtain ⟨e, h⟩ := h
  subst e
  cases r
  exact assignInOrder_nil ⟨σ, H, I, h⟩
theorem pgs_cons {e : Expr} {es : List Expr} {t : TG} {u : TGs} (h1 : PG X e t) (h2 : PGs X es u)
    (hs : (assignEach (e :: es) X.env).map (·.2) = assign e X.env :: (assignEach es X.env).map (·.2) := by rfl) : PGs X (e :: es) (gCons t u) := by
  intro pins s σ H vs us Q I r h
  obtain ⟨v, vr, e1, h⟩ := h
  subst e1
  cases r with
  | cons r rr =>
    rw [hs]
    refine assignInOrder_cons (thn (h1 pins s σ H _ _ _ I r h) fun _ s1 ⟨σ1, H1, I1, q1⟩ => ?_)
    exact h2 pins s1 σ1 H1 _ _ Q I1 rr q1
def gTup (K : PySem.W.Frag) (n : Nat) (t : TGs) : TG := fun v σ H Q => ∃ a xs, v = .ref a ∧ SqT K H a xs ∧ xs.length = n ∧ t xs σ H Q
theorem pg_tup {es : List Expr} {k : Nat} {t : TGs} {n : Nat} (hc : X.calm = true) (h : PGs X es t)
    (hn : (assignEach es X.env).length = n := by rfl) (hst : (assignEach es X.env).findIdx? (·.1) = none := by rfl) : PG X (.Tuple es k pos) (gTup X.K n t) := by
  intro pins s σ H v u Q I r hw
  obtain ⟨a, xs, e1, hq, hl, hw⟩ := hw
  subst e1
  cases r
  obtain ⟨its, rv, ht, hz⟩ := I.tuple hq
  refine assign_Tuple_tuple (I.ok.hd hc) ht (by simp [hn, ← hl, rv.length]) hst fun h' hx => ?_
  have I1 : Inv X pins σ H { s with heap := h' } := I.kept (t' := s.toks) fun b o e => hx b o (Nat.ne_of_lt (Heap.lt_size e)) e
  exact h pins _ σ H xs _ Q I1 (by simpa using rv) hw
def tAsg (te : TE) (g : TG) : TS := fun D σ H => te σ H fun x H1 => g x σ H1 D.nx
theorem ps_set {i : Nat} {x : Str} {e : Expr} {te : TE} {pos' : Pos} (hN : X.N.Nodup) (hi : X.N[i]? = some x) (hx : Loc X.env.scope x) (he : PE X e te) (hs : swapsWith e (some (.Name x pos')) pos.line X.env = pure false := by rfl) (hf : X.fn x = true ∨ X.env.scope.names.lookup x = some .local := by first | exact .inl rfl | exact .inr rfl | assumption) :
    PS X (.Assign [.Name x pos'] e pos) (tAsg te (gName i)) := by
  intro pins s σ H D I h
  refine wpAny_Assign_Name (thn (he pins s σ H _ I h) fun v s1 ⟨y, H1, I1, r1, q1⟩ => ?_) hs
  exact store_ok I1 hN hi hx r1 (fun s2 I2 => ⟨_, H1, I2, q1⟩) hf
def tAug (i : Nat) (te : TE) (ti : TIp) : TS := fun D σ H => ∃ x, σ[i]? = some (some x) ∧ te σ H fun y H1 => ti x y H1 fun z H2 => D.nx (σ.set i (some z)) H2
theorem ps_aug {i : Nat} {x : Str} {e : Expr} {te : TE} {op : Operator} {ti : TIp} {pos' : Pos} (hN : X.N.Nodup) (hi : X.N[i]? = some x) (hx : Loc X.env.scope x) (he : PE X e te) (ho : PIp X op ti) (hf : X.fn x = true ∨ X.env.scope.names.lookup x = some .local := by first | exact .inl rfl | exact .inr rfl | assumption) :
    PS X (.AugAssign (.Name x pos') op e pos) (tAug i te ti) := by
  intro pins s σ H D I h
  obtain ⟨v, e1, h⟩ := h
  obtain ⟨m, hn, hl⟩ := I.loc
  have vis : Vis X.env.scope x := by rcases hx with k | k; exact .inl k; exact .inr (.inl k)
  obtain ⟨u, r, l⟩ := hl i x v hi e1 vis
  refine wpAny_AugAssign_Name ?_
  have go : wpAny (model X.prog X.w) X.A (eval e X.env) (fun w s₂ => wpAny (model X.prog X.w) X.A (inplaceOp op u w) (fun r s₃ => wpAny (model X.prog X.w) X.A (storeName X.env x r) (fun _ => SP X pins D .next) X.xe s₃) X.xe s₂) X.xe s := by
    refine thn (he pins s σ H _ I h) fun w s1 ⟨y, H1, I1, r1, q1⟩ => ?_
    refine thn (ho pins s1 σ H1 v y u w _ I1 r r1 q1) fun z s2 ⟨zv, H2, I2, r2, q2⟩ => ?_
    exact store_ok I2 hN hi hx r2 (fun s3 I3 => ⟨_, H2, I3, q2⟩) hf
  rcases l with ⟨hk, hm⟩ | ⟨hk, c, hc, hcell⟩
  · exact wpAny_loadName_local I.ok.kind hk hn hm go
  · rcases hk with hk | hk
    · exact wpAny_loadName_cell I.ok.kind hk hc hcell go
    · rcases hx with k | k
      · have : X.env.scope.names.lookup x = some .free := hk
        rw [k] at this; cases this
      · have : X.env.scope.names.lookup x = some .free := hk
        rw [k] at this; cases this
def ipI (f : Int → Int → Int) : TIp := fun x y H Q => ∃ i j, x = .int i ∧ y = .int j ∧ Q (.int (f i j)) H
theorem ip_add : PIp X .Add (ipI fun i j => i + j) := by
  intro pins s σ H x y v u Q I r1 r2 h
  obtain ⟨i, j, e1, e2, q⟩ := h
  subst e1; subst e2
  obtain ⟨t, rfl⟩ := r1
  obtain ⟨t', rfl⟩ := r2
  exact iadd_int ⟨.int _, H, I.tok _, ⟨_, rfl⟩, q⟩
end
section
variable {X : Cx} {pos : Pos}
def tWhile (c : TT) (tb : TS) : TS := fun D σ H => ∃ W : Nat → St → Hp → Prop, (∃ m, W m σ H) ∧ ∀ m σ H, W m σ H →
  c σ H fun b H1 => if b = true then ∃ N : St → Hp → Prop, (∀ σ' H', N σ' H' → ∃ m', m' < m ∧ W m' σ' H') ∧ tb { D with nx := N, ct := N, bk := D.nx } σ H1 else D.nx σ H1
theorem ps_while {c : Expr} {body : List Stmt} {tc : TT} {tb : TS} (hp : PassesOwn (model X.prog X.w) X.A X.env X.xe) (hc : PT X c tc) (hb : PSs X body tb) : PS X (.While c body [] pos) (tWhile tc tb) := by
  intro pins s σ H D I h
  obtain ⟨W, ⟨m0, w0⟩, turn⟩ := h
  refine wpAny_While (codeAny_whileLoop (fun n s' => ∃ σ' H', Inv X pins σ' H' s' ∧ W n σ' H') ?_ m0 ⟨σ, H, I, w0⟩)
  rintro n s1 ⟨σ1, H1, I1, w1⟩
  refine wpAny_passesOwn hp (thn (hc pins s1 σ1 H1 _ I1 (turn n σ1 H1 w1)) fun b s2 ⟨H2, I2, q2⟩ => ?_)
  cases b with
  | true =>
    obtain ⟨N, hN, q2⟩ := q2
    rw [if_pos rfl]
    refine wpAny_passesOwn hp (thn (hb pins s2 σ1 H2 _ I2 q2) fun f s3 q3 => ?_)
    cases f with
    | next =>
      obtain ⟨σ3, H3, I3, n3⟩ := q3
      obtain ⟨m', hm, w3⟩ := hN σ3 H3 n3
      exact ⟨m', hm, σ3, H3, I3, w3⟩
    | cont =>
      obtain ⟨σ3, H3, I3, n3⟩ := q3
      obtain ⟨m', hm, w3⟩ := hN σ3 H3 n3
      exact ⟨m', hm, σ3, H3, I3, w3⟩
    | brk => exact q3
    | ret v => exact q3
  | false =>
    rw [if_neg Bool.false_ne_true]
    exact wpAny_execs_nil ⟨σ1, H2, I2, q2⟩
end
structure It where
  go : Nat → Hp → Prop
  yld : Nat → Hp → V → Hp → Prop
  stop : Nat → Hp → Prop
def FpOk (X : Cx) (pins : List (Addr × Obj)) (H : Hp) (b : Addr) : Prop :=
  H b = none ∧ b ≠ X.env.locals ∧ b ∉ X.fs ∧ (b ∈ X.ex ∨ X.s_0.heap.objs.size ≤ b) ∧ (∀ x c, X.env.cells.lookup x = some c → c ≠ b) ∧ ∀ p ∈ X.pn ++ pins, p.1 ≠ b
theorem Inv.fpOk {X : Cx} {pins : List (Addr × Obj)} {σ : St} {H H' : Hp} {s : Shared} {b : Addr} (I : Inv X pins σ H s) (hb : s.heap.objs.size ≤ b) (hn : H' b = none) : FpOk X pins H' b := by
  refine ⟨hn, Nat.ne_of_gt (Nat.lt_of_lt_of_le I.lt hb), I.nofs hb, .inr (Nat.le_trans I.sz hb), fun x c e z => ?_, fun p hp z => ?_⟩
  · obtain ⟨v, q⟩ := I.cell x c e
    exact absurd (Nat.lt_of_lt_of_le q.lt (by rw [z]; exact hb)) (Nat.lt_irrefl _)
  · exact absurd (Nat.lt_of_lt_of_le (Heap.lt_size (I.pin p hp).1) (by rw [z]; exact hb)) (Nat.lt_irrefl _)
structure Turn (P : Program) (w : World) (K : PySem.W.Frag) (tg : Expr) (J : It) (fp : List Addr) (it : Addr) (tn : Nat → Heap → Prop) : Prop where
  mem : it ∈ fp
  obj : ∀ i h, tn i h → ∀ b ∈ fp, ∃ o, h.get? b = some o ∧ ∀ v, o.data ≠ .cell v
  keep : ∀ i h h', tn i h → (∀ b ∈ fp, ∀ o, h.get? b = some o → h'.get? b = some o) → tn i h'
  item : ∀ (X : Cx), X.prog = P → X.w = w → X.K = K → X.calm = true → ∀ (i : Nat) (pins : List (Addr × Obj)) (s : Shared) (σ : St) (H : Hp) (E : Value → Shared → Prop), Inv X pins σ H s → (∀ b ∈ fp, FpOk X pins H b) → tn i s.heap → J.go i H →
    wpAny (model P w) X.A (pyNext (.ref it)) (fun r s1 => ∃ u, r = some u ∧
      wpAny (model P w) X.A (letOwnedTupleGo tg (.ref it) u) (fun _ s2 => ∃ x H', Inv X pins σ H' s2 ∧ RelV x u ∧ J.yld i H x H' ∧ tn (i + 1) s2.heap ∧ ∀ b ∈ fp, H' b = none) E s1) E s
  done : ∀ (X : Cx), X.prog = P → X.w = w → X.K = K → X.calm = true → ∀ (i : Nat) (pins : List (Addr × Obj)) (s : Shared) (σ : St) (H : Hp) (E : Value → Shared → Prop), Inv X pins σ H s → (∀ b ∈ fp, FpOk X pins H b) → tn i s.heap → J.stop i H →
    wpAny (model P w) X.A (pyNext (.ref it)) (fun r s1 => r = none ∧ Inv X pins σ H s1) E s
  self : ∀ (A : Around) (i : Nat) (s : Shared) (Q : Value → Shared → Prop) (E : Value → Shared → Prop), tn i s.heap → Q (.ref it) s → wpAny (model P w) A (pyIter (.ref it)) Q E s
abbrev TI := St → Hp → (It → Hp → Prop) → Prop
def PIE (X : Cx) (pins : List (Addr × Obj)) (σ : St) (tg : Expr) (R : It → Hp → Prop) (itv : Value) (s2 : Shared) : Prop :=
  ∃ (it : Addr) (fp : List Addr) (tn : Nat → Heap → Prop) (J : It) (H' : Hp), itv = .ref it ∧ Inv X pins σ H' s2 ∧ Turn X.prog X.w X.K tg J fp it tn ∧ tn 0 s2.heap ∧ (∀ b ∈ fp, FpOk X pins H' b) ∧ R J H'
def PI (X : Cx) (tg iter : Expr) (wi : TI) : Prop :=
  ∀ (pins : List (Addr × Obj)) (s : Shared) (σ : St) (H : Hp) (R : It → Hp → Prop), Inv X pins σ H s → wi σ H R →
    wpAny (model X.prog X.w) X.A (eval iter X.env) (fun v s1 => wpAny (model X.prog X.w) X.A (pyIter v) (PIE X pins σ tg R) X.xe s1) X.xe s
theorem go_of {M : Model} {A : Around} {E : Value → Shared → Prop} {s : Shared} {tg : Expr} {it : Addr} {u : Value} {o : Obj} {n : String} {vs : Array Value} {Q : Unit → Shared → Prop} (ho : s.heap.get? it = some o) (hc : o.cls = .type n) (hd : o.data = .fields vs)
    (hn : ["enumerate", "zip", "dict_itemiterator", "dict_reverseitemiterator", "odict_iterator", "itertools.zip_longest", "itertools.pairwise"].contains n = false) (hQ : Q () s) : wpAny M A (letOwnedTupleGo tg (.ref it) u) Q E s := by
  unfold letOwnedTupleGo
  cases tg <;> first
    | exact wpAny_pure hQ
    | (cases u <;> first
        | exact wpAny_pure hQ
        | (refine wpAny_bind (wpAny_load ho ?_)
           rw [hc, hd]
           show wpAny M A (if (["enumerate", "zip", "dict_itemiterator", "dict_reverseitemiterator", "odict_iterator", "itertools.zip_longest", "itertools.pairwise"].contains n && vs[0]? == some (rawInt _)) = true then _ else _) Q E s
           rw [if_neg (by intro h; rw [hn, Bool.false_and] at h; cases h)]
           exact wpAny_pure hQ))
def Itl (K : PySem.W.Frag) (a : Addr) : It :=
  ⟨fun i H => ∃ xs x, SqL K H a xs ∧ xs[i]? = some x, fun i H x H' => H' = H ∧ ∀ xs, SqL K H a xs → xs[i]? = some x, fun i H => ∃ xs, SqL K H a xs ∧ xs.length ≤ i⟩
def Itt (K : PySem.W.Frag) (a : Addr) : It :=
  ⟨fun i H => ∃ xs x, SqT K H a xs ∧ xs[i]? = some x, fun i H x H' => H' = H ∧ ∀ xs, SqT K H a xs → xs[i]? = some x, fun i H => ∃ xs, SqT K H a xs ∧ xs.length ≤ i⟩
def Itr (lo : Int) (n : Nat) : It := ⟨fun i _ => i < n, fun i H x H' => H' = H ∧ x = .int (lo + i), fun i _ => n ≤ i⟩
theorem turn_list {P : Program} {w : World} {K : PySem.W.Frag} {tg : Expr} (a it : Addr) : Turn P w K tg (Itl K a) [it] it (fun i h => h.IsListIter it a i) where
  mem := by simp
  obj := fun i h st b hb => by
    have e : b = it := by simpa using hb
    subst e
    obtain ⟨o, e, c, d⟩ := st
    exact ⟨o, e, fun v z => by rw [d] at z; cases z⟩
  keep := fun i h h' st k => st.at fun o e => k it (by simp) o e
  item := by
    intro X hP hw hK hc i pins s σ H E I hf st hg
    subst hP hw hK
    obtain ⟨xs, x, hq, hx⟩ := hg
    obtain ⟨its, rv, p, hz⟩ := I.list hq
    obtain ⟨u, hu, ru⟩ := rv.get hx
    obtain ⟨f0, f1, f2, f3, f4, f5⟩ := hf it (by simp)
    refine wpAny_pyNext_list_item st p.isList (x := u) (by simpa using hu) fun h' st' sb => ?_
    have I1 : Inv X pins σ H { s with heap := h' } := I.turned (t' := s.toks) (fun b o hb e => (sb.2 b hb).trans e) f0 f1 f3 f4 f5
    obtain ⟨o, e, c, d⟩ := id st'
    exact ⟨u, rfl, go_of (s := { s with heap := h' }) e c d (by decide) ⟨x, H, I1, ru, ⟨rfl, fun ys hy => by rw [I.list_inj hy hq]; exact hx⟩, st', fun b hb => (hf b hb).1⟩⟩
  done := by
    intro X hP hw hK hc i pins s σ H E I hf st hg
    subst hP hw hK
    obtain ⟨xs, hq, hx⟩ := hg
    obtain ⟨its, rv, p, hz⟩ := I.list hq
    obtain ⟨f0, f1, f2, f3, f4, f5⟩ := hf it (by simp)
    have hl := rv.length
    exact wpAny_pyNext_list_end (I.ok.hd hc) st p.isList (by simp; omega) fun h' eb => ⟨rfl, I.turned (t' := s.toks) (fun b o hb e => eb b o hb e) f0 f1 f3 f4 f5⟩
  self := fun _ _ _ _ _ st h => wpAny_pyIter_listiter st h
theorem turn_tuple {P : Program} {w : World} {K : PySem.W.Frag} {tg : Expr} (a it : Addr) : Turn P w K tg (Itt K a) [it] it (fun i h => h.IsTupleIter it a i) where
  mem := by simp
  obj := fun i h st b hb => by
    have e : b = it := by simpa using hb
    subst e
    obtain ⟨o, e, c, d⟩ := st
    exact ⟨o, e, fun v z => by rw [d] at z; cases z⟩
  keep := fun i h h' st k => st.at fun o e => k it (by simp) o e
  item := by
    intro X hP hw hK hc i pins s σ H E I hf st hg
    subst hP hw hK
    obtain ⟨xs, x, hq, hx⟩ := hg
    obtain ⟨its, rv, p, hz⟩ := I.tuple hq
    obtain ⟨u, hu, ru⟩ := rv.get hx
    obtain ⟨f0, f1, f2, f3, f4, f5⟩ := hf it (by simp)
    refine wpAny_pyNext_tuple_item st (show s.heap.IsTuple a its.toArray from p) (x := u) (by simpa using hu) fun h' st' sb => ?_
    have I1 : Inv X pins σ H { s with heap := h' } := I.turned (t' := s.toks) (fun b o hb e => (sb.2 b hb).trans e) f0 f1 f3 f4 f5
    obtain ⟨o, e, c, d⟩ := id st'
    exact ⟨u, rfl, go_of (s := { s with heap := h' }) e c d (by decide) ⟨x, H, I1, ru, ⟨rfl, fun ys hy => by rw [I.tuple_inj hy hq]; exact hx⟩, st', fun b hb => (hf b hb).1⟩⟩
  done := by
    intro X hP hw hK hc i pins s σ H E I hf st hg
    subst hP hw hK
    obtain ⟨xs, hq, hx⟩ := hg
    obtain ⟨its, rv, p, hz⟩ := I.tuple hq
    obtain ⟨f0, f1, f2, f3, f4, f5⟩ := hf it (by simp)
    have hl := rv.length
    exact wpAny_pyNext_tuple_end (I.ok.hd hc) st (show s.heap.IsTuple a its.toArray from p) (by simp; omega) fun h' eb => ⟨rfl, I.turned (t' := s.toks) (fun b o hb e => eb b o hb e) f0 f1 f3 f4 f5⟩
  self := fun _ _ _ _ _ st h => wpAny_pyIter_tupleiter st h
theorem turn_range {P : Program} {w : World} {K : PySem.W.Frag} {tg : Expr} (it : Addr) (lo : Int) (n : Nat) : Turn P w K tg (Itr lo n) [it] it (fun i h => IsRangeIter h it (lo + (i : Nat) * 1) ((n : Int) - (i : Nat)) 1) where
  mem := by simp
  obj := fun i h st b hb => by
    have e : b = it := by simpa using hb
    subst e
    exact ⟨_, st, fun v z => by
      have z' : Data.fields _ = Data.cell v := z
      cases z'⟩
  keep := fun i h h' st k => k it (by simp) _ st
  item := by
    intro X hP hw hK hc i pins s σ H E I hf st hg
    subst hP hw hK
    obtain ⟨f0, f1, f2, f3, f4, f5⟩ := hf it (by simp)
    have W := Walks.range (prog := X.prog) (w := X.w) (I.ok.hd hc) it lo 1 n
    refine W.item i s _ _ hg st fun v h' tk hv st' kk => ?_
    obtain ⟨t, rfl⟩ := hv
    have I1 : Inv X pins σ H { s with heap := h', toks := tk } := I.turned (fun b o hb e => kk b o (by simpa using hb) e) f0 f1 f3 f4 f5
    refine ⟨_, rfl, go_of (s := { s with heap := h', toks := tk }) (n := "range_iterator") st' rfl rfl (by decide) ⟨.int (lo + i), H, I1, ⟨t, ?_⟩, ⟨rfl, rfl⟩, st', fun b hb => (hf b hb).1⟩⟩
    rw [Int.mul_one]
  done := by
    intro X hP hw hK hc i pins s σ H E I hf st hg
    subst hP hw hK
    obtain ⟨f0, f1, f2, f3, f4, f5⟩ := hf it (by simp)
    exact wpAny_pyNext_range_end (I.ok.hd hc) st (by have : n ≤ i := hg; omega) fun h' eb => ⟨rfl, I.turned (t' := s.toks) (fun b o hb e => eb b o hb e) f0 f1 f3 f4 f5⟩
  self := fun _ _ _ _ _ st h => wpAny_pyIter_rangeiter st h
end L2
namespace L2
open PySem PySem.Spec PyProof.Rows
section
variable {X : Cx} {tg : Expr}
def iList (K : PySem.W.Frag) (tl : TE) : TI := fun σ H R => tl σ H fun x H1 => ∃ a, x = .ref a ∧ (∃ xs, SqL K H1 a xs) ∧ R (Itl K a) H1
def iTup (K : PySem.W.Frag) (tl : TE) : TI := fun σ H R => tl σ H fun x H1 => ∃ a, x = .ref a ∧ (∃ xs, SqT K H1 a xs) ∧ R (Itt K a) H1
theorem pi_list {l : Expr} {tl : TE} (hl : PE X l tl) : PI X tg l (iList X.K tl) := by
  intro pins s σ H R I h
  refine thn (hl pins s σ H _ I h) fun v s1 ⟨x, H1, I1, r1, q1⟩ => ?_
  obtain ⟨a, e, ⟨xs, hq⟩, q⟩ := q1
  subst e
  cases r1
  obtain ⟨its, rv, p, hz⟩ := I1.list hq
  refine wpAny_pyIter_list p.isList ?_
  refine ⟨s1.heap.objs.size, [s1.heap.objs.size], _, _, H1, rfl, I1.kept (t' := s1.toks) fun b o e => Heap.get?_push_of_some _ e, turn_list a _, ⟨_, Heap.get?_push_size _ rfl, rfl, rfl⟩, fun b hb => ?_, q⟩
  have e : b = s1.heap.objs.size := by simpa using hb
  subst e
  exact I1.fpOk (Nat.le_refl _) (I1.hok.fresh (Nat.le_refl _))
theorem pi_tup {l : Expr} {tl : TE} (hl : PE X l tl) : PI X tg l (iTup X.K tl) := by
  intro pins s σ H R I h
  refine thn (hl pins s σ H _ I h) fun v s1 ⟨x, H1, I1, r1, q1⟩ => ?_
  obtain ⟨a, e, ⟨xs, hq⟩, q⟩ := q1
  subst e
  cases r1
  obtain ⟨its, rv, p, hz⟩ := I1.tuple hq
  refine wpAny_pyIter_tuple (show s1.heap.IsTuple a its.toArray from p) ?_
  refine ⟨s1.heap.objs.size, [s1.heap.objs.size], _, _, H1, rfl, I1.kept (t' := s1.toks) fun b o e => Heap.get?_push_of_some _ e, turn_tuple a _, ⟨_, Heap.get?_push_size _ rfl, rfl, rfl⟩, fun b hb => ?_, q⟩
  have e : b = s1.heap.objs.size := by simpa using hb
  subst e
  exact I1.fpOk (Nat.le_refl _) (I1.hok.fresh (Nat.le_refl _))
theorem range_it {pins : List (Addr × Obj)} {σ : St} {H : Hp} {s : Shared} {R : It → Hp → Prop} {E : Value → Shared → Prop} {lo hi : Int} {t u v : Tok} {tk : Nat} (I : Inv X pins σ H s) (h1 : -(2 ^ 62) ≤ lo) (h2 : lo < 2 ^ 62) (h3 : -(2 ^ 62) ≤ hi) (h4 : hi < 2 ^ 62)
    (q : R (Itr lo (hi - lo).toNat) H) : wpAny (model X.prog X.w) X.A (pyIter (.ref s.heap.objs.size)) (PIE X pins σ tg R) E { s with heap := s.heap.push { cls := .type "range", data := .fields #[.int lo t, .int hi u, .int 1 v] }, toks := tk } := by
  refine wpAny_pyIter_range (IsRange.new ..) (small_one h1 h2 h3 h4) ?_
  have I1 : Inv X pins σ H { s with heap := s.heap.push { cls := .type "range", data := .fields #[.int lo t, .int hi u, .int 1 v] }, toks := tk } := I.kept fun b o e => Heap.get?_push_of_some _ e
  refine ⟨(s.heap.push { cls := .type "range", data := .fields #[.int lo t, .int hi u, .int 1 v] }).objs.size, [(s.heap.push { cls := .type "range", data := .fields #[.int lo t, .int hi u, .int 1 v] }).objs.size], _, _, H, rfl,
    I1.kept (t' := tk) fun b o e => Heap.get?_push_of_some _ e, turn_range _ lo (hi - lo).toNat, ?_, fun b hb => ?_, q⟩
  · have e1 : lo + ((0 : Nat) : Int) * 1 = lo := by simp
    have e2 : (((hi - lo).toNat : Nat) : Int) - ((0 : Nat) : Int) = Builtin.Range.rangeSize lo hi 1 := by rw [rangeSize_one]; split <;> omega
    show IsRangeIter _ _ (lo + ((0 : Nat) : Int) * 1) ((((hi - lo).toNat : Nat) : Int) - ((0 : Nat) : Int)) 1
    rw [e1, e2]
    exact Heap.get?_push_size _ rfl
  · have e : b = (s.heap.push { cls := .type "range", data := .fields #[.int lo t, .int hi u, .int 1 v] }).objs.size := by simpa using hb
    subst e
    exact I1.fpOk (Nat.le_refl _) (I1.hok.fresh (Nat.le_refl _))
def iRng1 (ta : TA) : TI := fun σ H R => ta σ H fun vs H1 => ∃ j : Int, vs = [.int j] ∧ -(2 ^ 62) ≤ j ∧ j < 2 ^ 62 ∧ R (Itr 0 j.toNat) H1
def iRng2 (ta : TA) : TI := fun σ H R => ta σ H fun vs H1 => ∃ i j : Int, vs = [.int i, .int j] ∧ (-(2 ^ 62) ≤ i ∧ i < 2 ^ 62 ∧ -(2 ^ 62) ≤ j ∧ j < 2 ^ 62) ∧ R (Itr i (j - i).toNat) H1
theorem pi_range1 {a : Expr} {ta : TA} {p pos : Pos} (hg : Gl X "range") (hm : X.mg "range" = none) (ha : PA X [a] ta) (hs : starEach [a] X.env = [(false, eval a X.env)] := by rfl) : PI X tg (.Call (.Name "range" p) [a] [] pos) (iRng1 ta) := by
  intro pins s σ H R I h
  refine Call_ (ld_blt I hg hm boot_range (PyProof.Rows.callWith_type1 (thn (ha pos pins s σ H _ I h) fun us s1 ⟨vs, H1, I1, r1, q1⟩ => ?_) hs rfl))
  obtain ⟨j, e, q1, q2, q⟩ := q1
  subst e
  cases r1 with
  | cons r rr =>
    cases rr
    obtain ⟨t, rfl⟩ := r
    exact call_range_1 (range_it I1 (by omega) (by omega) q1 q2 (by simpa using q))
theorem pi_range2 {a b : Expr} {ta : TA} {p pos : Pos} (hg : Gl X "range") (hm : X.mg "range" = none) (ha : PA X [a, b] ta) (hs : starEach [a, b] X.env = [(false, eval a X.env), (false, eval b X.env)] := by rfl) (hs2 : starEach [b] X.env = [(false, eval b X.env)] := by rfl) :
    PI X tg (.Call (.Name "range" p) [a, b] [] pos) (iRng2 ta) := by
  intro pins s σ H R I h
  refine Call_ (ld_blt I hg hm boot_range (PyProof.Rows.callWith_type1 (thn (ha pos pins s σ H _ I h) fun us s1 ⟨vs, H1, I1, r1, q1⟩ => ?_) (by rw [hs, hs2]) (by rw [hs2]; rfl)))
  obtain ⟨i, j, e, ⟨q1, q2, q3, q4⟩, q⟩ := q1
  subst e
  cases r1 with
  | cons r rr =>
    cases rr with
    | cons r' rr =>
      cases rr
      obtain ⟨t, rfl⟩ := r
      obtain ⟨t', rfl⟩ := r'
      exact call_range_2 (range_it I1 q1 q2 q3 q4 q)
def tFor (wi : TI) (g : TG) (tb : TS) : TS := fun D σ H => wi σ H fun J H1 => ∃ W : Nat → Nat → St → Hp → Prop, (∃ m, W 0 m σ H1) ∧ ∀ i m σ H, W i m σ H →
  (J.stop i H ∧ D.nx σ H) ∨ (J.go i H ∧ ∃ N : St → Hp → Prop, (∀ σ' H', N σ' H' → ∃ m', m' < m ∧ W (i + 1) m' σ' H') ∧ ∀ x H', J.yld i H x H' → g x σ H' fun σ2 H2 => tb { D with nx := N, ct := N, bk := D.nx } σ2 H2)
def pinsAt (fp : List Addr) (h : Heap) : List (Addr × Obj) := fp.filterMap fun b => (h.get? b).map fun o => (b, o)
theorem mem_pinsAt {fp : List Addr} {h : Heap} {b : Addr} {o : Obj} (hb : b ∈ fp) (e : h.get? b = some o) : (b, o) ∈ pinsAt fp h := List.mem_filterMap.mpr ⟨b, hb, by rw [e]; rfl⟩
theorem of_pinsAt {fp : List Addr} {h : Heap} {p : Addr × Obj} (hp : p ∈ pinsAt fp h) : p.1 ∈ fp ∧ h.get? p.1 = some p.2 := by
  obtain ⟨b, hb, e⟩ := List.mem_filterMap.mp hp
  cases q : h.get? b with
  | none => rw [q] at e; cases e
  | some o =>
    rw [q] at e
    have e' : (b, o) = p := Option.some.inj e
    subst e'
    exact ⟨hb, q⟩
theorem Inv.pinned {pins : List (Addr × Obj)} {σ : St} {H : Hp} {s : Shared} {fp : List Addr} (I : Inv X pins σ H s) (hf : ∀ b ∈ fp, FpOk X pins H b) (ho : ∀ b ∈ fp, ∃ o, s.heap.get? b = some o ∧ ∀ v, o.data ≠ .cell v) : Inv X (pins ++ pinsAt fp s.heap) σ H s :=
  I.pins_of fun p hp => (List.mem_append.mp hp).elim (fun z => I.pin p (List.mem_append_right _ z)) fun z => by
    obtain ⟨hb, e⟩ := of_pinsAt z
    obtain ⟨f0, f1, f2, _⟩ := hf p.1 hb
    obtain ⟨o, e', d⟩ := ho p.1 hb
    rw [e] at e'; cases e'
    exact ⟨e, f0, f1, f2, d⟩
theorem Inv.unpinned {pins pl : List (Addr × Obj)} {σ : St} {H : Hp} {s : Shared} (I : Inv X (pins ++ pl) σ H s) : Inv X pins σ H s := I.pins_of fun p hp => I.pin p (List.mem_append_right _ (List.mem_append_left _ hp))
theorem ps_for {iter : Expr} {body : List Stmt} {wi : TI} {g : TG} {tb : TS} {pos : Pos} (hp : PassesOwn (model X.prog X.w) X.A X.env X.xe) (hc : X.calm = true) (hi : PI X tg iter wi) (hg : PG X tg g) (hb : PSs X body tb)
    (hs : ∀ x, foldedSetIterable iter X.env x = pure x := by intro _; rfl) : PS X (.For tg iter body [] pos) (tFor wi g tb) := by
  intro pins s σ H D I h
  refine wpAny_For (thn (hi pins s σ H _ I h) fun v s1 h1 => thn h1 fun itv s2 h2 => ?_) hs
  obtain ⟨it, fp, tn, J, H2, e, I2, T, st2, f2, W, ⟨m0, w0⟩, turn⟩ := h2
  subst e
  have stat : ∀ {H' : Hp}, (∀ b ∈ fp, H' b = none) → ∀ b ∈ fp, FpOk X pins H' b := fun hn b hb => ⟨hn b hb, (f2 b hb).2⟩
  refine codeAny_forLoop_any (fun n s' => ∃ i σ' H', Inv X pins σ' H' s' ∧ tn i s'.heap ∧ (∀ b ∈ fp, H' b = none) ∧ W i n σ' H') ?_ m0 ⟨0, σ, H2, I2, st2, fun b hb => (f2 b hb).1, w0⟩
  rintro n s3 ⟨i, σ3, H3, I3, st3, fr3, w3⟩
  rcases turn i n σ3 H3 w3 with ⟨stop, qn⟩ | ⟨go, N, hN, step⟩
  · refine wpAny_passesOwn hp (thn (T.done X rfl rfl rfl hc i pins s3 σ3 H3 X.xe I3 (stat fr3) st3 stop) fun r s4 ⟨hr, I4⟩ => ?_)
    subst hr
    exact wpAny_execs_nil ⟨σ3, H3, I4, qn⟩
  · refine wpAny_passesOwn hp (thn (T.item X rfl rfl rfl hc i pins s3 σ3 H3 X.xe I3 (stat fr3) st3 go) fun r s4 ⟨u, hr, h4⟩ => ?_)
    subst hr
    refine wpAny_passesOwn hp (thn h4 fun _ s5 ⟨x, H5, I5, r5, y5, st5, fr5⟩ => ?_)
    have I5' := I5.pinned (stat fr5) (T.obj _ _ st5)
    refine wpAny_passesOwn hp (thn (hg _ s5 σ3 H5 x u _ I5' r5 (step x H5 y5)) fun _ s6 ⟨σ6, H6, I6, q6⟩ => ?_)
    refine wpAny_passesOwn hp (thn (hb _ s6 σ6 H6 _ I6 q6) fun f s7 q7 => ?_)
    have again : ∀ {σ7 : St} {H7 : Hp}, Inv X (pins ++ pinsAt fp s5.heap) σ7 H7 s7 → N σ7 H7 → ∃ m, m < n ∧ ∃ i σ' H', Inv X pins σ' H' s7 ∧ tn i s7.heap ∧ (∀ b ∈ fp, H' b = none) ∧ W i m σ' H' := fun {σ7 H7} I7 n7 => by
      obtain ⟨m', hm, w7⟩ := hN σ7 H7 n7
      refine ⟨m', hm, i + 1, σ7, H7, I7.unpinned, T.keep _ _ _ st5 fun b hb o e => (I7.pin (b, o) (List.mem_append_right _ (List.mem_append_right _ (mem_pinsAt hb e)))).1, fun b hb => ?_, w7⟩
      obtain ⟨o, e, d⟩ := T.obj _ _ st5 b hb
      exact (I7.pin (b, o) (List.mem_append_right _ (List.mem_append_right _ (mem_pinsAt hb e)))).2.1
    cases f with
    | next => obtain ⟨σ7, H7, I7, n7⟩ := q7; exact again I7 n7
    | cont => obtain ⟨σ7, H7, I7, n7⟩ := q7; exact again I7 n7
    | brk => obtain ⟨σ7, H7, I7, q7⟩ := q7; exact ⟨σ7, H7, I7.unpinned, q7⟩
    | ret v => obtain ⟨x7, σ7, H7, I7, r7, q7⟩ := q7; exact ⟨x7, σ7, H7, I7.unpinned, r7, q7⟩
end
theorem for_list {K : PySem.W.Frag} {a : Addr} {xs : List V} {g : TG} {tb : TS} {D : Ends} {σ : St} {H : Hp} (Pv : Nat → St → Hp → Prop) (h0 : Pv 0 σ H) (hl : ∀ i σ H, i ≤ xs.length → Pv i σ H → SqL K H a xs)
    (hs : ∀ i x σ H, xs[i]? = some x → Pv i σ H → g x σ H fun σ2 H2 => tb { D with nx := Pv (i + 1), ct := Pv (i + 1), bk := D.nx } σ2 H2) (hd : ∀ σ H, Pv xs.length σ H → D.nx σ H) :
    ∃ W : Nat → Nat → St → Hp → Prop, (∃ m, W 0 m σ H) ∧ ∀ i m σ H, W i m σ H →
      ((Itl K a).stop i H ∧ D.nx σ H) ∨ ((Itl K a).go i H ∧ ∃ N : St → Hp → Prop, (∀ σ' H', N σ' H' → ∃ m', m' < m ∧ W (i + 1) m' σ' H') ∧ ∀ x H', (Itl K a).yld i H x H' → g x σ H' fun σ2 H2 => tb { D with nx := N, ct := N, bk := D.nx } σ2 H2) := by
  refine ⟨fun i m σ H => m = xs.length - i ∧ i ≤ xs.length ∧ Pv i σ H, ⟨xs.length, by simp, Nat.zero_le _, h0⟩, ?_⟩
  rintro i m σ H ⟨rfl, hi, p⟩
  have q := hl i σ H hi p
  by_cases hlt : i < xs.length
  · refine .inr ⟨⟨xs, xs[i], q, by simp [hlt]⟩, Pv (i + 1), fun σ' H' p' => ⟨xs.length - (i + 1), by omega, rfl, hlt, p'⟩, fun x H' y => ?_⟩
    obtain ⟨e, y⟩ := y
    subst e
    exact hs i x σ _ (y xs q) p
  · have e : i = xs.length := by omega
    subst e
    exact .inl ⟨⟨xs, q, Nat.le_refl _⟩, hd σ H p⟩
theorem for_range {lo : Int} {n : Nat} {g : TG} {tb : TS} {D : Ends} {σ : St} {H : Hp} (Pv : Nat → St → Hp → Prop) (h0 : Pv 0 σ H)
    (hs : ∀ i σ H, i < n → Pv i σ H → g (.int (lo + i)) σ H fun σ2 H2 => tb { D with nx := Pv (i + 1), ct := Pv (i + 1), bk := D.nx } σ2 H2) (hd : ∀ σ H, Pv n σ H → D.nx σ H) :
    ∃ W : Nat → Nat → St → Hp → Prop, (∃ m, W 0 m σ H) ∧ ∀ i m σ H, W i m σ H →
      ((Itr lo n).stop i H ∧ D.nx σ H) ∨ ((Itr lo n).go i H ∧ ∃ N : St → Hp → Prop, (∀ σ' H', N σ' H' → ∃ m', m' < m ∧ W (i + 1) m' σ' H') ∧ ∀ x H', (Itr lo n).yld i H x H' → g x σ H' fun σ2 H2 => tb { D with nx := N, ct := N, bk := D.nx } σ2 H2) := by
  refine ⟨fun i m σ H => m = n - i ∧ i ≤ n ∧ Pv i σ H, ⟨n, by simp, Nat.zero_le _, h0⟩, ?_⟩
  rintro i m σ H ⟨rfl, hi, p⟩
  by_cases hlt : i < n
  · refine .inr ⟨hlt, Pv (i + 1), fun σ' H' p' => ⟨n - (i + 1), by omega, rfl, hlt, p'⟩, fun x H' y => ?_⟩
    obtain ⟨e, y⟩ := y
    subst e y
    exact hs i σ _ hlt p
  · have e : i = n := by omega
    subst e
    exact .inl ⟨Nat.le_refl _, hd σ H p⟩
end L2
namespace L2
open PySem PySem.Spec PyProof.Rows
abbrev R2 := V → V → Hp → VK → Prop
def OpR (X : Cx) (f : Value → Value → Sem Value) (r : R2) : Prop :=
  ∀ (pins : List (Addr × Obj)) (s : Shared) (σ : St) (H : Hp) (x y : V) (v u : Value) (Q : VK), Inv X pins σ H s → RelV x v → RelV y u → r x y H Q →
    wpAny (model X.prog X.w) X.A (f v u) (EP X pins σ Q) X.xe s
def CallR (X : Cx) (f : Value) (r : List V → Hp → VK → Prop) : Prop :=
  ∀ (pins : List (Addr × Obj)) (s : Shared) (σ : St) (H : Hp) (xs : List V) (us : List Value) (Q : VK), Inv X pins σ H s → Vals xs us → r xs H Q →
    wpAny (model X.prog X.w) X.A (call f us) (EP X pins σ Q) X.xe s
def tOp (r : R2) (ta tb : TE) : TE := fun σ H Q => ta σ H fun x H1 => tb σ H1 fun y H2 => r x y H2 Q
def rI (C : Int → Int → Prop) (g : Int → Int → V) : R2 := fun x y H Q => ∃ i j, x = .int i ∧ y = .int j ∧ C i j ∧ Q (g i j) H
def rI0 (g : Int → Int → V) : R2 := fun x y H Q => ∃ i j, x = .int i ∧ y = .int j ∧ Q (g i j) H
section
variable {X : Cx} {a b c : Expr} {ta tb tc : TE} {pos : Pos}
theorem binT (ha : PE X a ta) (hb : PE X b tb) {pins : List (Addr × Obj)} {s : Shared} {σ : St} {H : Hp} {R : V → V → Hp → Prop} (I : Inv X pins σ H s)
    (h : ta σ H fun x H1 => tb σ H1 fun y H2 => R x y H2) {Q : Value → Shared → Prop} {f : Value → Value → Sem Value}
    (hf : ∀ v u s2 x y H2, Inv X pins σ H2 s2 → RelV x v → RelV y u → R x y H2 → wpAny (model X.prog X.w) X.A (f v u) Q X.xe s2) :
    wpAny (model X.prog X.w) X.A (eval a X.env) (fun v s₁ => wpAny (model X.prog X.w) X.A (eval b X.env) (fun u s₂ => wpAny (model X.prog X.w) X.A (f v u) Q X.xe s₂) X.xe s₁) X.xe s := by
  refine thn (ha pins s σ H _ I h) fun v s1 ⟨x, H1, I1, r1, q1⟩ => ?_
  refine thn (hb pins s1 σ H1 _ I1 q1) fun u s2 ⟨y, H2, I2, r2, q2⟩ => ?_
  exact hf v u s2 x y H2 I2 r1 r2 q2
theorem pe_op {op : Operator} {r : R2} (ho : OpR X (binaryOp op) r) (ha : PE X a ta) (hb : PE X b tb) : PE X (.BinOp a op b pos) (tOp r ta tb) := by
  intro pins s σ H Q I h
  exact wpAny_BinOp (binT ha hb I h fun v u s2 x y H2 I2 rx ry q => ho pins s2 σ H2 x y v u Q I2 rx ry q)
theorem opI {f : Value → Value → Sem Value} {C : Int → Int → Prop} {g : Int → Int → Int}
    (rule : ∀ (i j : Int) (t u : Tok) (s : Shared) (Q : Value → Shared → Prop) (E : Value → Shared → Prop), C i j → Q (.int (g i j) s.toks) { s with toks := s.toks + 1 } → wpAny (model X.prog X.w) X.A (f (.int i t) (.int j u)) Q E s) :
    OpR X f (rI C fun i j => .int (g i j)) := by
  intro pins s σ H x y v u Q I rx ry h
  obtain ⟨i, j, rfl, rfl, hc, q⟩ := h
  obtain ⟨t, rfl⟩ := rx
  obtain ⟨t', rfl⟩ := ry
  exact rule i j t t' s _ _ hc ⟨.int (g i j), H, I.tok _, ⟨_, rfl⟩, q⟩
theorem opI0 {f : Value → Value → Sem Value} {g : Int → Int → Int}
    (rule : ∀ (i j : Int) (t u : Tok) (s : Shared) (Q : Value → Shared → Prop) (E : Value → Shared → Prop), Q (.int (g i j) s.toks) { s with toks := s.toks + 1 } → wpAny (model X.prog X.w) X.A (f (.int i t) (.int j u)) Q E s) :
    OpR X f (rI0 fun i j => .int (g i j)) := by
  intro pins s σ H x y v u Q I rx ry h
  obtain ⟨i, j, rfl, rfl, q⟩ := h
  obtain ⟨t, rfl⟩ := rx
  obtain ⟨t', rfl⟩ := ry
  exact rule i j t t' s _ _ ⟨.int (g i j), H, I.tok _, ⟨_, rfl⟩, q⟩
theorem opB0 {f : Value → Value → Sem Value} {g : Int → Int → Bool}
    (rule : ∀ (i j : Int) (t u : Tok) (s : Shared) (Q : Value → Shared → Prop) (E : Value → Shared → Prop), Q (.bool (g i j)) s → wpAny (model X.prog X.w) X.A (f (.int i t) (.int j u)) Q E s) :
    OpR X f (rI0 fun i j => .bl (g i j)) := by
  intro pins s σ H x y v u Q I rx ry h
  obtain ⟨i, j, rfl, rfl, q⟩ := h
  obtain ⟨t, rfl⟩ := rx
  obtain ⟨t', rfl⟩ := ry
  exact rule i j t t' s _ _ ⟨.bl (g i j), H, I, rfl, q⟩
def CMul (i j : Int) : Prop := (-(2 ^ 64) < i ∧ i < 2 ^ 64) ∨ (-(2 ^ 64) < j ∧ j < 2 ^ 64)
theorem CMul.ok {i j : Int} (h : CMul i j) : IntMulOk i j := by
  rcases h with ⟨h1, h2⟩ | ⟨h1, h2⟩
  · exact .of_left (intBits_le_64 h1 h2)
  · exact .of_right (intBits_le_64 h1 h2)
theorem op_add : OpR X (binaryOp .Add) (rI0 fun i j => .int (i + j)) := opI0 fun _ _ _ _ _ _ _ q => add_int q
theorem op_sub : OpR X (binaryOp .Sub) (rI0 fun i j => .int (i - j)) := opI0 fun _ _ _ _ _ _ _ q => sub_int q
theorem op_mul : OpR X (binaryOp .Mult) (rI CMul fun i j => .int (i * j)) := opI fun _ _ _ _ _ _ _ hc q => mul_int q hc.ok
end
def scal : V → V → Bool
  | .non, .non => true | .non, .int _ => true | .int _, .non => true | .non, .bl _ => true | .bl _, .non => true | .non, .str _ => true | .str _, .non => true
  | .int _, .int _ => true | .bl _, .bl _ => true | .str _, .str _ => true | .byt _, .byt _ => true
  | .int _, .str _ => true | .str _, .int _ => true | .bl _, .str _ => true | .str _, .bl _ => true
  | _, _ => false
def rEq : R2 := fun x y H Q => scal x y = true ∧ Q (.bl (decide (x = y))) H
def rNe : R2 := fun x y H Q => scal x y = true ∧ Q (.bl (!decide (x = y))) H
theorem dec_int {i j : Int} : decide (V.int i = V.int j) = (i == j) := by
  rw [Bool.eq_iff_iff]
  simp
theorem dec_bl {i j : Bool} : decide (V.bl i = V.bl j) = (i == j) := by
  rw [Bool.eq_iff_iff]
  simp
theorem dec_str {i j : Str} : decide (V.str i = V.str j) = (i == j) := by
  rw [Bool.eq_iff_iff]
  simp
theorem dec_byt {i j : Array UInt8} : decide (V.byt i = V.byt j) = (i.toList == j.toList) := by
  rw [Bool.eq_iff_iff]
  cases i
  cases j
  simp
section
variable {X : Cx} {a b c : Expr} {ta tb tc : TE} {pos : Pos}
theorem fin_bl {pins : List (Addr × Obj)} {σ : St} {H : Hp} {s : Shared} {Q : VK} {k k' : Bool} (I : Inv X pins σ H s) (q : Q (.bl k) H) (e : k = k') : EP X pins σ Q (.bool k') s := by
  subst e
  exact ⟨.bl k, H, I, rfl, q⟩
theorem op_eq : OpR X (compareOp .Eq) rEq := by
  intro pins s σ H x y v u Q I rx ry h
  obtain ⟨hs, q⟩ := h
  cases x with
  | non =>
    cases rx
    cases y with
    | non => cases ry; exact PySem.EqNone.eq_none_none (fin_bl I q (by simp))
    | bl j => cases ry; exact PySem.EqNone.eq_none_bool (fin_bl I q (by simp))
    | int j => obtain ⟨t', rfl⟩ := ry; exact PySem.EqNone.eq_none_int (fin_bl I q (by simp))
    | str j => obtain ⟨t', rfl⟩ := ry; exact PySem.EqNone.eq_none_str (fin_bl I q (by simp))
    | _ => exact absurd (show false = true from hs) Bool.false_ne_true
  | bl i =>
    cases rx
    cases y with
    | non => cases ry; exact PySem.EqNone.eq_bool_none (fin_bl I q (by simp))
    | bl j => cases ry; exact eq_bool (fin_bl I q dec_bl)
    | str j => obtain ⟨t', rfl⟩ := ry; exact PySem.EqMixed.eq_bool_str (fin_bl I q (by simp))
    | _ => exact absurd (show false = true from hs) Bool.false_ne_true
  | int i =>
    obtain ⟨t, rfl⟩ := rx
    cases y with
    | non => cases ry; exact PySem.EqNone.eq_int_none (fin_bl I q (by simp))
    | int j => obtain ⟨t', rfl⟩ := ry; exact eq_int (fin_bl I q dec_int)
    | str j => obtain ⟨t', rfl⟩ := ry; exact PySem.EqMixed.eq_int_str (fin_bl I q (by simp))
    | _ => exact absurd (show false = true from hs) Bool.false_ne_true
  | str i =>
    obtain ⟨t, rfl⟩ := rx
    cases y with
    | non => cases ry; exact PySem.EqNone.eq_str_none (fin_bl I q (by simp))
    | bl j => cases ry; exact PySem.EqMixed.eq_str_bool (fin_bl I q (by simp))
    | int j => obtain ⟨t', rfl⟩ := ry; exact PySem.EqMixed.eq_str_int (fin_bl I q (by simp))
    | str j => obtain ⟨t', rfl⟩ := ry; exact eq_str (fin_bl I q dec_str)
    | _ => exact absurd (show false = true from hs) Bool.false_ne_true
  | byt i =>
    obtain ⟨t, rfl⟩ := rx
    cases y with
    | byt j => obtain ⟨t', rfl⟩ := ry; exact PySem.W.eq_bytes (fin_bl I q dec_byt)
    | _ => exact absurd (show false = true from hs) Bool.false_ne_true
  | _ => cases y <;> exact absurd (show false = true from hs) Bool.false_ne_true
theorem op_ne : OpR X (compareOp .NotEq) rNe := by
  intro pins s σ H x y v u Q I rx ry h
  obtain ⟨hs, q⟩ := h
  cases x with
  | non =>
    cases rx
    cases y with
    | non => cases ry; exact PySem.EqNone.ne_none_none (fin_bl I q (by simp))
    | bl j => cases ry; exact PySem.EqNone.ne_none_bool (fin_bl I q (by simp))
    | int j => obtain ⟨t', rfl⟩ := ry; exact PySem.EqNone.ne_none_int (fin_bl I q (by simp))
    | str j => obtain ⟨t', rfl⟩ := ry; exact PySem.EqNone.ne_none_str (fin_bl I q (by simp))
    | _ => exact absurd (show false = true from hs) Bool.false_ne_true
  | bl i =>
    cases rx
    cases y with
    | non => cases ry; exact PySem.EqNone.ne_bool_none (fin_bl I q (by simp))
    | bl j => cases ry; exact ne_bool (fin_bl I q (congrArg not dec_bl))
    | str j => obtain ⟨t', rfl⟩ := ry; exact PySem.EqMixed.ne_bool_str (fin_bl I q (by simp))
    | _ => exact absurd (show false = true from hs) Bool.false_ne_true
  | int i =>
    obtain ⟨t, rfl⟩ := rx
    cases y with
    | non => cases ry; exact PySem.EqNone.ne_int_none (fin_bl I q (by simp))
    | int j => obtain ⟨t', rfl⟩ := ry; exact ne_int (fin_bl I q (congrArg not dec_int))
    | str j => obtain ⟨t', rfl⟩ := ry; exact PySem.EqMixed.ne_int_str (fin_bl I q (by simp))
    | _ => exact absurd (show false = true from hs) Bool.false_ne_true
  | str i =>
    obtain ⟨t, rfl⟩ := rx
    cases y with
    | non => cases ry; exact PySem.EqNone.ne_str_none (fin_bl I q (by simp))
    | bl j => cases ry; exact PySem.EqMixed.ne_str_bool (fin_bl I q (by simp))
    | int j => obtain ⟨t', rfl⟩ := ry; exact PySem.EqMixed.ne_str_int (fin_bl I q (by simp))
    | str j => obtain ⟨t', rfl⟩ := ry; exact ne_str (fin_bl I q (congrArg not dec_str))
    | _ => exact absurd (show false = true from hs) Bool.false_ne_true
  | byt i =>
    obtain ⟨t, rfl⟩ := rx
    cases y with
    | byt j => obtain ⟨t', rfl⟩ := ry; exact PySem.W.ne_bytes (fin_bl I q (congrArg not dec_byt))
    | _ => exact absurd (show false = true from hs) Bool.false_ne_true
  | _ => cases y <;> exact absurd (show false = true from hs) Bool.false_ne_true
theorem op_lt : OpR X (compareOp .Lt) (rI0 fun i j => .bl (decide (i < j))) := opB0 fun _ _ _ _ _ _ _ q => lt_int q
theorem op_gt : OpR X (compareOp .Gt) (rI0 fun i j => .bl (decide (j < i))) := opB0 fun _ _ _ _ _ _ _ q => gt_int q
theorem op_ge : OpR X (compareOp .GtE) (rI0 fun i j => .bl (decide (j ≤ i))) := opB0 fun _ _ _ _ _ _ _ q => ge_int q
theorem nomark (b : Expr) {op : CmpOp} (h : op ≠ .In := by decide) (h2 : op ≠ .NotIn := by decide) : behindInMarks op b = false := by
  have e1 : (op == CmpOp.In) = false := by cases op <;> first | rfl | exact absurd rfl h
  have e2 : (op == CmpOp.NotIn) = false := by cases op <;> first | rfl | exact absurd rfl h2
  cases b <;> simp [behindInMarks, e1, e2]
theorem pe_cmpR {op : CmpOp} {r : R2} (ho : OpR X (compareOp op) r) (ha : PE X a ta) (hb : PE X b tb) (hm : behindInMarks op b = false) : PE X (.Compare a [op] [b] pos) (tOp r ta tb) := by
  intro pins s σ H Q I h
  exact wpAny_Compare1 (binT ha hb I h fun v u s2 x y H2 I2 rx ry q => ho pins s2 σ H2 x y v u Q I2 rx ry q) hm
def tTest (t : TE) : TT := fun σ H Q => t σ H fun x H' => ∃ k, x = .bl k ∧ Q k H'
theorem pt_cmpR {op : CmpOp} {r : R2} (ho : OpR X (compareOp op) r) (ha : PE X a ta) (hb : PE X b tb) (hm : behindInMarks op b = false) : PT X (.Compare a [op] [b] pos) (tTest (tOp r ta tb)) := by
  intro pins s σ H Q I h
  refine wpAny_isTrue_Compare1 (thn (ha pins s σ H _ I h) fun v s1 ⟨x, H1, I1, r1, q1⟩ => thn (hb pins s1 σ H1 _ I1 q1) fun u s2 ⟨y, H2, I2, r2, q2⟩ =>
    thn (ho pins s2 σ H2 x y v u _ I2 r1 r2 q2) fun c s3 ⟨z, H3, I3, r3, k, e, q3⟩ => ?_) hm
  subst e
  cases r3
  exact wpAny_truthy_bool ⟨H3, I3, q3⟩
theorem line63 : (sizeLine : Nat) < 2 ^ 63 := by rw [sizeLine_eq]; decide
theorem vals1 {x : V} {us : List Value} (r : Vals [x] us) : ∃ u, us = [u] ∧ RelV x u := by
  cases r with
  | cons r1 r2 => cases r2; exact ⟨_, rfl, r1⟩
end
end L2
namespace L2
open PySem PySem.Spec PyProof.Rows
structure ObjM (h : Heap) (x dx C : Addr) (mA : Str → Option Value) : Prop where
  obj : h.get? x = some (PySem.W.instObj C dx)
  ns : h.Ns1 dx mA
  ne : dx ≠ x
theorem lookIn_ns {h : Heap} {dx : Addr} {mA : Str → Option Value} (n : h.Ns1 dx mA) : ∃ od, h.get? dx = some od ∧ ∀ name, PySem.W.lookIn name od = some (mA name) := by
  obtain ⟨o, es, ep, ho, hd, hk, _, hm⟩ := n
  refine ⟨o, ho, fun name => ?_⟩
  have e := hm name
  unfold nsFind findBy at e
  rw [← Array.find?_toList] at e
  unfold PySem.W.lookIn
  rw [hd]
  dsimp only
  split
  · rename_i y q
    rw [q] at e
    exact congrArg some e
  · rename_i q
    rw [q] at e
    have a : es.toList.any (·.refKey) = false := by
      rw [List.any_eq_false]
      intro y hy
      obtain ⟨z, t, hkey⟩ := hk y (Array.mem_toList_iff.mp hy)
      simp [DictEntry.refKey, hkey]
    have a' : ¬ es.toList.any (·.refKey) = true := by rw [a]; exact Bool.false_ne_true
    rw [if_neg a']
    exact congrArg some e
theorem ObjM.look {h : Heap} {x dx C : Addr} {mA : Str → Option Value} (I : ObjM h x dx C mA) : ∃ od, PySem.W.InstAt h x (PySem.W.instObj C dx) C (some od) ∧ ∀ name, PySem.W.lookIn name od = some (mA name) :=
  let ⟨od, ho, hl⟩ := lookIn_ns I.ns
  ⟨od, ⟨I.obj, rfl, rfl, ho⟩, hl⟩
section
variable {prog : Program} {w : World} {A : Around} {E : Value → Shared → Prop} {s : Shared} {K : PySem.W.Frag} {x dx C f : Addr} {mA : Str → Option Value} {name : Str} {v : Value}
theorem get_map {expr : Bool} {Q : Value → Shared → Prop} (X : K.In s.heap) (I : ObjM s.heap x dx C mA) (hg : PySem.W.plainGet K C name = true) (hh : PySem.W.hasDictIn K C = true)
    (ha : PySem.W.findIn K (.ref C) name = some none) (hv : mA name = some v) (hv' : PySem.W.handedIn v = true) (h : Q v { s with toks := s.toks + 1 }) :
    wpAny (model prog w) A (getAttr (.ref x) name expr) Q E s := by
  obtain ⟨od, J, hl⟩ := I.look
  exact PySem.W.get_value X J (PySem.W.plainGet_of hg).1 (PySem.W.findObj_own hh ha rfl (by rw [hl, hv])) hv' h
theorem get_meth {pl : Sem Bool} {Q : Value × List Value → Shared → Prop} (X : K.In s.heap) (I : ObjM s.heap x dx C mA) (hg : PySem.W.plainGet K C name = true)
    (hf : PySem.W.findIn K (.ref C) name = some (some (.ref f))) (ht : PySem.W.isFn K (.ref f) = true) (hv : mA name = none) (h : Q (.ref f, [.ref x]) s) :
    wpAny (model prog w) A (getMethod (.ref x) name pl) Q E s := by
  obtain ⟨od, J, hl⟩ := I.look
  exact PySem.W.method_fn X J (PySem.W.plainGet_of hg).1 (PySem.W.plainGet_of hg).2 hf (beq_iff_eq.mp ht) (by show (PySem.W.lookIn name od).map (·.isSome) = some false; rw [hl, hv]; rfl) h
theorem set_map {ns : List Str} {Q : Unit → Shared → Prop} (X : K.In s.heap) (I : ObjM s.heap x dx C mA)
    (hs : PySem.W.findIn K (.ref C) "__setattr__" = some (some (.builtin "object.__setattr__"))) (hp : PySem.W.plainOver K C = true) (ht : PySem.W.takerIn K C name = some none) (hh : PySem.W.hasDictIn K C = true)
    (hw : PySem.Within mA ns) (hsz : ns.length ≤ sizeLine)
    (h : ∀ h', ObjM h' x dx C (fun y => if y = name then some v else mA y) → Heap.SameBut dx s.heap h' → Q () { s with heap := h', toks := s.toks + 2 }) :
    wpAny (model prog w) A (setAttr (.ref x) name v) Q E s := by
  obtain ⟨od, J, hl⟩ := I.look
  refine PySem.W.set_plain X J hs (PySem.W.osa_open (s := { s with toks := s.toks + 1 }) (r := none) X J hp ht fun b => ?_)
  obtain ⟨cd, hc, hd'⟩ := PySem.W.any_some hh
  have hx : s.heap.get? x = some ⟨.ref C, some dx, .plain, #[]⟩ := I.obj
  refine wpAny_bind (wpAny_pure (wpAny_bind (wpAny_bind (wpAny_loadPart hx (wpAny_bind (PySem.W.Looks.here (s := { s with toks := s.toks + 1 }) (PySem.W.looks_clsIn X hc) ?_))))))
  rw [hd']
  refine wpAny_pure (a := some dx) (wpAny_bind (wpAny_pure (wpAny_bind ?_)))
  refine wpAny_nsSet1 (s := { s with toks := s.toks + 1 }) I.ns fun h' hn2 hs2 => ?_
  obtain ⟨oD, esD, epD, hoD, hdD, hcD⟩ := hn2.count (PySem.Within.cons name v hw)
  refine wpAny_bind (wpAny_lookBehind hoD (by rw [hdD]; exact pastItsLine_dict (Nat.le_trans hcD (by rw [List.length_cons]; omega))) ?_)
  exact wpAny_pure (h _ ⟨(hs2.2 _ (Ne.symm I.ne)).trans I.obj, hn2, I.ne⟩ hs2)
theorem make_map {R : Result → Shared → Prop} {vs : List Value} {kw : List (Str × Value)} (X : K.In s.heap) (hm : PySem.W.makesIn K C = true)
    (hi : PySem.W.findIn K (.ref C) "__init__" = some (some (.ref f))) (hf : PySem.W.typeIn K (.ref f) = some (.type "function"))
    (h : codeAny (model prog w) (A.under (.builtin "type.__call__" ⟨.ref C :: vs, kw⟩)) (.call (.ref f) ⟨.ref (s.heap.objs.size + 1) :: vs, kw⟩) (PySem.W.InitBack (s.heap.objs.size + 1) R)
      { s with heap := (s.heap.push PySem.W.emptyDict).push (PySem.W.instObj C s.heap.objs.size) }) :
    codeAny (model prog w) A (.call (.ref C) ⟨vs, kw⟩) R s := by
  obtain ⟨hh, g, d, t, os⟩ := s
  exact PySem.W.make_core (PySem.W.makes_of X hm) (PySem.W.looks_findIn X hi) (fun self => PySem.W.bind_fn X self hf) (.inl rfl) h
end
def putF (f : Str) (v : V) : List (Str × V) → List (Str × V)
  | [] => [(f, v)]
  | (g, x) :: r => if g = f then (g, v) :: r else (g, x) :: putF f v r
theorem lookup_putF (f g : Str) (v : V) : ∀ fs : List (Str × V), (putF f v fs).lookup g = if g = f then some v else fs.lookup g
  | [] => by
    show List.lookup g [(f, v)] = _
    by_cases h : g = f
    · have hb : (g == f) = true := beq_iff_eq.mpr h
      simp only [List.lookup, hb, if_pos h]
    · have hb : (g == f) = false := beq_eq_false_iff_ne.mpr h
      simp only [List.lookup, hb, if_neg h]
  | (k, x) :: r => by
    have ih := lookup_putF f g v r
    rw [show putF f v ((k, x) :: r) = (if k = f then (k, v) :: r else (k, x) :: putF f v r) from rfl]
    by_cases hk : k = f
    · rw [if_pos hk]
      by_cases h : g = k
      · have hb : (g == k) = true := beq_iff_eq.mpr h
        simp only [List.lookup, hb, if_pos (h.trans hk)]
      · have hb : (g == k) = false := beq_eq_false_iff_ne.mpr h
        simp only [List.lookup, hb, if_neg (fun e : g = f => h (e.trans hk.symm))]
    · rw [if_neg hk]
      by_cases h : g = k
      · have hb : (g == k) = true := beq_iff_eq.mpr h
        simp only [List.lookup, hb, if_neg (fun e : g = f => hk (h.symm.trans e))]
      · have hb : (g == k) = false := beq_eq_false_iff_ne.mpr h
        simp only [List.lookup, hb]
        exact ih
theorem keys_putF (f : Str) (v : V) : ∀ fs : List (Str × V), f ∈ (putF f v fs).map (·.1) ∧ ∀ g, g ∈ fs.map (·.1) → g ∈ (putF f v fs).map (·.1)
  | [] => ⟨by simp [putF], fun g h => by simp at h⟩
  | (k, x) :: r => by
    obtain ⟨i1, i2⟩ := keys_putF f v r
    rw [show putF f v ((k, x) :: r) = (if k = f then (k, v) :: r else (k, x) :: putF f v r) from rfl]
    by_cases hk : k = f
    · rw [if_pos hk]
      subst hk
      exact ⟨by simp, fun g h => by simpa using h⟩
    · rw [if_neg hk]
      refine ⟨?_, fun g h => ?_⟩
      · rw [List.map_cons]
        exact List.mem_cons_of_mem _ i1
      · rw [List.map_cons] at h ⊢
        rcases List.mem_cons.mp h with e | e
        · exact List.mem_cons.mpr (.inl e)
        · exact List.mem_cons_of_mem _ (i2 g e)
theorem length_putF (f : Str) (v : V) : ∀ fs : List (Str × V), (putF f v fs).length ≤ fs.length + 1
  | [] => by simp [putF]
  | (k, x) :: r => by
    have ih := length_putF f v r
    rw [show putF f v ((k, x) :: r) = (if k = f then (k, v) :: r else (k, x) :: putF f v r) from rfl]
    by_cases hk : k = f
    · rw [if_pos hk, List.length_cons, List.length_cons]; omega
    · rw [if_neg hk, List.length_cons, List.length_cons]; omega
theorem RelO.some_of {v : V} {o : Option Value} (r : RelO (some v) o) : ∃ u, o = some u ∧ RelV v u := by
  cases o with
  | none => exact (show False from r).elim
  | some u => exact ⟨u, rfl, r⟩
theorem RelO.none_of {o : Option Value} (r : RelO none o) : o = none := by
  cases o with
  | none => rfl
  | some u => exact (show False from r).elim
theorem handed_of {v : V} {u : Value} (r : RelV v u) : PySem.W.handedIn u = true := by
  cases v with
  | non => cases (show u = Value.none from r); rfl
  | bl b => cases (show u = Value.bool b from r); rfl
  | int i => obtain ⟨t, e⟩ := (show ∃ t, u = Value.int i t from r); cases e; rfl
  | str x => obtain ⟨t, e⟩ := (show ∃ t, u = Value.str x t from r); cases e; rfl
  | byt b => obtain ⟨t, e⟩ := (show ∃ t, u = Value.bytes b t from r); cases e; rfl
  | flt b => obtain ⟨t, e⟩ := (show ∃ t, u = Value.float b t from r); cases e; rfl
  | ref a => cases (show u = Value.ref a from r); rfl
  | ty n => cases (show u = Value.type n from r); rfl
section
variable {P : Program} {w : World} {H H' : Hp} {h h' : Heap} {a C dx : Addr} {fs fs' : List (Str × V)}
theorem ins_get (hok : HOk P w H h) (e : H a = some (.ins C dx fs)) : ∃ mA, ObjM h a dx C mA ∧ (∀ f, RelO (fs.lookup f) (mA f)) ∧ PySem.Within mA (fs.map (·.1)) ∧ fs.length ≤ 1000 ∧ H dx = some (.own a) := by
  obtain ⟨d, z, ne, ob, mA, n, r, q⟩ := (show ObjOk P w H h a (.ins C dx fs) from hok a _ e)
  exact ⟨mA, ⟨ob, n, ne⟩, r, q, z, d⟩
end
structure Cls (K : PySem.W.Frag) (C : Addr) : Prop where
  pg : PySem.W.plainGet K C Str.empty = true
  hd : PySem.W.hasDictIn K C = true
  po : PySem.W.plainOver K C = true
  sa : PySem.W.findIn K (.ref C) "__setattr__" = some (some (.builtin "object.__setattr__"))
theorem Cls.get {K : PySem.W.Frag} {C : Addr} (c : Cls K C) (f : Str) : PySem.W.plainGet K C f = true := c.pg
def NoAttr (K : PySem.W.Frag) (C : Addr) (f : Str) : Prop := PySem.W.findIn K (.ref C) f = some none
theorem NoAttr.taker {K : PySem.W.Frag} {C : Addr} {f : Str} (n : NoAttr K C f) : PySem.W.takerIn K C f = some none := by
  unfold PySem.W.takerIn
  rw [show PySem.W.findIn K (.ref C) f = some none from n]
  rfl
structure Meth (K : PySem.W.Frag) (C : Addr) (m : Str) (f : Addr) : Prop where
  at_ : PySem.W.findIn K (.ref C) m = some (some (.ref f))
  fn : PySem.W.isFn K (.ref f) = true
  kp : PySem.W.keepIn K (.ref f) = true
section
variable {X : Cx} {pins : List (Addr × Obj)} {σ : St} {H : Hp} {s : Shared} {a C dx : Addr} {fs : List (Str × V)} {f : Str} {v : V} {A : Around} {E : Value → Shared → Prop}
theorem getattr_ok {b : Bool} {Q : Value → Shared → Prop} (I : Inv X pins σ H s) (e : H a = some (.ins C dx fs)) (c : Cls X.K C) (n : NoAttr X.K C f) (l : fs.lookup f = some v)
    (h : ∀ u s', Inv X pins σ H s' → RelV v u → Q u s') : wpAny (model X.prog X.w) A (getAttr (.ref a) f b) Q E s := by
  obtain ⟨mA, O, r, _, _, _⟩ := ins_get I.hok e
  obtain ⟨u, hu, ru⟩ := RelO.some_of (v := v) (o := mA f) (by rw [← l]; exact r f)
  exact get_map I.kIn O (c.get f) c.hd n hu (handed_of ru) (h u _ (I.tok _) ru)
theorem getmeth_ok {m : Str} {g : Addr} {pl : Sem Bool} {Q : Value × List Value → Shared → Prop} (I : Inv X pins σ H s) (e : H a = some (.ins C dx fs)) (c : Cls X.K C) (k : Meth X.K C m g) (l : fs.lookup m = none)
    (h : Q (.ref g, [.ref a]) s) : wpAny (model X.prog X.w) A (getMethod (.ref a) m pl) Q E s := by
  obtain ⟨mA, O, r, _, _, _⟩ := ins_get I.hok e
  have hn : mA m = none := RelO.none_of (by rw [← l]; exact r m)
  exact get_meth I.kIn O (c.get m) k.at_ k.fn hn h
theorem setattr_ok {y : V} {u : Value} {Q : Unit → Shared → Prop} (I : Inv X pins σ H s) (e : H a = some (.ins C dx fs)) (c : Cls X.K C) (n : NoAttr X.K C f) (hl : fs.length < 1000) (ry : RelV y u)
    (h : ∀ s', Inv X pins σ (upd H a (.ins C dx (putF f y fs))) s' → Q () s') : wpAny (model X.prog X.w) A (setAttr (.ref a) f u) Q E s := by
  obtain ⟨mA, O, r, wi, _, ho⟩ := ins_get I.hok e
  have hz : (fs.map (·.1)).length ≤ sizeLine := by rw [List.length_map, sizeLine_eq]; omega
  refine set_map I.kIn O c.sa c.po n.taker c.hd wi hz fun h' O' sb => h _ ?_
  have hd : ∃ o, h'.get? dx = some o := let ⟨o, _, _, e', _⟩ := O'.ns; ⟨o, e'⟩
  refine I.write (x := a) (e := dx) (by rw [e]; exact True.intro) (.inr ho) (fun b q hb z => (sb.2 b hb).trans z) hd ?_
  refine ⟨by rw [upd_ne O.ne]; exact ho, ?_, O.ne, O'.obj, _, O'.ns, fun g => ?_, fun g hg => ?_⟩
  · have := length_putF f y fs; omega
  · show RelO ((putF f y fs).lookup g) (if g = f then some u else mA g)
    rw [lookup_putF]
    by_cases q : g = f
    · rw [if_pos q, if_pos q]; exact ry
    · rw [if_neg q, if_neg q]; exact r g
  · by_cases q : g = f
    · rw [q]; exact (keys_putF f y fs).1
    · refine (keys_putF f y fs).2 g (wi g fun z => hg ?_)
      show (if g = f then some u else mA g) = none
      rw [if_neg q]; exact z
theorem Inv.made (I : Inv X pins σ H s) : Inv X pins σ (upd (upd H s.heap.objs.size (.own (s.heap.objs.size + 1))) (s.heap.objs.size + 1) (.ins C s.heap.objs.size []))
    { s with heap := (s.heap.push PySem.W.emptyDict).push (PySem.W.instObj C s.heap.objs.size) } := by
  have e1 : (s.heap.push PySem.W.emptyDict).get? s.heap.objs.size = some PySem.W.emptyDict := Heap.get?_push_size s.heap rfl
  have e2 : ((s.heap.push PySem.W.emptyDict).push (PySem.W.instObj C s.heap.objs.size)).get? (s.heap.objs.size + 1) = some (PySem.W.instObj C s.heap.objs.size) := by
    have := Heap.get?_push_size (s.heap.push PySem.W.emptyDict) (o := PySem.W.instObj C s.heap.objs.size) rfl
    rwa [Heap.size_push] at this
  have e3 : (s.heap.push PySem.W.emptyDict).Ns s.heap.objs.size (fun _ => none) := ⟨PySem.W.emptyDict, #[], _, e1, rfl, (fun e he => absurd he (by simp)), fun _ => rfl⟩
  have I1 := I.laid (a := s.heap.objs.size) (o := .own (s.heap.objs.size + 1)) (h' := s.heap.push PySem.W.emptyDict) (t' := s.toks) (fun b u q => Heap.get?_push_of_some _ q) (Nat.le_refl _) ⟨_, e1⟩
  refine I1.laid (a := s.heap.objs.size + 1) (o := .ins C s.heap.objs.size []) (t' := s.toks) (fun b u q => Heap.get?_push_of_some _ q) (Nat.le_of_eq (Heap.size_push _ _)) ?_
  have ne : s.heap.objs.size ≠ s.heap.objs.size + 1 := Nat.ne_of_lt (Nat.lt_succ_self _)
  refine ⟨by rw [upd_ne ne, upd_same], Nat.zero_le _, ne, e2, fun _ => none, (Heap.Ns1.of_empty e3).at fun o q => Heap.get?_push_of_some _ q, fun _ => True.intro, fun y hy => absurd rfl hy⟩
theorem attr_of {prog : Program} {w : World} {env : Env} {e : Expr} {f : Str} {pos : Pos} {s : Shared} {Q : Value → Shared → Prop} (hb : attributeBase e f env (eval e env) = eval e env)
    (h : wpAny (model prog w) A (eval e env) (fun o s₁ => wpAny (model prog w) A (getAttr o f true) Q E s₁) E s) : wpAny (model prog w) A (eval (.Attribute e f pos) env) Q E s :=
  Attribute_any_ h (by rw [arm_eval_Attribute, hb])
end
def tFld (K : PySem.W.Frag) (ta : TE) (f : Str) : TE := fun σ H Q => ta σ H fun x H1 => ∃ a C dx fs v, x = .ref a ∧ H1 a = some (.ins C dx fs) ∧ Cls K C ∧ NoAttr K C f ∧ fs.lookup f = some v ∧ Q v H1
def sFld (K : PySem.W.Frag) (ta tv : TE) (f : Str) : TS := fun D σ H => tv σ H fun y H1 => ta σ H1 fun x H2 => ∃ a C dx fs, x = .ref a ∧ H2 a = some (.ins C dx fs) ∧ Cls K C ∧ NoAttr K C f ∧ fs.length < 1000 ∧
  D.nx σ (upd H2 a (.ins C dx (putF f y fs)))
section
variable {X : Cx} {o e value : Expr} {f : Str} {pos pos' tpos : Pos} {ta tv : TE}
theorem pe_fld (he : PE X e ta) (hb : attributeBase e f X.env (eval e X.env) = eval e X.env) : PE X (.Attribute e f pos) (tFld X.K ta f) := by
  intro pins s σ H Q I h
  refine attr_of hb (thn (he pins s σ H _ I h) fun u s1 ⟨x, H1, I1, rx, a, C, dx, fs, v, ex, ea, c, n, l, q⟩ => ?_)
  subst ex
  obtain rfl : u = Value.ref a := rx
  exact getattr_ok I1 ea c n l fun u' s2 I2 ru => ⟨v, H1, I2, ru, q⟩
theorem ps_fld (ha : PE X o ta) (hv : PE X value tv) (hs : swapsWith value (some (.Attribute o f pos')) pos.line X.env = pure false) : PS X (.Assign [.Attribute o f pos'] value pos) (sFld X.K ta tv f) := by
  intro pins s σ H D I h
  refine plainObj_wpAny_Assign_Attribute (thn (hv pins s σ H _ I h) fun u s1 ⟨y, H1, I1, ry, q⟩ => thn (ha pins s1 σ H1 _ I1 q) fun ov s2 ⟨x, H2, I2, rx, a, C, dx, fs, ex, ea, c, n, l, q2⟩ => ?_) hs
  subst ex
  obtain rfl : ov = Value.ref a := rx
  exact setattr_ok I2 ea c n l ry fun s3 I3 => ⟨σ, _, I3, q2⟩
end
section
variable {X : Cx} {pins : List (Addr × Obj)} {σ : St} {H : Hp} {s : Shared} {A : Around} {E : Value → Shared → Prop} {Q : Value → Shared → Prop} {c : Value} {b : Bool}
end
end L2
namespace L2
open PySem PySem.Spec PyProof.Rows
structure Room (k : Nat) (A : Around) : Prop where
  hd : A.handled = none
  dp : A.depth + 3 * k + 5 < recursionLimit
  un : A.units + 16 * k + 200 < cLine
theorem Room.mono {j k : Nat} {A : Around} (r : Room k A) (h : j ≤ k) : Room j A := ⟨r.hd, by have := r.dp; omega, by have := r.un; omega⟩
theorem Room.deeper {k : Nat} {A : Around} (r : Room (k + 1) A) (env : Env) : Room k (A.deeper env) :=
  ⟨r.hd, by have := r.dp; show A.depth + 1 + 3 * k + 5 < _; omega, by have := r.un; show A.units + 3 + 16 * k + 200 < _; omega⟩
theorem make_depth {A : Around} {C : Addr} {us : List Value} {kw : List (Str × Value)} : (A.under (.builtin "type.__call__" ⟨.ref C :: us, kw⟩)).depth = A.depth + 1 := by
  first | rfl | simp [Around.under, Code.weight, Code.isCreation, Code.isGuard, Code.isCaller, Code.frames, Code.isFrame, guardIds]
theorem make_units {A : Around} {C : Addr} {us : List Value} {kw : List (Str × Value)} : (A.under (.builtin "type.__call__" ⟨.ref C :: us, kw⟩)).units = A.units + 1 := by
  first | rfl | simp [Around.under, Code.cUnits, Code.frames, Code.isFrame]
theorem Room.make {k : Nat} {A : Around} (r : Room (k + 1) A) (C : Addr) (us : List Value) (kw : List (Str × Value)) : Room k (A.under (.builtin "type.__call__" ⟨.ref C :: us, kw⟩)) :=
  ⟨r.hd, by have := r.dp; rw [make_depth]; omega, by have := r.un; rw [make_units]; omega⟩
theorem Room.depth {k : Nat} {A : Around} (r : Room k A) : A.depth < recursionLimit := by have := r.dp; omega
def tNil : TA := fun _ H Q => Q [] H
def tCons (ta : TE) (tr : TA) : TA := fun σ H Q => ta σ H fun x H1 => tr σ H1 fun xs H2 => Q (x :: xs) H2
section
variable {X : Cx} {e : Expr} {es : List Expr} {te : TE} {t : TA} {pos : Pos}
theorem pa_nil : PA X [] tNil := fun _ _ _ _ H Q I h => Calls.spliced_nil ⟨[], H, I, .nil, h⟩
theorem pa_cons (ha : PE X e te) (hr : PA X es t) (hs : starEach (e :: es) X.env = (false, eval e X.env) :: starEach es X.env := by rfl) : PA X (e :: es) (tCons te t) := by
  intro pos pins s σ H Q I h
  rw [hs]
  show wpAny _ _ (spliced ((false, eval e X.env) :: backTo pos (starEach es X.env))) _ _ s
  refine Calls.spliced_cons (thn (ha pins s σ H _ I h) fun u s1 ⟨x, H1, I1, r1, q1⟩ => ?_)
  exact thn (hr pos pins s1 σ H1 _ I1 q1) fun us s2 ⟨xs, H2, I2, r2, q2⟩ => ⟨x :: xs, H2, I2, .cons r1 r2, q2⟩
def tTup (t : TA) : TE := fun σ H Q => t σ H fun xs H1 => xs.length ≤ sizeLine ∧ ∀ p, H1 p = none → Q (.ref p) (upd H1 p (.tup xs))
def tLst (t : TA) : TE := fun σ H Q => t σ H fun xs H1 => xs.length ≤ sizeLine ∧ ∀ p, H1 p = none → Q (.ref p) (upd H1 p (.lst xs))
theorem pe_tup {x1} (h : PA X es t) : PE X (.Tuple es x1 pos) (tTup t) := by
  intro pins s σ H Q I hq
  refine wpAny_Tuple_spliced (thn (h pos pins s σ H _ I hq) fun us s1 ⟨xs, H1, I1, r, z, q⟩ => ⟨by rw [← r.length]; exact z, ?_⟩)
  have hf : H1 s1.heap.objs.size = none := I1.hok.fresh (Nat.le_refl _)
  refine ⟨.ref s1.heap.objs.size, upd H1 s1.heap.objs.size (.tup xs), I1.laid (t' := s1.toks) (fun b u e => Heap.get?_push_of_some _ e) (Nat.le_refl _) ?_, rfl, q _ hf⟩
  exact ⟨z, us, r, ⟨_, Heap.get?_push_size _ rfl, rfl, _, rfl⟩⟩
theorem pe_lst (h : PA X es t) : PE X (.List es pos) (tLst t) := by
  intro pins s σ H Q I hq
  refine wpAny_List_spliced (thn (h pos pins s σ H _ I hq) fun us s1 ⟨xs, H1, I1, r, z, q⟩ => ⟨by rw [← r.length]; exact z, ?_⟩)
  have hf : H1 s1.heap.objs.size = none := I1.hok.fresh (Nat.le_refl _)
  refine ⟨.ref s1.heap.objs.size, upd H1 s1.heap.objs.size (.lst xs), I1.laid (t' := s1.toks) (fun b u e => Heap.get?_push_of_some _ e) (Nat.le_refl _) ?_, rfl, q _ hf⟩
  exact ⟨z, us, 0, r, Heap.get?_push_size _ rfl⟩
end
abbrev Sp := List V → Hp → VK → XK → Prop
abbrev CXT := List Env → Hp → Shared → XK → Value → Shared → Prop
structure Env0 (P : Program) (w : World) (K : PySem.W.Frag) (mg : Str → Option Value) (base : Heap) (A : Around) (outer : List Env) (s : Shared) (H : Hp) : Prop where
  frames : A.frames = some outer
  mod : Mod K mg base
  bs : ∀ b o, base.get? b = some o → s.heap.get? b = some o ∧ H b = none
  bsz : base.objs.size ≤ s.heap.objs.size
  funs : s.heap.FunFrames base outer
  frf : ∀ b ∈ frs outer, H b = none
  hok : HOk P w H s.heap
  bare : AllBare s.gens
def CE (outer : List Env) (P : Program) (w : World) (H : Hp) (s : Shared) (Q : VK) (u : Value) (s' : Shared) : Prop :=
  ∃ v H', s'.os = s.os ∧ AllBare s'.gens ∧ Un (frs outer) [] H H' s.heap s'.heap ∧ HOk P w H' s'.heap ∧ RelV v u ∧ Q v H'
def CR (CX : CXT) (outer : List Env) (P : Program) (w : World) (H : Hp) (s : Shared) (Q : VK) (E : XK) (r : Result) (s' : Shared) : Prop :=
  match r with
  | .ok (.ret u) => CE outer P w H s Q u s'
  | .ok _ => False
  | .error e => CX outer H s E e s'
structure FnOk (P : Program) (w : World) (K : PySem.W.Frag) (mg : Str → Option Value) (base : Heap) (CX : CXT) (k : Nat) (f : Addr) (fd : FuncData) (ps : List Str) (sp : Sp) : Prop where
  len : ∀ vs H Q E, sp vs H Q E → vs.length = ps.length
  run : ∀ (A : Around) (outer : List Env) (s : Shared) (H : Hp) (args : Args) (us : List Value) (vs : List V) (Q : VK) (E : XK), Room k A → Env0 P w K mg base A outer s H → BindsTo s fd args (ps.zip us) → Vals vs us → sp vs H Q E →
    codeAny (model P w) A (.call (.ref f) args) (CR CX outer P w H s Q E) s
theorem Env0.make {P : Program} {w : World} {K : PySem.W.Frag} {mg : Str → Option Value} {base : Heap} {A : Around} {outer : List Env} {s : Shared} {H : Hp} (e : Env0 P w K mg base A outer s H) (C : Addr) (us : List Value) (kw : List (Str × Value)) :
    Env0 P w K mg base (A.under (.builtin "type.__call__" ⟨.ref C :: us, kw⟩)) outer s H := ⟨by first | exact e.frames | (simpa [Around.under, Code.envs, Code.isFrame, pushEnvs] using e.frames), e.mod, e.bs, e.bsz, e.funs, e.frf, e.hok, e.bare⟩
section
variable {X : Cx} {pins : List (Addr × Obj)} {σ : St} {H : Hp} {s s' : Shared}
theorem Inv.env0 (I : Inv X pins σ H s) : Env0 X.prog X.w X.K X.mg X.base X.A X.stack s H :=
  ⟨I.ok.frames, I.ok.mod, I.bs, Nat.le_trans I.ok.bsz I.sz, I.stack, I.stkFree, I.hok, I.bare⟩
theorem Inv.after {Q : VK} {u : Value} (I : Inv X pins σ H s) (h : CE X.stack X.prog X.w H s Q u s') : EP X pins σ Q u s' := by
  obtain ⟨v, H', os, bare, un, hok, r, q⟩ := h
  obtain ⟨hh, g, d, t, os'⟩ := s'
  obtain rfl : os' = s.os := os
  exact ⟨v, H', I.call (h' := hh) (g' := g) (d' := d) (t' := t) (ch := []) un hok bare (fun b z => absurd z (by simp)), r, q⟩
end
def tCall (sp : Sp) (dvs : List V) (E : XK) (t : TA) : TE := fun σ H Q => t σ H fun vs H1 => sp (vs ++ dvs) H1 Q E
def tMeth (C : Addr) (m : Str) (sp : Sp) (dvs : List V) (E : XK) (ta : TE) (t : TA) : TE := fun σ H Q => ta σ H fun x H1 => ∃ a dx fs, x = .ref a ∧ H1 a = some (.ins C dx fs) ∧ fs.lookup m = none ∧
  t σ H1 fun vs H2 => sp (x :: (vs ++ dvs)) H2 Q E
def tMake (C : Addr) (sp : Sp) (dvs : List V) (E : XK) (t : TA) : TE := fun σ H Q => t σ H fun vs H1 => ∀ x dx, H1 x = none → H1 dx = none → dx ≠ x →
  sp (.ref x :: (vs ++ dvs)) (upd (upd H1 dx (.own x)) x (.ins C dx [])) (fun v H2 => v = .non ∧ Q (.ref x) H2) E
def Binds (K : PySem.W.Frag) (fd : FuncData) (ps : List Str) (ds : List Value) : Prop :=
  ∀ (s : Shared) (us : List Value), K.In s.heap → (us ++ ds).length = ps.length → BindsTo s fd ⟨us, []⟩ (ps.zip (us ++ ds))
theorem Binds.all {K : PySem.W.Frag} {fd : FuncData} {ps : List Str} (h : ∀ us : List Value, us.length = ps.length → bindArgs fd ⟨us, []⟩ = pure (ps.zip us)) : Binds K fd ps [] := fun s us _ hl => by
  rw [List.append_nil] at hl ⊢
  exact .of_eq (h us hl)
def Passes (CX : CXT) (X : Cx) (E : XK) : Prop := ∀ (pins : List (Addr × Obj)) (σ : St) (H : Hp) (s : Shared) (e : Value) (s' : Shared), Inv X pins σ H s → CX X.stack H s E e s' → X.xe e s'
section
variable {X : Cx} {CX : CXT} {k : Nat} {f C : Addr} {fd : FuncData} {ps : List Str} {sp : Sp} {dvs : List V} {ds : List Value} {E : XK} {x m : Str} {p pos apos : Pos} {e o : Expr} {es : List Expr} {ta : TE} {t : TA}
theorem run_fn {pins : List (Addr × Obj)} {σ : St} {H : Hp} {s : Shared} {Q : VK} {us : List Value} {vs : List V} (F : FnOk X.prog X.w X.K X.mg X.base CX k f fd ps sp) (hr : Room k X.A) (hb : Binds X.K fd ps ds) (hd : Vals dvs ds) (hx : Passes CX X E)
    (I : Inv X pins σ H s) (r : Vals vs us) (h : sp (vs ++ dvs) H Q E) : wpAny (model X.prog X.w) X.A (call (.ref f) us) (EP X pins σ Q) X.xe s := by
  have r2 : Vals (vs ++ dvs) (us ++ ds) := r.append hd
  have hl : (us ++ ds).length = ps.length := by rw [← r2.length]; exact F.len _ _ _ _ h
  refine wpAny_call (codeAny_mono (F.run X.A X.stack s H ⟨us, []⟩ (us ++ ds) (vs ++ dvs) Q E hr I.env0 (hb s us I.kIn hl) r2 h) fun r s' hq => ?_)
  cases r with
  | error e => exact hx pins σ H s e s' I hq
  | ok fl =>
    cases fl with
    | ret u => exact I.after hq
    | next => exact False.elim hq
    | brk => exact False.elim hq
    | cont => exact False.elim hq
theorem pe_call (F : FnOk X.prog X.w X.K X.mg X.base CX k f fd ps sp) (hr : Room k X.A) (hg : Gl X x) (hm : X.mg x = some (.ref f)) (hk : PySem.W.keepIn X.K (.ref f) = true) (hb : Binds X.K fd ps ds) (hd : Vals dvs ds) (hx : Passes CX X E)
    (ha : PA X (e :: es) t) (hdb : (x == ("__debug__" : Str)) = false := by decide) (he : starEach (e :: es) X.env = (false, eval e X.env) :: starEach es X.env := by rfl) (hpl : (backTo pos (starEach es X.env)).any (·.1) = false := by rfl) :
    PE X (.Call (.Name x p) (e :: es) [] pos) (tCall sp dvs E t) := by
  intro pins s σ H Q I h
  refine wpAny_Call_Name_kw (ld_glob I hg hm ?_ hdb)
  refine PySem.W.callWith_K (h₀ := X.base) I.ok.mod.kin hk (thn (ha pos pins s σ H _ I h) fun us s1 ⟨vs, H1, I1, r, q⟩ => ⟨I1.kIn, ?_⟩) he hpl
  exact run_fn F hr hb hd hx I1 r q
theorem pe_meth {pl : Sem Bool} (he : PE X o ta) (c : Cls X.K C) (hm : Meth X.K C m f) (F : FnOk X.prog X.w X.K X.mg X.base CX k f fd ps sp) (hr : Room k X.A) (hb : Binds X.K fd ps ds) (hd : Vals dvs ds) (hx : Passes CX X E) (ha : PA X (e :: es) t)
    (hst : starEach (e :: es) X.env = (false, eval e X.env) :: starEach es X.env := by rfl) (hpl : (backTo pos (starEach es X.env)).any (·.1) = false := by rfl)
    (ht : eval (.Call (.Attribute o m apos) (e :: es) [] pos) X.env = (do
      let ov ← eval o X.env
      standAt apos.atName
      let (f, first) ← holding [ov] (getMethod ov m pl)
      callWith pos f first (backTo pos (starEach (e :: es) X.env)) (backToKw pos (keywordEach [] X.env))) := by rfl) :
    PE X (.Call (.Attribute o m apos) (e :: es) [] pos) (tMeth C m sp dvs E ta t) := by
  intro pins s σ H Q I h
  refine PySem.W.methodCall_KW (pl := pl) (thn (he pins s σ H _ I h) fun u s1 ⟨x, H1, I1, rx, a, dx, fs, ex, ea, l, q⟩ => ?_) ht
  subst ex
  obtain rfl : u = Value.ref a := rx
  refine getmeth_ok I1 ea c hm l ?_
  refine PySem.W.callWith_K (first := [.ref a]) (h₀ := X.base) I.ok.mod.kin hm.kp (thn (ha pos pins s1 σ H1 _ I1 q) fun us s2 ⟨vs, H2, I2, r, q2⟩ => ⟨I2.kIn, ?_⟩) hst hpl
  exact run_fn (us := .ref a :: us) (vs := .ref a :: vs) F hr hb hd hx I2 (.cons rfl r) q2
theorem pe_meth0 {pl : Sem Bool} (he : PE X o ta) (c : Cls X.K C) (hm : Meth X.K C m f) (F : FnOk X.prog X.w X.K X.mg X.base CX k f fd ps sp) (hr : Room k X.A) (hb : Binds X.K fd ps ds) (hd : Vals dvs ds) (hx : Passes CX X E)
    (ht : eval (.Call (.Attribute o m apos) [] [] pos) X.env = (do
      let ov ← eval o X.env
      standAt apos.atName
      let (f, first) ← holding [ov] (getMethod ov m pl)
      callWith pos f first (backTo pos (starEach [] X.env)) (backToKw pos (keywordEach [] X.env))) := by rfl) :
    PE X (.Call (.Attribute o m apos) [] [] pos) (tMeth C m sp dvs E ta tNil) := by
  intro pins s σ H Q I h
  refine PySem.W.methodCall_KW (pl := pl) (thn (he pins s σ H _ I h) fun u s1 ⟨x, H1, I1, rx, a, dx, fs, ex, ea, l, q⟩ => ?_) ht
  subst ex
  obtain rfl : u = Value.ref a := rx
  refine getmeth_ok I1 ea c hm l ?_
  exact PySem.W.callWith_K0 (first := [.ref a]) I1.kIn hm.kp (run_fn (us := [.ref a]) (vs := [.ref a]) F hr hb hd hx I1 (.cons rfl .nil) q)
structure Mk (K : PySem.W.Frag) (C f : Addr) : Prop where
  makes : PySem.W.makesIn K C = true
  init : PySem.W.findIn K (.ref C) "__init__" = some (some (.ref f))
  fn : PySem.W.isFn K (.ref f) = true
  kp : PySem.W.keepIn K (.ref C) = true
theorem run_make {pins : List (Addr × Obj)} {σ : St} {H : Hp} {s : Shared} {Q : VK} {us : List Value} {vs : List V} (M : Mk X.K C f) (F : FnOk X.prog X.w X.K X.mg X.base CX k f fd ps sp) (hr : Room (k + 1) X.A) (hb : Binds X.K fd ps ds) (hd : Vals dvs ds)
    (hx : Passes CX X E) (I : Inv X pins σ H s) (r : Vals vs us)
    (h : ∀ x dx, H x = none → H dx = none → dx ≠ x → sp (.ref x :: (vs ++ dvs)) (upd (upd H dx (.own x)) x (.ins C dx [])) (fun v H2 => v = .non ∧ Q (.ref x) H2) E) :
    wpAny (model X.prog X.w) X.A (call (.ref C) us) (EP X pins σ Q) X.xe s := by
  have hq := h (s.heap.objs.size + 1) s.heap.objs.size (I.hok.fresh (Nat.le_succ _)) (I.hok.fresh (Nat.le_refl _)) (Nat.ne_of_lt (Nat.lt_succ_self _))
  have I2 := Inv.made (C := C) I
  have r2 : Vals (V.ref (s.heap.objs.size + 1) :: (vs ++ dvs)) (Value.ref (s.heap.objs.size + 1) :: (us ++ ds)) := .cons rfl (r.append hd)
  have hl : (Value.ref (s.heap.objs.size + 1) :: us ++ ds).length = ps.length := by
    have e := r2.length
    rw [F.len _ _ _ _ hq] at e
    exact e.symm
  refine wpAny_call (make_map (f := f) I.kIn M.makes M.init (beq_iff_eq.mp M.fn) (codeAny_mono (F.run _ X.stack _ _ ⟨Value.ref (s.heap.objs.size + 1) :: us, []⟩ (Value.ref (s.heap.objs.size + 1) :: (us ++ ds)) _ _ E (hr.make C us [])
    (I2.env0.make C us []) (hb _ (Value.ref (s.heap.objs.size + 1) :: us) I2.kIn hl) r2 hq) fun r s' hq' => ?_))
  cases r with
  | error e => exact hx pins σ _ _ e s' I2 hq'
  | ok fl =>
    cases fl with
    | ret u =>
      obtain ⟨v, H', I3, rv, ev, q3⟩ := I2.after hq'
      subst ev
      exact ⟨rv, ⟨V.ref (s.heap.objs.size + 1), H', I3, rfl, q3⟩⟩
    | next => exact False.elim hq'
    | brk => exact False.elim hq'
    | cont => exact False.elim hq'
theorem pe_make (M : Mk X.K C f) (F : FnOk X.prog X.w X.K X.mg X.base CX k f fd ps sp) (hr : Room (k + 1) X.A) (hg : Gl X x) (hm : X.mg x = some (.ref C)) (hb : Binds X.K fd ps ds) (hd : Vals dvs ds) (hx : Passes CX X E)
    (ha : PA X (e :: es) t) (hdb : (x == ("__debug__" : Str)) = false := by decide) (he : starEach (e :: es) X.env = (false, eval e X.env) :: starEach es X.env := by rfl) (hpl : (backTo pos (starEach es X.env)).any (·.1) = false := by rfl) :
    PE X (.Call (.Name x p) (e :: es) [] pos) (tMake C sp dvs E t) := by
  intro pins s σ H Q I h
  refine wpAny_Call_Name_kw (ld_glob I hg hm ?_ hdb)
  refine PySem.W.callWith_K (h₀ := X.base) I.ok.mod.kin M.kp (thn (ha pos pins s σ H _ I h) fun us s1 ⟨vs, H1, I1, r, q⟩ => ⟨I1.kIn, ?_⟩) he hpl
  exact run_make M F hr hb hd hx I1 r q
theorem pe_make0 (M : Mk X.K C f) (F : FnOk X.prog X.w X.K X.mg X.base CX k f fd ps sp) (hr : Room (k + 1) X.A) (hg : Gl X x) (hm : X.mg x = some (.ref C)) (hb : Binds X.K fd ps ds) (hd : Vals dvs ds) (hx : Passes CX X E)
    (hdb : (x == ("__debug__" : Str)) = false := by decide) : PE X (.Call (.Name x p) [] [] pos) (tMake C sp dvs E tNil) := by
  intro pins s σ H Q I h
  refine wpAny_Call_Name_kw (ld_glob I hg hm ?_ hdb)
  exact PySem.W.callWith_K0 I.kIn M.kp (run_make (us := []) M F hr hb hd hx I .nil h)
end
section
variable {X : Cx} {CX : CXT} {k : Nat} {f C : Addr} {fd : FuncData} {ps ks : List Str} {sp : Sp} {E : XK} {x m : Str} {p pos apos kpos : Pos} {e o : Expr} {es : List Expr} {kws : List Keyword} {te ta : TE} {t tk : TA} {nm : Option Str}
variable {g : List Value → List Value → List Value} {gV : List V → List V → List V}
end
structure FnScope (N P : List Str) (sc : Scope) : Prop where
  kind : sc.kind = .function
  co : sc.isCoroutine = false
  gen : sc.isGenerator = false
  nd : N.Nodup
  pre : N.take P.length = P
  par : ∀ x ∈ P, sc.names.lookup x = some .local ∨ sc.names.lookup x = some .cell
  nofree : ∀ y ∈ sc.names, y.2 ≠ .free
theorem bindL_out {kindOf : Str → Option NameKind} {x : Str} : ∀ {binds : List (Str × Value)} {m : Str → Option Value}, (∀ v, (x, v) ∉ binds) → bindL kindOf binds m x = m x
  | [], _, _ => rfl
  | (n, v) :: r, m, h => by
    unfold bindL
    rw [bindL_out fun w hw => h w (List.mem_cons_of_mem _ hw)]
    split
    · have : x ≠ n := by rintro rfl; exact h v List.mem_cons_self
      simp [this]
    · rfl
theorem bindC_out {kindOf : Str → Option NameKind} {x : Str} : ∀ {binds : List (Str × Value)} {m : Str → Option Value}, (∀ v, (x, v) ∉ binds) → bindC kindOf binds m x = m x
  | [], _, _ => rfl
  | (n, v) :: r, m, h => by
    unfold bindC
    rw [bindC_out fun w hw => h w (List.mem_cons_of_mem _ hw)]
    split
    · rfl
    · have : x ≠ n := by rintro rfl; exact h v List.mem_cons_self
      simp [this]
theorem bindL_get {kindOf : Str → Option NameKind} {x : Str} {v : Value} : ∀ {P : List Str} {vs : List Value} {i : Nat} {m : Str → Option Value}, P.Nodup → P[i]? = some x → vs[i]? = some v → kindOf x = some .local →
    bindL kindOf (P.zip vs) m x = some v
  | [], _, _, _, _, h, _, _ => by simp at h
  | _ :: _, [], _, _, _, _, h, _ => by simp at h
  | p :: P, w :: vs, 0, m, nd, h1, h2, hk => by
    simp at h1 h2; subst h1; subst h2
    show bindL kindOf ((p, w) :: P.zip vs) m p = _
    unfold bindL
    rw [bindL_out fun v hv => (List.nodup_cons.mp nd).1 (List.of_mem_zip hv).1, if_pos hk]
    simp
  | p :: P, w :: vs, i + 1, m, nd, h1, h2, hk => by
    show bindL kindOf ((p, w) :: P.zip vs) m x = _
    unfold bindL
    exact bindL_get (i := i) (List.nodup_cons.mp nd).2 (by simpa using h1) (by simpa using h2) hk
theorem bindC_get {kindOf : Str → Option NameKind} {x : Str} {v : Value} : ∀ {P : List Str} {vs : List Value} {i : Nat} {m : Str → Option Value}, P.Nodup → P[i]? = some x → vs[i]? = some v → kindOf x ≠ some .local →
    bindC kindOf (P.zip vs) m x = some v
  | [], _, _, _, _, h, _, _ => by simp at h
  | _ :: _, [], _, _, _, _, h, _ => by simp at h
  | p :: P, w :: vs, 0, m, nd, h1, h2, hk => by
    simp at h1 h2; subst h1; subst h2
    show bindC kindOf ((p, w) :: P.zip vs) m p = _
    unfold bindC
    rw [bindC_out fun v hv => (List.nodup_cons.mp nd).1 (List.of_mem_zip hv).1, if_neg hk]
    simp
  | p :: P, w :: vs, i + 1, m, nd, h1, h2, hk => by
    show bindC kindOf ((p, w) :: P.zip vs) m x = _
    unfold bindC
    exact bindC_get (i := i) (List.nodup_cons.mp nd).2 (by simpa using h1) (by simpa using h2) hk
def start (N : List Str) (vs : List V) : St := vs.map some ++ List.replicate (N.length - vs.length) none
def cxOf (CX : CXT) (P : Program) (w : World) (K : PySem.W.Frag) (mg : Str → Option Value) (base : Heap) (N : List Str) (qual : Str) (scope : Scope) (f : Addr) (cd : Value) (A : Around) (outer : List Env) (s : Shared) (H : Hp) (E : XK) : Cx where
  prog := P
  w := w
  K := K
  mg := mg
  base := base
  A := A.deeper (envOfC qual scope s.heap.objs.size f cd)
  N := N
  s_0 := s
  H_0 := H
  env := envOfC qual scope s.heap.objs.size f cd
  outer := outer
  stack := envOfC qual scope s.heap.objs.size f cd :: outer
  ex := []
  calm := true
  fn := fun _ => true
  pn := []
  xe := fun e s' => wpAny (model P w) (A.deeper (envOfC qual scope s.heap.objs.size f cd)) (leaving (envOfC qual scope s.heap.objs.size f cd) e) (fun _ s'' => CX outer H s E e s'') (fun e' s'' => CX outer H s E e' s'') s'
theorem cell_has {sc : Scope} {n : Nat} {x : Str} (h : sc.names.lookup x = some .cell) : ∃ c, (cellsFrom n sc.names []).lookup x = some c := by
  have q := PySem.W.cellsFrom_some sc.names n [] (.inl h)
  exact Option.isSome_iff_exists.mp q
theorem inv_start {CX : CXT} {P : Program} {w : World} {K : PySem.W.Frag} {mg : Str → Option Value} {base : Heap} {N ps : List Str} {qual : Str} {scope : Scope} {f : Addr} {cd : Value} {A : Around} {outer : List Env} {s s1 : Shared} {H : Hp} {E : XK} {us : List Value} {vs : List V}
    (S : FnScope N ps scope) (hd : A.handled = none) (e0 : Env0 P w K mg base A outer s H) (hl : vs.length = ps.length) (r : Vals vs us)
    (x : InCallC s s.heap.objs.size (bindL (envOfC qual scope s.heap.objs.size f cd).kindOf (ps.zip us) fun _ => none) (cellsFrom (s.heap.objs.size + 1) scope.names []) (bindC (envOfC qual scope s.heap.objs.size f cd).kindOf (ps.zip us) fun _ => none) s1) :
    Inv (cxOf CX P w K mg base N qual scope f cd A outer s H E) [] (start N vs) H s1 := by
  have hpl : ps.length ≤ N.length := by have := congrArg List.length S.pre; rw [List.length_take] at this; omega
  obtain ⟨h1, tk, rfl, hk⟩ := x.done
  have noA : ∀ b : Addr, b ∉ (cxOf CX P w K mg base N qual scope f cd A outer s H E).ex := fun b z => absurd (show b ∈ ([] : List Addr) from z) (by simp)
  refine ⟨⟨e0.mod, S.kind, rfl, rfl, Nat.le_refl _, fun y z c h1 h2 => ?_, fun y hy => ?_, fun y c _ h => ?_, fun _ => hd, Around.frames_deeper e0.frames, .inr ⟨rfl, rfl⟩, fun b z => absurd z (noA b), e0.bs, e0.bsz, fun b _ _ => noA b, fun b z => absurd z (noA b), e0.funs, e0.frf⟩,
    rfl, e0.bare, Un.kept hk, ⟨_, x.toInCall.ns, fun i y v h1 h2 h3 => ?_⟩, fun y c h => ⟨_, x.cell y c h⟩, e0.hok.fresh (Nat.le_refl _), fun y c h => ?_, fun p hp => absurd (show p ∈ ([] : List (Addr × Obj)) from hp) (by simp), e0.hok.kept hk, ?_⟩
  · exact name_of_addr x.apart (PySem.mem_of_lookup h1) (PySem.mem_of_lookup h2)
  · have hy : scope.names.lookup y = some .cell ∨ scope.names.lookup y = some .free := hy
    rcases hy with hy | hy
    · exact cell_has hy
    · exact absurd rfl (S.nofree _ (PySem.mem_of_lookup hy))
  · exact Nat.le_of_lt (x.above y c (PySem.mem_of_lookup h))
  · have hi : i < vs.length := by
      unfold start at h2
      by_cases hi : i < vs.length
      · exact hi
      · rw [List.getElem?_append_right (by simpa using hi)] at h2
        rw [List.getElem?_replicate] at h2
        split at h2 <;> cases h2
    have ha : vs[i]? = some v := by
      unfold start at h2
      rw [List.getElem?_append_left (by simpa using hi), List.getElem?_map] at h2
      cases e : vs[i]? with
      | none => rw [e] at h2; cases h2
      | some a => rw [e] at h2; cases h2; rfl
    obtain ⟨u, hu, rv⟩ := r.get ha
    have hp : ps[i]? = some y := by
      rw [← S.pre, List.getElem?_take_of_lt (by omega)]; exact h1
    have ndP : ps.Nodup := by rw [← S.pre]; exact S.nd.sublist (List.take_sublist _ _)
    refine ⟨u, rv, ?_⟩
    rcases S.par y (List.mem_of_getElem? hp) with k | k
    · exact .inl ⟨k, bindL_get ndP hp hu k⟩
    · obtain ⟨c, e⟩ := cell_has (n := s.heap.objs.size + 1) k
      refine .inr ⟨.inl k, c, e, ?_⟩
      have q := x.cell y c e
      rw [bindC_get ndP hp hu (by show scope.names.lookup y ≠ _; rw [k]; decide)] at q
      exact q
  · exact e0.hok.fresh (Nat.le_of_lt (x.above y c (PySem.mem_of_lookup h)))
  · unfold start
    show _ = N.length
    rw [List.length_append, List.length_map, List.length_replicate]
    omega
theorem fn_of {CX : CXT} {P : Program} {w : World} {K : PySem.W.Frag} {mg : Str → Option Value} {base : Heap} {k : Nat} {f : Addr} {name qual : Str} {params : Arguments} {body : List Stmt} {scope : Scope} {dV kV doc pm cdv ct oc : Value} {an od : Option Addr}
    {osl : Array (Option Value)} {N ps : List Str} {sp : Sp} (lk : K.lookup f = some ⟨oc, od, .func (PySem.W.fnOf name qual params body scope dV kV doc pm an cdv ct), osl⟩) (hcd : PySem.W.codeIn K cdv qual = true) (S : FnScope N ps scope)
    (len : ∀ vs H Q E, sp vs H Q E → vs.length = ps.length)
    (hbody : ∀ (A : Around) (outer : List Env) (s : Shared) (H : Hp) (vs : List V) (Q : VK) (E : XK), Room k (A.deeper (envOfC qual scope s.heap.objs.size f cdv)) → sp vs H Q E →
      ∃ t, PSs (cxOf CX P w K mg base N qual scope f cdv A outer s H E) body t ∧ t { nx := fun _ H' => Q .non H', rt := Q } (start N vs) H) :
    FnOk P w K mg base CX (k + 1) f (PySem.W.fnOf name qual params body scope dV kV doc pm an cdv ct) ps sp := by
  refine ⟨len, fun A outer s H args us vs Q E hr e0 hb r hsp => ?_⟩
  have hl := len _ _ _ _ hsp
  have KX : K.In s.heap := e0.mod.kin.keeps fun b o e => (e0.bs b o e).1
  have lim : s.heap.NoLimit := e0.mod.nolimit.keeps fun b o e => (e0.bs b o e).1
  have hkind : ∀ y ∈ ps.zip us, scope.names.lookup y.1 = some .local ∨ (scope.names.lookup y.1 = some .cell ∧ ((cellsFrom (s.heap.objs.size + 1) scope.names []).lookup y.1).isSome = true) := fun ⟨n, v⟩ hy => by
    rcases S.par n (List.of_mem_zip hy).1 with q | q
    · exact .inl q
    · exact .inr ⟨q, PySem.W.cellsFrom_some _ _ _ (.inl q)⟩
  refine codeAny_call_function hr.depth (KX _ _ lk) rfl S.co S.gen rfl (PySem.W.codeRec_of KX hcd) (hb _ _ _ _ ?_)
  refine wpAny_newFunctionEnv_cells S.kind hkind fun env he s1 x => ?_
  subst he
  refine ⟨lim.keeps x.toInCall.keep, codeAny_func ?_⟩
  obtain ⟨t, ht, hq⟩ := hbody A outer s H vs Q E (hr.deeper _) hsp
  have I : Inv (cxOf CX P w K mg base N qual scope f cdv A outer s H E) [] (start N vs) H s1 := inv_start S hr.hd e0 hl r x
  refine wpAny_mono (ht [] s1 (start N vs) H _ I hq) (fun fl s' hs => ?_) fun e s' hs => hs
  have fin : ∀ {σ' : St} {H' : Hp} {v : V} {u : Value}, Inv (cxOf CX P w K mg base N qual scope f cdv A outer s H E) [] σ' H' s' → RelV v u → Q v H' → CE outer P w H s Q u s' :=
    fun {σ' H' v u} J rv q => ⟨v, H', J.os, J.bare, J.base, J.hok, rv, q⟩
  cases fl with
  | ret u =>
    obtain ⟨v, σ', H', J, rv, q⟩ := hs
    exact fin J rv q
  | next =>
    obtain ⟨σ', H', J, q⟩ := hs
    exact fin (v := V.non) (u := Value.none) J rfl q
  | brk =>
    obtain ⟨_, _, _, q⟩ := hs
    exact False.elim q
  | cont =>
    obtain ⟨_, _, _, q⟩ := hs
    exact False.elim q
end L2
namespace L2
open PySem PySem.Spec PyProof.Rows
section
variable {X : Cx} {x : Str} {p pos : Pos} {e : Expr} {es : List Expr} {t : TA} {id T : String} {r : List V → Hp → VK → Prop}
def tCB (r : List V → Hp → VK → Prop) (t : TA) : TE := fun σ H Q => t σ H fun vs H1 => r vs H1 Q
theorem pe_callB (hc : CallR X (.builtin id) r) (hg : Gl X x) (hm : X.mg x = none) (hv : bootBuiltins x = some (.builtin id)) (ha : PA X (e :: es) t) (hn : x ≠ "__name__" := by decide) (hdb : (x == ("__debug__" : Str)) = false := by decide)
    (he : starEach (e :: es) X.env = (false, eval e X.env) :: starEach es X.env := by rfl) (hpl : (backTo pos (starEach es X.env)).any (·.1) = false := by rfl) : PE X (.Call (.Name x p) (e :: es) [] pos) (tCB r t) := by
  intro pins s σ H Q I h
  refine wpAny_Call_Name_kw (ld_blt I hg hm hv ?_ hn hdb)
  exact PyProof.Rows.callWith_builtin1 (thn (ha pos pins s σ H _ I h) fun us s1 ⟨vs, H1, I1, r1, q1⟩ => hc pins s1 σ H1 vs us Q I1 r1 q1) he hpl
theorem pe_callTy (hc : CallR X (.type T) r) (hg : Gl X x) (hm : X.mg x = none) (hv : bootBuiltins x = some (.type T)) (ha : PA X (e :: es) t) (hn : x ≠ "__name__" := by decide) (hdb : (x == ("__debug__" : Str)) = false := by decide)
    (he : starEach (e :: es) X.env = (false, eval e X.env) :: starEach es X.env := by rfl) (hpl : (backTo pos (starEach es X.env)).any (·.1) = false := by rfl) : PE X (.Call (.Name x p) (e :: es) [] pos) (tCB r t) := by
  intro pins s σ H Q I h
  refine wpAny_Call_Name_kw (ld_blt I hg hm hv ?_ hn hdb)
  exact PyProof.Rows.callWith_type1 (thn (ha pos pins s σ H _ I h) fun us s1 ⟨vs, H1, I1, r1, q1⟩ => hc pins s1 σ H1 vs us Q I1 r1 q1) he hpl
end
end L2
namespace HT
open PySem PyProof.Rows
section
open PySem.SeqAt
open PySem.AutoSeq1 (wpAny_loadPart')
open PySem.MeetsSeq PySem.MeetsSeq2 PySem.MeetsSeq3
end
section
variable {prog : Program} {w : World} {A : Around} {E : Value → Shared → Prop} {s : Shared}
theorem cat_tup {t b : Addr} {vs ws : List Value} {Q : Value → Shared → Prop} (ht : IsTup s.heap t vs.toArray) (hb : IsTup s.heap b ws.toArray) (hv : vs ≠ [])
    (h1 : ws = [] → Q (.ref t) s) (h2 : ws ≠ [] → Q (.ref s.heap.objs.size) { s with heap := s.heap.push { cls := .type "tuple", data := .seq (vs ++ ws).toArray } })
    (hsz : vs.length + ws.length ≤ sizeLine) : wpAny (model prog w) A (binaryOp .Add (.ref t) (.ref b)) Q E s := by
  obtain ⟨⟨cls, dd, data, sl⟩, ho, hc, n, hd⟩ := id ht
  obtain ⟨⟨cls2, dd2, data2, sl2⟩, ho2, hc2, n2, hd2⟩ := id hb
  simp only at hc hd hc2 hd2
  subst hc hd hc2 hd2
  have e : vs.toArray ++ ws.toArray = (vs ++ ws).toArray := by simp
  by_cases hw : ws = []
  · exact concat_meets ⟨_, ho, rfl⟩ ⟨_, ho2, rfl⟩ noFill_tuple_add seq_tuple_add PySem.F.slot_tuple_add PySem.F.entry_tuple_add (PySem.F.args_tuple_add_2 _ _)
      (tuple_addW1 t b vs.toArray ws.toArray n n2 dd dd2 sl sl2 (by simpa using hv) (by simp [hw])) ⟨ho, ho2, h1 hw⟩
  · refine concat_meets ⟨_, ho, rfl⟩ ⟨_, ho2, rfl⟩ noFill_tuple_add seq_tuple_add PySem.F.slot_tuple_add PySem.F.entry_tuple_add (PySem.F.args_tuple_add_2 _ _)
      (tuple_addW2 t b vs.toArray ws.toArray n n2 dd dd2 sl sl2 (by simpa using hv) (by simpa using hw) (by rw [List.size_toArray, List.size_toArray]; exact hsz)) ⟨ho, ho2, ?_⟩
    rw [e]
    exact h2 hw
def sIx (n d : Nat) : Option Int → Nat
  | none => d
  | some v => if v < 0 then (v + (n : Int)).toNat else min v.toNat n
theorem sIx_none (n d : Nat) : sIx n d none = d := rfl
theorem sIx_nat (n d k : Nat) : sIx n d (some (k : Int)) = min k n := by
  show (if (k : Int) < 0 then ((k : Int) + (n : Int)).toNat else min (k : Int).toNat n) = min k n
  rw [if_neg (by omega), Int.toNat_natCast]
end
end HT
namespace L2
open PySem PySem.Spec PyProof.Rows
abbrev TO := St → Hp → (Option Int → Hp → Prop) → Prop
def PO (X : Cx) (e : Option Expr) (t : TO) : Prop :=
  ∀ (pins : List (Addr × Obj)) (s : Shared) (σ : St) (H : Hp) (Q : Option Int → Hp → Prop), Inv X pins σ H s → t σ H Q →
    wpAny (model X.prog X.w) X.A (evalPart e X.env) (fun u s' => ∃ o H', Inv X pins σ H' s' ∧ IsPart u o ∧ Q o H') X.xe s
def tNoPart : TO := fun _ H Q => Q none H
def tPart (t : TE) : TO := fun σ H Q => t σ H fun x H1 => ∃ i, x = .int i ∧ Q (some i) H1
section
variable {X : Cx} {e : Expr} {te : TE} {lo hi : Option Expr} {tl th : TO} {pos p2 : Pos}
theorem po_none : PO X none tNoPart := by
  intro pins s σ H Q I h
  rw [evalPart_none]
  exact wpAny_pure ⟨none, H, I, .none, h⟩
theorem po_some (h : PE X e te) : PO X (some e) (tPart te) := by
  intro pins s σ H Q I hw
  rw [evalPart_some]
  refine thn (h pins s σ H _ I hw) fun u s1 ⟨x, H1, I1, r1, q1⟩ => ?_
  obtain ⟨i, rfl, q⟩ := q1
  obtain ⟨t, rfl⟩ := r1
  exact ⟨some i, H1, I1, .int i t, q⟩
def SlR (X : Cx) (r : V → Option Int → Option Int → Hp → VK → Prop) : Prop :=
  ∀ (pins : List (Addr × Obj)) (s : Shared) (σ : St) (H : Hp) (x : V) (v vl vu : Value) (lo hi : Option Int) (sl : Addr) (Q : VK), Inv X pins σ H s → RelV x v → s.heap.IsSliceOf sl vl vu .none → IsPart vl lo → IsPart vu hi → r x lo hi H Q →
    ∃ T id, typeLookup (.type T) "__getitem__" = pure (some (.builtin id)) ∧ s.TypeIs v T ∧ wpAny (model X.prog X.w) X.A (getItem v (.ref sl)) (EP X pins σ Q) X.xe s
def tSl (r : V → Option Int → Option Int → Hp → VK → Prop) (te : TE) (tl th : TO) : TE := fun σ H Q => te σ H fun x H1 => tl σ H1 fun l H2 => th σ H2 fun u H3 => r x l u H3 Q
theorem pe_slice {r : V → Option Int → Option Int → Hp → VK → Prop} (hr : SlR X r) (he : PE X e te) (hl : PO X lo tl) (hu : PO X hi th) : PE X (.Subscript e (.Slice lo hi none p2) pos) (tSl r te tl th) := by
  intro pins s σ H Q I h
  refine Subscript_ (thn (he pins s σ H _ I h) fun v s1 ⟨x, H1, I1, r1, q1⟩ => ?_)
  refine wpAny_Slice (thn (hl pins s1 σ H1 _ I1 q1) fun vl s2 ⟨l, H2, I2, pl, q2⟩ => thn (hu pins s2 σ H2 _ I2 q2) fun vu s3 ⟨u, H3, I3, pu, q3⟩ => ?_)
  rw [evalPart_none]
  refine wpAny_pure ?_
  have I4 : Inv X pins σ H3 { s3 with heap := s3.heap.push { cls := .type "slice", data := .fields #[vl, vu, .none] } } := I3.kept (t' := s3.toks) fun b ob q => Heap.get?_push_of_some _ q
  obtain ⟨T, id, hT, ht, hg⟩ := hr pins { s3 with heap := s3.heap.push { cls := .type "slice", data := .fields #[vl, vu, .none] } } σ H3 x v vl vu l u s3.heap.objs.size Q I4 r1 (Heap.IsSliceOf.new ..) pl pu q3
  show wpAny (model X.prog X.w) X.A (subscriptTail e (.Slice lo hi none p2) v (.ref s3.heap.objs.size)) (EP X pins σ Q) X.xe { s3 with heap := s3.heap.push { cls := .type "slice", data := .fields #[vl, vu, .none] } }
  exact tail_any (ops := [.ref s3.heap.objs.size, v]) ht hT hg (by with_unfolding_all rfl)
def cutV (xs : List V) (lo hi : Option Int) : List V := (xs.drop (HT.sIx xs.length 0 lo)).take (HT.sIx xs.length xs.length hi - HT.sIx xs.length 0 lo)
theorem cutV_length (xs : List V) (lo hi : Option Int) : (cutV xs lo hi).length ≤ xs.length := by
  unfold cutV
  rw [List.length_take, List.length_drop]
  omega
def rCatT (K : PySem.W.Frag) : R2 := fun x y H Q => ∃ a b xs ys, x = .ref a ∧ y = .ref b ∧ SqT K H a xs ∧ SqT K H b ys ∧ xs ≠ [] ∧ xs.length + ys.length ≤ sizeLine ∧
  (ys = [] → Q (.ref a) H) ∧ (ys ≠ [] → ∀ p, H p = none → Q (.ref p) (upd H p (.tup (xs ++ ys))))
theorem Vals.nil_iff {xs : List V} {us : List Value} (r : Vals xs us) : us = [] ↔ xs = [] := by
  cases r with
  | nil => simp
  | cons _ _ => simp
theorem op_catT : OpR X (binaryOp .Add) (rCatT X.K) := by
  intro pins s σ H x y v u Q I rx ry h
  obtain ⟨a, b, xs, ys, rfl, rfl, ha, hb, hx, hz, q1, q2⟩ := h
  cases rx
  cases ry
  obtain ⟨its, r1, p1, _⟩ := I.tuple ha
  obtain ⟨its2, r2, p2, _⟩ := I.tuple hb
  refine HT.cat_tup p1 p2 (fun z => hx (r1.nil_iff.mp z)) (fun z => ⟨.ref a, H, I, rfl, q1 (r2.nil_iff.mp z)⟩) (fun z => ?_) (by rw [← r1.length, ← r2.length]; exact hz)
  refine ⟨.ref s.heap.objs.size, _, I.laid (t' := s.toks) (o := .tup (xs ++ ys)) (fun b ob q => Heap.get?_push_of_some _ q) (Nat.le_refl _) ?_, rfl, q2 (fun w => z (r2.nil_iff.mpr w)) _ (I.hok.fresh (Nat.le_refl _))⟩
  exact ⟨by rw [List.length_append]; exact hz, _, r1.append r2, IsTup.new _ _⟩
end
end L2
namespace L2
open PySem PySem.Spec PyProof.Rows
def ixN (n : Nat) (i : Int) : Option Nat := if 0 ≤ i then (if i < n then some i.toNat else none) else if -(n : Int) ≤ i then some (i + n).toNat else none
def atI {α : Type} (xs : List α) (i : Int) : Option α := (ixN xs.length i).bind fun j => xs[j]?
theorem ixN_seq {n : Nat} {i : Int} {j : Nat} (h : ixN n i = some j) : seqIndex? i n = some j ∧ j < n ∧ -(n : Int) ≤ i ∧ i < n := by
  unfold ixN at h
  by_cases h0 : 0 ≤ i
  · rw [if_pos h0] at h
    by_cases h1 : i < n
    · rw [if_pos h1] at h
      have e : i.toNat = j := Option.some.inj h
      exact ⟨by rw [seqIndex_of h0 h1, e], by omega, by omega, h1⟩
    · rw [if_neg h1] at h; cases h
  · rw [if_neg h0] at h
    by_cases h1 : -(n : Int) ≤ i
    · rw [if_pos h1] at h
      have e : (i + n).toNat = j := Option.some.inj h
      exact ⟨by rw [seqIndex_neg (by omega) h1, e], by omega, h1, by omega⟩
    · rw [if_neg h1] at h; cases h
theorem atI_get {α : Type} {xs : List α} {i : Int} {v : α} (h : atI xs i = some v) : ∃ j, seqIndex? i xs.length = some j ∧ xs[j]? = some v ∧ j < xs.length ∧ -(xs.length : Int) ≤ i ∧ i < xs.length := by
  unfold atI at h
  cases e : ixN xs.length i with
  | none => rw [e] at h; cases h
  | some j =>
    rw [e] at h
    obtain ⟨h1, h2, h3, h4⟩ := ixN_seq e
    exact ⟨j, h1, h, h2, h3, h4⟩
theorem atI_nat {α : Type} {xs : List α} {j : Nat} {v : α} (h : xs[j]? = some v) : atI xs (j : Int) = some v := by
  have hj : j < xs.length := (List.getElem?_eq_some_iff.mp h).1
  have e : ixN xs.length (j : Int) = some j := by
    unfold ixN
    rw [if_pos (by omega), if_pos (by omega)]; simp
  unfold atI; rw [e]; exact h
def PlainIx (b : Expr) : Prop := ∀ o i, subscripted b false o i = operate [o, i] (getItem o i)
def IxR (X : Cx) (r : R2) : Prop :=
  ∀ (value slice : Expr) (pins : List (Addr × Obj)) (s : Shared) (σ : St) (H : Hp) (x y : V) (v u : Value) (Q : VK), Inv X pins σ H s → RelV x v → RelV y u → r x y H Q →
    subscripted slice false v u = operate [v, u] (getItem v u) → wpAny (model X.prog X.w) X.A (subscriptTail value slice v u) (EP X pins σ Q) X.xe s
def MtR (X : Cx) (id : String) (r : V → List V → Hp → VK → Prop) : Prop :=
  ∀ (pins : List (Addr × Obj)) (s : Shared) (σ : St) (H : Hp) (x : V) (xs : List V) (v : Value) (us : List Value) (Q : VK), Inv X pins σ H s → RelV x v → Vals xs us → r x xs H Q →
    wpAny (model X.prog X.w) X.A (call (.builtin id) (v :: us)) (EP X pins σ Q) X.xe s
section
variable {X : Cx} {a b : Expr} {ta tb : TE} {pos : Pos}
theorem pe_ix {r : R2} (hr : IxR X r) (ha : PE X a ta) (hb : PE X b tb) (hs : PlainIx b) : PE X (.Subscript a b pos) (tOp r ta tb) := by
  intro pins s σ H Q I h
  exact Subscript_ (binT ha hb I h fun v u s2 x y H2 I2 rx ry q => hr a b pins s2 σ H2 x y v u Q I2 rx ry q (hs _ _))
def rIxL (K : PySem.W.Frag) : R2 := fun x y H Q => ∃ p xs i v, x = .ref p ∧ y = .int i ∧ SqL K H p xs ∧ atI xs i = some v ∧ Q v H
def rIxT (K : PySem.W.Frag) : R2 := fun x y H Q => ∃ p xs i v, x = .ref p ∧ y = .int i ∧ SqT K H p xs ∧ atI xs i = some v ∧ Q v H
theorem ix_list : IxR X (rIxL X.K) := by
  intro value slice pins s σ H x y v u Q I rx ry h hs
  obtain ⟨p, xs, i, z, rfl, rfl, hq, he, q⟩ := h
  cases rx
  obtain ⟨t, rfl⟩ := ry
  obtain ⟨its, r, pl, hz⟩ := I.list hq
  obtain ⟨j, h1, h2, h3, h4, h5⟩ := atI_get he
  obtain ⟨w, ew, rw'⟩ := r.get h2
  have hl := r.length
  have hn := line63
  have fin : EP X pins σ Q w s := ⟨z, H, I, rw', q⟩
  by_cases h0 : 0 ≤ i
  · have hj : i.toNat = j := by
      rw [seqIndex_of h0 h5] at h1
      exact Option.some.inj h1
    exact item_listR pl.isList h0 (by omega) (by rw [hj]; simpa using ew) fin hs
  · have hj : (i + (its.toArray.size : Int)).toNat = j := by
      rw [seqIndex_neg (by omega) h4] at h1
      rw [List.size_toArray, ← hl]
      exact Option.some.inj h1
    exact subscriptTail_builtinR (x := w) pl.isList.typeIs slot_list_getitem.lookup
      (wpAny_getItem_list_neg (Q := fun r s' => r = w ∧ EP X pins σ Q r s') pl.isList (by omega) (by rw [List.size_toArray] <;> omega) (by omega) (by rw [hj]; simpa using ew) ⟨rfl, fin⟩) hs
theorem ix_tup : IxR X (rIxT X.K) := by
  intro value slice pins s σ H x y v u Q I rx ry h hs
  obtain ⟨p, xs, i, z, rfl, rfl, hq, he, q⟩ := h
  cases rx
  obtain ⟨t, rfl⟩ := ry
  obtain ⟨its, r, pl, hz⟩ := I.tuple hq
  obtain ⟨j, h1, h2, h3, h4, h5⟩ := atI_get he
  obtain ⟨w, ew, rw'⟩ := r.get h2
  have hl := r.length
  have hn := line63
  have fin : EP X pins σ Q w s := ⟨z, H, I, rw', q⟩
  exact subscriptTail_builtinR (x := w) pl.typeIs slot_tuple_getitem.lookup
    (getItem_tuple (j := j) (Q := fun r s' => r = w ∧ EP X pins σ Q r s') pl (by omega) (by omega) (by rw [List.size_toArray, ← hl]; exact h1) (by simpa using ew) ⟨rfl, fin⟩) hs
theorem slice_bounds (lo hi : Option Int) (n : Nat) : (sliceBounds lo hi none n).1 = ((HT.sIx n 0 lo : Nat) : Int) ∧ (sliceBounds lo hi none n).2.1 = ((HT.sIx n n hi : Nat) : Int) ∧ (sliceBounds lo hi none n).2.2 = 1 := by
  refine ⟨?_, ?_, rfl⟩
  · cases lo with
    | none => simp [sliceBounds, HT.sIx]
    | some i =>
      simp only [sliceBounds, HT.sIx, Option.getD_none, show (1 : Int) > 0 by decide, if_true]
      by_cases h : i < 0
      · simp only [h, if_true] <;> omega
      · simp only [h, if_false] <;> omega
  · cases hi with
    | none => simp [sliceBounds, HT.sIx]
    | some i =>
      simp only [sliceBounds, HT.sIx, Option.getD_none, show (1 : Int) > 0 by decide, if_true]
      by_cases h : i < 0
      · simp only [h, if_true] <;> omega
      · simp only [h, if_false] <;> omega
theorem slicePick_cut (its : List Value) (lo hi : Option Int) : slicePick its.toArray lo hi none = ((its.drop (HT.sIx its.length 0 lo)).take (HT.sIx its.length its.length hi - HT.sIx its.length 0 lo)).toArray := by
  obtain ⟨h1, h2, h3⟩ := slice_bounds lo hi its.toArray.size
  unfold slicePick
  rw [h1, h2, h3]
  simp only [sliceRange_one, pick_run, List.size_toArray] <;> rfl
def rSlL (K : PySem.W.Frag) : V → Option Int → Option Int → Hp → VK → Prop := fun x lo hi H Q => ∃ a xs, x = .ref a ∧ SqL K H a xs ∧ ∀ p, H p = none → Q (.ref p) (upd H p (.lst (cutV xs lo hi)))
theorem sl_list : SlR X (rSlL X.K) := by
  intro pins s σ H x v vl vu lo hi sl Q I rx hs pl pu h
  obtain ⟨a, xs, rfl, hx, q⟩ := h
  cases rx
  obtain ⟨its, r, ht, hz⟩ := I.list hx
  have hlen := r.length
  refine ⟨"list", _, slot_list_getitem.lookup, ht.isList.typeIs, ?_⟩
  refine wpAny_getItem_list_slice ht.isList hs pl pu .none (by simp) ?_ (by rw [List.size_toArray] <;> omega)
  rw [slicePick_cut, ← hlen]
  refine ⟨.ref s.heap.objs.size, _, I.laid (t' := s.toks) (o := .lst (cutV xs lo hi)) (fun b ob q => Heap.get?_push_of_some _ q) (Nat.le_refl _) ?_, rfl, q _ (I.hok.fresh (Nat.le_refl _))⟩
  exact ⟨Nat.le_trans (cutV_length xs lo hi) hz, _, 0, (r.drop (HT.sIx xs.length 0 lo)).take (HT.sIx xs.length xs.length hi - HT.sIx xs.length 0 lo), Heap.get?_push_size _ rfl⟩
theorem call_len_seq : CallR X (.builtin "len") (fun xs H Q => ∃ p ys, xs = [.ref p] ∧ (SqL X.K H p ys ∨ SqT X.K H p ys) ∧ Q (.int ys.length) H) := by
  intro pins s σ H xs us Q I r h
  obtain ⟨p, ys, rfl, hq, q⟩ := h
  obtain ⟨u, rfl, rx⟩ := vals1 r
  cases rx
  have hn := line63
  rcases hq with hq | hq
  · obtain ⟨its, r', pl, hz⟩ := I.list hq
    have hlen := r'.length
    exact Calls.call_len_list pl.isList (by simp only [List.size_toArray] <;> omega) ⟨.int ys.length, H, I.tok _, ⟨s.toks + 1, by rw [List.size_toArray, hlen]⟩, q⟩
  · obtain ⟨its, r', pl, hz⟩ := I.tuple hq
    have hlen := r'.length
    exact len_tuple pl (by simp only [List.size_toArray] <;> omega) ⟨.int ys.length, H, I.tok _, ⟨s.toks + 1, by rw [List.size_toArray, hlen]⟩, q⟩
theorem call_list_of : CallR X (.type "list") (fun xs H Q => ∃ p ys, xs = [.ref p] ∧ (SqL X.K H p ys ∨ SqT X.K H p ys) ∧ ∀ l, H l = none → Q (.ref l) (upd H l (.lst ys))) := by
  intro pins s σ H xs us Q I r h
  obtain ⟨p, ys, rfl, hq, q⟩ := h
  obtain ⟨u, rfl, rx⟩ := vals1 r
  cases rx
  have fin : ∀ (its : List Value), Vals ys its → ys.length ≤ sizeLine → ∀ (h' : Heap) (c' : Nat), (∀ b o', s.heap.get? b = some o' → h'.get? b = some o') →
      h'.get? s.heap.objs.size = some { cls := .type "list", dict := none, data := .seq its.toArray c', slots := #[] } → EP X pins σ Q (.ref s.heap.objs.size) { s with heap := h' } := fun its r' hz h' c' kp e =>
    ⟨.ref s.heap.objs.size, _, I.laid (t' := s.toks) kp (Nat.le_refl _) (show ObjOk X.prog X.w _ h' _ (.lst ys) from ⟨hz, its, c', r', e⟩), rfl, q _ (I.hok.fresh (Nat.le_refl _))⟩
  rcases hq with hq | hq
  · obtain ⟨its, r', pl, hz⟩ := I.list hq
    have hlen := r'.length
    obtain ⟨o, ho, hc, n, hd⟩ := pl.isList
    exact call_list_seq p (.inl rfl) ho hc hd (fun h' c' kp e => fin its r' hz h' c' kp e) (by simp only [List.size_toArray] <;> omega)
  · obtain ⟨its, r', pl, hz⟩ := I.tuple hq
    have hlen := r'.length
    obtain ⟨o, ho, hc, n, hd⟩ := pl
    exact call_list_seq p (.inr rfl) ho hc hd (fun h' c' kp e => fin its r' hz h' c' kp e) (by simp only [List.size_toArray] <;> omega)
def tyV (K : PySem.W.Frag) (T : String) (x : V) (H : Hp) : Prop := match x with
  | .str _ => T = "str"
  | .int _ => T = "int"
  | .ref p => (T = "list" ∧ ∃ xs, SqL K H p xs) ∨ (T = "tuple" ∧ ∃ o, K.lookup p = some o ∧ o.cls = .type "tuple" ∧ o.dict = none) ∨
      (T = "dict" ∧ ((∃ kvs, H p = some (.dK kvs)) ∨ ∃ kvs, H p = some (.dT kvs))) ∨ (T = "set" ∧ ∃ S n, H p = some (.set S n))
  | _ => False
theorem tyV_is {pins : List (Addr × Obj)} {σ : St} {H : Hp} {s : Shared} {T : String} {x : V} {v : Value} (I : Inv X pins σ H s) (r : RelV x v) (ty : tyV X.K T x H) :
    s.TypeIs v T ∧ ∀ a, v = .ref a → ∃ ob, s.heap.get? a = some ob ∧ ob.dict = none := by
  cases x with
  | str z =>
    obtain ⟨t, rfl⟩ := r
    cases (show T = "str" from ty)
    exact ⟨typeIs_str s z t, fun _ e => nomatch e⟩
  | int i =>
    obtain ⟨t, rfl⟩ := r
    cases (show T = "int" from ty)
    exact ⟨typeIs_int s i t, fun _ e => nomatch e⟩
  | ref p =>
    cases r
    rcases ty with ⟨rfl, xs, hq⟩ | ⟨rfl, o, hk, hc, hd⟩ | ⟨rfl, hk⟩ | ⟨rfl, S, n, hk⟩
    · obtain ⟨its, _, pl, _⟩ := I.list hq
      refine ⟨pl.isList.typeIs, fun a e => ?_⟩
      cases e
      obtain ⟨o, n, e, c, hd, _⟩ := pl
      exact ⟨o, e, hd⟩
    · refine ⟨⟨o, I.kIn p o hk, hc⟩, fun a e => ?_⟩
      cases e
      exact ⟨o, I.kIn _ o hk, hd⟩
    · have z : ∃ o, s.heap.get? p = some o ∧ o.ExactDict := by
        rcases hk with ⟨kvs, hk⟩ | ⟨kvs, hk⟩
        · obtain ⟨_, _, _, _, o, _, _, e, ex, _⟩ := I.hok p _ hk
          exact ⟨o, e, ex⟩
        · obtain ⟨_, _, _, _, o, _, _, e, ex, _⟩ := I.hok p _ hk
          exact ⟨o, e, ex⟩
      obtain ⟨o, e, ex⟩ := z
      refine ⟨⟨o, e, ex.1⟩, fun a e2 => ?_⟩
      cases e2
      exact ⟨o, e, ex.2.1⟩
    · obtain ⟨o, _, _, _, e, ex, _⟩ := I.hok p _ hk
      refine ⟨⟨o, e, ex.1⟩, fun a e2 => ?_⟩
      cases e2
      exact ⟨o, e, ex.2.1⟩
  | _ => exact False.elim ty
def tBM (K : PySem.W.Frag) (T : String) (r : V → List V → Hp → VK → Prop) (to : TE) (t : TA) : TE := fun σ H Q => to σ H fun x H1 => tyV K T x H1 ∧ t σ H1 fun xs H2 => r x xs H2 Q
variable {o e : Expr} {es : List Expr} {to : TE} {t : TA} {name : Str} {apos cpos : Pos} {T id : String} {r : V → List V → Hp → VK → Prop}
theorem pe_bm (pa : PlainAttrs T) (slot : Slot T name id) (hty : typeOf (.builtin id) = pure (.type "method_descriptor")) (hm : MtR X id r) (ho : PE X o to) (ha : PA X (e :: es) t)
    (hbase : attributeBase o name X.env (eval o X.env) = eval o X.env := by rfl)
    (hfew : ((backTo cpos (starEach (e :: es) X.env)).all (fun x => !x.1) && (backToKw cpos (keywordEach [] X.env)).all (fun x => x.1.isSome)
      && decide ((e :: es).length + ([] : List Keyword).length + (if ([] : List Keyword).isEmpty then 0 else 1) < 30)) = true := by rfl)
    (hline : (apos.endLine == cpos.line) = true := by rfl) (hs : starEach (e :: es) X.env = (false, eval e X.env) :: starEach es X.env := by rfl) (hplain : (backTo cpos (starEach es X.env)).any (·.1) = false := by rfl) :
    PE X (.Call (.Attribute o name apos) (e :: es) [] cpos) (tBM X.K T r to t) := by
  intro pins s σ H Q I h
  refine wpAny_Call_method_late hbase hfew hline rfl (thn (ho pins s σ H _ I h) fun v s1 ⟨x, H1, I1, r1, ty, q1⟩ => ?_)
  obtain ⟨h1, h2⟩ := tyV_is I1 r1 ty
  refine ⟨T, id, pa, slot, hty, h1, h2, ?_⟩
  have hA := ha cpos pins s1 σ H1 _ I1 q1
  rw [hs] at hA ⊢
  refine Calls.callWith_builtin (by show (false || (backTo cpos (starEach es X.env)).any (·.1)) = false; rw [hplain] <;> rfl) (Calls.evalArgs_plain ?_)
  exact thn hA fun us s2 ⟨vs, H2, I2, r2, q2⟩ => hm pins s2 σ H2 x vs v us Q I2 r1 r2 q2
end
end L2
namespace L2
open PySem PySem.Spec PyProof.Rows
def MtM (X : Cx) (id : String) (r : V → List V → Hp → VK → Prop) : Prop :=
  ∀ (pins : List (Addr × Obj)) (s : Shared) (σ : St) (H : Hp) (x : V) (xs : List V) (v : Value) (us : List Value) (Q : VK), Inv X pins σ H s → RelV x v → Vals xs us → r x xs H Q →
    wpAny (model X.prog X.w) X.A (call (.builtin id) (v :: us)) (EP X pins σ Q) X.xe s
theorem Vals.one : ∀ {x : V} {us : List Value}, Vals [x] us → ∃ u, us = [u] ∧ RelV x u
  | _, _, .cons r .nil => ⟨_, rfl, r⟩
section
variable {X : Cx} {pins : List (Addr × Obj)} {σ : St} {H : Hp} {s : Shared} {l b : Addr} {xs ys zs : List V}
theorem Inv.lset {its its' : List Value} {n : Nat} {f : Array Value → Array Value} {t' : Nat} (I : Inv X pins σ H s) (hH : H l = some (.lst xs))
    (e : s.heap.get? l = some { cls := .type "list", data := .seq its.toArray n }) (hf : f its.toArray = its'.toArray) (hv : Vals ys its') (hz : ys.length ≤ sizeLine) :
    Inv X pins σ (upd H l (.lst ys)) { s with heap := s.heap.update l (Obj.mapSeq f), toks := t' } := by
  have q := PySem.IsL.update e f
  rw [hf] at q
  refine I.write (x := l) (e := l) (by rw [hH]; exact trivial) (.inl rfl) (fun b' u hb hu => (Heap.get?_update_other s.heap (Obj.mapSeq f) (Ne.symm hb)).trans hu) ⟨_, q⟩ ?_
  exact ⟨hz, its', _, hv, q⟩
theorem Inv.lnew {its : List Value} {t' : Nat} (I : Inv X pins σ H s) (hv : Vals ys its) (hz : ys.length ≤ sizeLine) :
    Inv X pins σ (upd H s.heap.objs.size (.lst ys)) { s with heap := s.heap.push { cls := .type "list", data := .seq its.toArray }, toks := t' } :=
  I.laid (fun _ _ q => Heap.get?_push_of_some _ q) (Nat.le_refl _) ⟨hz, its, 0, hv, Heap.get?_push_size _ rfl⟩
theorem Inv.fresh (I : Inv X pins σ H s) : H s.heap.objs.size = none := I.hok.fresh (Nat.le_refl _)
theorem Inv.lstM (I : Inv X pins σ H s) (hH : H l = some (.lst xs)) : xs.length ≤ sizeLine ∧ ∃ (its : List Value) (n : Nat), Vals xs its ∧ xs.length = its.length ∧ s.heap.get? l = some { cls := .type "list", data := .seq its.toArray n } := by
  obtain ⟨z, its, n, r, e⟩ := I.hok l _ hH
  exact ⟨z, its, n, r, r.length, e⟩
theorem notLongL {n : Nat} (h : n ≤ sizeLine) : Builtin.List.listTooLong n = false := by
  unfold Builtin.List.listTooLong
  exact decide_eq_false (by omega)
end
section
variable {X : Cx}
def rAppend : V → List V → Hp → VK → Prop := fun x vs H Q => ∃ l xs y, x = .ref l ∧ vs = [y] ∧ H l = some (.lst xs) ∧ xs.length < sizeLine ∧ Q .non (upd H l (.lst (xs ++ [y])))
theorem mt_append : MtM X "list.append" rAppend := by
  intro pins s σ H x vs v us Q I rx rv h
  obtain ⟨l, xs, y, rfl, rfl, hH, hz, q⟩ := h
  cases rx
  obtain ⟨u, rfl, ru⟩ := rv.one
  obtain ⟨z, its, n, r, hl, e⟩ := I.lstM hH
  refine call_meets F.slot_list_append ⟨_, e, rfl⟩ F.entry_list_append (F.args_list_append_2 _ _) (PySem.list_append l its.toArray n u (by rw [List.size_toArray]; omega)) ⟨e, ?_⟩
  refine ⟨.non, _, I.lset (its' := its ++ [u]) hH e (by simp) (r.append (.cons ru .nil)) ?_, rfl, q⟩
  rw [List.length_append, List.length_singleton]
  omega
def rExtend : V → List V → Hp → VK → Prop := fun x vs H Q => ∃ l b xs zs, x = .ref l ∧ vs = [.ref b] ∧ H l = some (.lst xs) ∧ H b = some (.lst zs) ∧ xs.length + zs.length ≤ sizeLine ∧ Q .non (upd H l (.lst (xs ++ zs)))
theorem mt_extend : MtM X "list.extend" rExtend := by
  intro pins s σ H x vs v us Q I rx rv h
  obtain ⟨l, b, xs, zs, rfl, rfl, hH, hB, hz, q⟩ := h
  cases rx
  obtain ⟨u, rfl, ru⟩ := rv.one
  cases ru
  obtain ⟨z, its, n, r, hl, e⟩ := I.lstM hH
  obtain ⟨z2, its2, n2, r2, hl2, e2⟩ := I.lstM hB
  have hsz : its.toArray.size + its2.toArray.size ≤ sizeLine := by rw [List.size_toArray, List.size_toArray]; omega
  have hlong : ¬ (!its.toArray.isEmpty && Builtin.List.listTooLong (its.toArray.size + its2.toArray.size)) = true := by
    rw [notLongL hsz, Bool.and_false]
    exact Bool.false_ne_true
  refine call_meets F.slot_list_extend ⟨_, e, rfl⟩ F.entry_list_extend (F.args_list_extend_2 _ _)
    (AutoSeq1.list_extend_list_list_0 l its.toArray n b its2.toArray n2 hlong (by rw [List.size_toArray]; omega) (by omega)) ⟨e, e2, ?_⟩
  refine ⟨.non, _, I.lset (its' := its ++ its2) hH e (by simp) (r.append r2) ?_, rfl, q⟩
  rw [List.length_append]
  omega
def rCat : R2 := fun x y H Q => ∃ l b xs zs, x = .ref l ∧ y = .ref b ∧ H l = some (.lst xs) ∧ H b = some (.lst zs) ∧ xs.length + zs.length ≤ sizeLine ∧ ∀ p, H p = none → Q (.ref p) (upd H p (.lst (xs ++ zs)))
theorem op_cat : OpR X (binaryOp .Add) rCat := by
  intro pins s σ H x y v u Q I rx ry h
  obtain ⟨l, b, xs, zs, rfl, rfl, hH, hB, hz, q⟩ := h
  cases rx
  cases ry
  obtain ⟨z, its, n, r, hl, e⟩ := I.lstM hH
  obtain ⟨z2, its2, n2, r2, hl2, e2⟩ := I.lstM hB
  refine PySem.P.add_list e e2 ?_ (by rw [List.size_toArray, List.size_toArray]; omega)
  have ea : its.toArray ++ its2.toArray = (its ++ its2).toArray := by simp
  rw [ea]
  exact ⟨.ref _, _, I.lnew (t' := s.toks) (r.append r2) (by rw [List.length_append]; omega), rfl, q _ I.fresh⟩
end
section
variable {prog : Program} {w : World} {A : Around} {E : Value → Shared → Prop} {s : Shared}
end
section
variable {X : Cx}
end
end L2
namespace L2
open PySem PySem.Spec PyProof.Rows
section
variable {prog : Program} {w : World} {A : Around} {E : Value → Shared → Prop} {s : Shared} {l : Addr} {its : List Value} {ns : List Int} {Q : Value → Shared → Prop}
end
section
variable {X : Cx}
end
section
variable {X : Cx}
end
section
variable {X : Cx}
end
section
variable {X : Cx}
end
mutual
inductive Dp (K : PySem.W.Frag) (H : Hp) : V → PyData → Prop
  | non : Dp K H .non .none
  | bl (b : Bool) : Dp K H (.bl b) (.bool b)
  | int (i : Int) : Dp K H (.int i) (.int i)
  | str (x : Str) : Dp K H (.str x) (.str x)
  | lst {a : Addr} {xs : List V} {ds : List PyData} : SqL K H a xs → DpAll K H xs ds → Dp K H (.ref a) (.list ds)
  | tup {a : Addr} {xs : List V} {ds : List PyData} : SqT K H a xs → DpAll K H xs ds → Dp K H (.ref a) (.tuple ds)
inductive DpAll (K : PySem.W.Frag) (H : Hp) : List V → List PyData → Prop
  | nil : DpAll K H [] []
  | cons {v : V} {vs : List V} {d : PyData} {ds : List PyData} : Dp K H v d → DpAll K H vs ds → DpAll K H (v :: vs) (d :: ds)
end
section
variable {X : Cx} {pins : List (Addr × Obj)} {σ : St} {H : Hp} {s : Shared}
mutual
theorem Dp.reads (I : Inv X pins σ H s) : ∀ (d : PyData) (v : V) (u : Value), Dp X.K H v d → RelV v u → ∃ as, Reads s.heap u d as
  | .none, _, _, h, r => by
    cases h
    cases r
    exact ⟨_, Reads.none⟩
  | .bool b, _, _, h, r => by
    cases h
    cases r
    exact ⟨_, Reads.bool b⟩
  | .int i, _, _, h, r => by
    cases h
    obtain ⟨t, rfl⟩ := r
    exact ⟨_, Reads.int i t⟩
  | .str x, _, _, h, r => by
    cases h
    obtain ⟨t, rfl⟩ := r
    exact ⟨_, Reads.str x t⟩
  | .list ds, _, _, h, r => by
    cases h with
    | lst hs ha =>
      cases r
      obtain ⟨its, rv, ⟨o, n, ho, hc, _, hd⟩, _⟩ := I.list hs
      obtain ⟨as, hr⟩ := Dp.readsAll I ds _ its ha rv
      exact ⟨_, Reads.list ho hc hd hr⟩
  | .tuple ds, _, _, h, r => by
    cases h with
    | tup hs ha =>
      cases r
      obtain ⟨its, rv, ⟨o, ho, hc, n, hd⟩, _⟩ := I.tuple hs
      obtain ⟨as, hr⟩ := Dp.readsAll I ds _ its ha rv
      exact ⟨_, Reads.tuple ho hc hd hr⟩
  | .dict _, _, _, h, _ => by cases h
theorem Dp.readsAll (I : Inv X pins σ H s) : ∀ (ds : List PyData) (vs : List V) (us : List Value), DpAll X.K H vs ds → Vals vs us → ∃ as, ReadsAll s.heap us ds as
  | [], _, _, h, r => by
    cases h
    cases r
    exact ⟨_, ReadsAll.nil⟩
  | d :: ds, _, _, h, r => by
    cases h with
    | cons h1 h2 =>
      cases r with
      | cons r1 r2 =>
        obtain ⟨as, q1⟩ := Dp.reads I d _ _ h1 r1
        obtain ⟨bs, q2⟩ := Dp.readsAll I ds _ _ h2 r2
        exact ⟨_, ReadsAll.cons q1 q2⟩
end
end
section
variable {X : Cx}
end
end L2
namespace L2
open PySem PySem.Spec PyProof.Rows
abbrev CellAt (h : Heap) (c : Addr) (v : Option Value) : Prop := h.IsCell c v
def relS (scope sc : Scope) : Scope :=
  { scope with names := scope.names.map fun (n, k) => if (k == .free && sc.kind == .function && sc.names.lookup n == some .cell) then (n, .cell) else (n, k) }
def cloFrom (cells : List (Str × Addr)) : List (Str × NameKind) → List (Str × Addr) → List (Str × Addr)
  | [], acc => acc
  | (n, k) :: r, acc => if k == .free then cloFrom cells r ((n, (cells.lookup n).getD 0) :: acc) else cloFrom cells r acc
theorem closure_loop (env : Env) (f : Str × NameKind → List (Str × Addr) → Sem (ForInStep (List (Str × Addr))))
    (hf : ∀ n k c, f (n, k) c = if k == .free then (do let a ← cellOf env n; pure (.yield ((n, a) :: c))) else pure (.yield c)) :
    ∀ (names : List (Str × NameKind)) (acc : List (Str × Addr)), (∀ y ∈ names, y.2 = .free → ∃ c, env.cells.lookup y.1 = some c) → forIn names acc f = pure (cloFrom env.cells names acc)
  | [], acc, _ => by rw [List.forIn_nil]; rfl
  | (n, k) :: r, acc, h => by
    rw [List.forIn_cons, hf]
    have ih := fun acc => closure_loop env f hf r acc fun y hy => h y (List.mem_cons_of_mem _ hy)
    unfold cloFrom
    by_cases hk : (k == NameKind.free) = true
    · rw [if_pos hk, if_pos hk]
      obtain ⟨c, hc⟩ := h (n, k) List.mem_cons_self (by simpa using hk)
      have e : cellOf env n = pure c := by unfold cellOf; rw [hc]
      rw [e]
      have e2 : (env.cells.lookup n).getD 0 = c := by rw [hc]; rfl
      rw [e2]
      exact ih _
    · rw [if_neg hk, if_neg hk]
      exact ih _
theorem closure_ok {scope : Scope} {env : Env} (h : ∀ y ∈ scope.names, y.2 = .free → ∃ c, env.cells.lookup y.1 = some c) : closureFor scope env = pure (cloFrom env.cells scope.names []) := by
  simp only [closureFor]
  rw [closure_loop env _ (fun n k c => rfl) scope.names [] h]
  rfl
theorem mem_lookup {α : Type} : ∀ {l : List (Str × α)} {n : Str} {c : α}, (n, c) ∈ l → ∃ c', l.lookup n = some c'
  | (k, v) :: r, n, c, h => by
    rw [List.lookup_cons]
    cases hb : n == k with
    | true => exact ⟨_, rfl⟩
    | false =>
      rcases List.mem_cons.mp h with e | h
      · cases e; simp at hb
      · exact mem_lookup h
theorem cloFrom_mem {cells : List (Str × Addr)} : ∀ {names : List (Str × NameKind)} {acc : List (Str × Addr)} {n : Str} {c : Addr}, (n, c) ∈ cloFrom cells names acc → (n, c) ∈ acc ∨ ((n, .free) ∈ names ∧ c = (cells.lookup n).getD 0)
  | [], _, _, _, h => .inl h
  | (m, k) :: r, acc, n, c, h => by
    unfold cloFrom at h
    split at h
    · rename_i hk
      have hk : k = .free := by simpa using hk
      rcases cloFrom_mem h with h | ⟨h1, h2⟩
      · rcases List.mem_cons.mp h with e | h
        · cases e; exact .inr ⟨hk ▸ List.mem_cons_self, rfl⟩
        · exact .inl h
      · exact .inr ⟨List.mem_cons_of_mem _ h1, h2⟩
    · rcases cloFrom_mem h with h | ⟨h1, h2⟩
      · exact .inl h
      · exact .inr ⟨List.mem_cons_of_mem _ h1, h2⟩
theorem cloFrom_acc {cells : List (Str × Addr)} : ∀ {names : List (Str × NameKind)} {acc : List (Str × Addr)} {p : Str × Addr}, p ∈ acc → p ∈ cloFrom cells names acc
  | [], _, _, h => h
  | (m, k) :: r, acc, p, h => by
    unfold cloFrom
    split
    · exact cloFrom_acc (List.mem_cons_of_mem _ h)
    · exact cloFrom_acc h
theorem cloFrom_has {cells : List (Str × Addr)} : ∀ {names : List (Str × NameKind)} {acc : List (Str × Addr)} {n : Str}, (n, .free) ∈ names → (n, (cells.lookup n).getD 0) ∈ cloFrom cells names acc
  | (m, k) :: r, acc, n, h => by
    unfold cloFrom
    rcases List.mem_cons.mp h with e | h
    · cases e
      exact cloFrom_acc List.mem_cons_self
    · split
      · exact cloFrom_has h
      · exact cloFrom_has h
theorem cells_mem : ∀ {names : List (Str × NameKind)} {h : Heap} {acc : List (Str × Addr)} {x : Str} {c : Addr}, (x, c) ∈ cellsFrom h.objs.size names acc →
    (x, c) ∈ acc ∨ ((x, .cell) ∈ names ∧ h.objs.size ≤ c ∧ CellAt (pushCells h names) c none)
  | [], _, _, _, _, h => .inl h
  | (n, k) :: r, h, acc, x, c, hm => by
    unfold cellsFrom at hm
    unfold pushCells
    split at hm
    · rename_i hk
      rw [if_pos hk]
      have hk : k = .cell := by simpa using hk
      rw [← Heap.size_push h { cls := .type "cell", data := .cell none }] at hm
      rcases cells_mem hm with hm | ⟨h1, h2, h3⟩
      · rcases List.mem_cons.mp hm with e | hm
        · cases e
          exact .inr ⟨hk ▸ List.mem_cons_self, Nat.le_refl _, _, pushCells_keeps r _ _ _ (Heap.get?_push_size _ rfl), rfl⟩
        · exact .inl hm
      · rw [Heap.size_push] at h2
        exact .inr ⟨List.mem_cons_of_mem _ h1, Nat.le_of_succ_le h2, h3⟩
    · rename_i hk
      rw [if_neg hk]
      rcases cells_mem hm with hm | ⟨h1, h2, h3⟩
      · exact .inl hm
      · exact .inr ⟨List.mem_cons_of_mem _ h1, h2, h3⟩
theorem cells_acc : ∀ {names : List (Str × NameKind)} {n : Nat} {acc : List (Str × Addr)} {p : Str × Addr}, p ∈ acc → p ∈ cellsFrom n names acc
  | [], _, _, _, h => h
  | (m, k) :: r, n, acc, p, h => by
    unfold cellsFrom
    split
    · exact cells_acc (List.mem_cons_of_mem _ h)
    · exact cells_acc h
theorem cells_has : ∀ {names : List (Str × NameKind)} {n : Nat} {acc : List (Str × Addr)} {x : Str}, (x, .cell) ∈ names → ∃ c, (x, c) ∈ cellsFrom n names acc
  | (m, k) :: r, n, acc, x, h => by
    unfold cellsFrom
    rcases List.mem_cons.mp h with e | h
    · cases e
      exact ⟨n, cells_acc List.mem_cons_self⟩
    · split
      · exact cells_has h
      · exact cells_has h
theorem cells_inj : ∀ {names : List (Str × NameKind)} {h : Heap} {acc : List (Str × Addr)} {x y : Str} {c : Addr}, (∀ p ∈ acc, p.2 < h.objs.size) → (∀ x y c, (x, c) ∈ acc → (y, c) ∈ acc → x = y) →
    (x, c) ∈ cellsFrom h.objs.size names acc → (y, c) ∈ cellsFrom h.objs.size names acc → x = y
  | [], _, _, _, _, _, _, hi, h1, h2 => hi _ _ _ h1 h2
  | (n, k) :: r, h, acc, x, y, c, hl, hi, h1, h2 => by
    unfold cellsFrom at h1 h2
    split at h1
    · rename_i hk
      rw [if_pos hk] at h2
      rw [← Heap.size_push h { cls := .type "cell", data := .cell none }] at h1 h2
      refine cells_inj (h := h.push _) (fun p hp => ?_) (fun x y c a b => ?_) h1 h2
      · rw [Heap.size_push]
        rcases List.mem_cons.mp hp with rfl | hp
        · exact Nat.lt_succ_self _
        · exact Nat.lt_succ_of_lt (hl p hp)
      · rcases List.mem_cons.mp a with e | a <;> rcases List.mem_cons.mp b with e' | b
        · cases e; cases e'; rfl
        · cases e; exact absurd (hl _ b) (Nat.lt_irrefl _)
        · cases e'; exact absurd (hl _ a) (Nat.lt_irrefl _)
        · exact hi _ _ _ a b
    · rename_i hk
      rw [if_neg hk] at h2
      exact cells_inj hl hi h1 h2
theorem newEnv_comp {M : Model} {A : Around} {E : Value → Shared → Prop} {s : Shared} {scope : Scope} {globals : Addr} {closure : List (Str × Addr)} {qual : Str} {func : Option Addr} {code : Value} {around : Env} {builtins : Addr} {Q : Env → Shared → Prop}
    (h : Q (newEnv scope s.heap.objs.size globals (cellsFrom (s.heap.objs.size + 1) scope.names closure) qual func code (some around) builtins)
      { s with heap := pushCells (s.heap.push { cls := .type "dict", data := .dict #[] }) scope.names }) :
    wpAny M A (newFunctionEnv scope globals closure [] qual func code (some around) builtins) Q E s := by
  simp only [newFunctionEnv, Option.isSome_some, if_true]
  refine wpAny_bind (wpAny_alloc ?_)
  refine wpAny_bind (wpAny_layCells _ (fun n k c => rfl) scope.names closure _ _ ?_)
  rw [show ({ s with heap := s.heap.push { cls := .type "dict", data := .dict #[] } } : Shared).heap.objs.size = s.heap.objs.size + 1 from Heap.size_push ..]
  rw [List.forIn_nil]
  exact wpAny_bind (wpAny_pure (wpAny_pure h))
theorem lookup_relS {sc : Scope} : ∀ {names : List (Str × NameKind)} {x : Str} {k : NameKind},
    (names.map fun (n, k) => if (k == NameKind.free && sc.kind == .function && sc.names.lookup n == some .cell) then (n, NameKind.cell) else (n, k)).lookup x = some k →
    ∃ k', names.lookup x = some k' ∧ (k = k' ∨ (k' = .free ∧ k = .cell))
  | [], _, _, h => by simp at h
  | (n, k₀) :: r, x, k, h => by
    have ih := @lookup_relS sc r x k
    have h' : List.lookup x ((if (k₀ == NameKind.free && sc.kind == .function && sc.names.lookup n == some .cell) = true then (n, NameKind.cell) else (n, k₀)) :: (r.map _)) = some k := h
    cases hx : x == n with
    | true =>
      simp only [List.lookup_cons, hx]
      by_cases hc : (k₀ == NameKind.free && sc.kind == .function && sc.names.lookup n == some .cell) = true
      · rw [if_pos hc] at h'
        simp only [List.lookup_cons, hx] at h'
        cases h'
        simp only [Bool.and_eq_true, beq_iff_eq] at hc
        exact ⟨k₀, rfl, .inr ⟨hc.1.1, rfl⟩⟩
      · rw [if_neg hc] at h'
        simp only [List.lookup_cons, hx] at h'
        cases h'
        exact ⟨_, rfl, .inl rfl⟩
    | false =>
      simp only [List.lookup_cons, hx]
      by_cases hc : (k₀ == NameKind.free && sc.kind == .function && sc.names.lookup n == some .cell) = true
      · rw [if_pos hc] at h'
        simp only [List.lookup_cons, hx] at h'
        exact ih h'
      · rw [if_neg hc] at h'
        simp only [List.lookup_cons, hx] at h'
        exact ih h'
structure BlkOk (N : List Str) (sc scope : Scope) (own : List (Str × Nat)) : Prop where
  kind : scope.kind = .function
  uniq : ∀ y ∈ scope.names, scope.names.lookup y.1 = some y.2
  ix : ∀ p ∈ own, N[p.2]? = some p.1
  free : ∀ y ∈ scope.names, y.2 = .free → sc.names.lookup y.1 = some .cell ∨ sc.names.lookup y.1 = some .free
  own : ∀ y ∈ scope.names, y.2 = .local ∨ y.2 = .cell → y.1 ∈ own.map (·.1) ∨ y.1 ∉ N
def wipe (σ : St) : List Nat → St
  | [] => σ
  | v :: vs => (wipe σ vs).set v none
theorem wipe_length (σ : St) : ∀ vs : List Nat, (wipe σ vs).length = σ.length
  | [] => rfl
  | v :: vs => by unfold wipe; rw [List.length_set, wipe_length σ vs]
theorem wipe_some {σ : St} {i : Nat} {x : V} : ∀ {vs : List Nat}, (wipe σ vs)[i]? = some (some x) → σ[i]? = some (some x) ∧ i ∉ vs
  | [], h => ⟨h, by simp⟩
  | v :: vs, h => by
    unfold wipe at h
    by_cases hi : v = i
    · subst hi
      by_cases hv : v < (wipe σ vs).length
      · rw [List.getElem?_set_self hv] at h; cases h
      · rw [List.getElem?_eq_none (by simpa using hv)] at h; cases h
    · rw [List.getElem?_set_ne hi] at h
      obtain ⟨h1, h2⟩ := wipe_some h
      exact ⟨h1, by simp only [List.mem_cons, not_or]; exact ⟨fun e => hi e.symm, h2⟩⟩
abbrev Cx.blk (X : Cx) (s : Shared) (H : Hp) (scope : Scope) (cenv : Env) (fp : List Addr) : Cx := { X with s_0 := s, H_0 := H, env := cenv, outer := X.stack, ex := fp, fn := fun x => scope.names.lookup x == some .cell, pn := [], xe := fun _ _ => False }
section
variable {X : Cx} {pins : List (Addr × Obj)} {σ : St} {H : Hp} {s : Shared}
theorem block_start {scope : Scope} {own : List (Str × Nat)} {fp : List Addr} (I : Inv X pins σ H s) (ok : BlkOk X.N X.env.scope scope own) (hN : X.N.Nodup) (hfp : ∀ b ∈ fp, FpOk X pins H b ∧ b < s.heap.objs.size) :
    Inv (X.blk s H scope (compEnvC scope (cellsFrom (s.heap.objs.size + 1) scope.names (cloFrom X.env.cells scope.names [])) s.heap.objs.size X.env) fp) [] (wipe σ (own.map (·.2))) H { s with heap := pushCells (s.heap.push { cls := .type "dict", data := .dict #[] }) scope.names } := by
  have hfree : ∀ y ∈ scope.names, y.2 = .free → ∃ c, X.env.cells.lookup y.1 = some c := fun y hy e => by
    rcases ok.free y hy e with k | k
    · exact I.ok.has _ (.inl k)
    · exact I.ok.has _ (.inr k)
  generalize hcenv : compEnvC scope (cellsFrom (s.heap.objs.size + 1) scope.names (cloFrom X.env.cells scope.names [])) s.heap.objs.size X.env = cenv
  have kp : ∀ b o, s.heap.get? b = some o → (pushCells (s.heap.push { cls := .type "dict", data := .dict #[] }) scope.names).get? b = some o := fun b o e => pushCells_keeps _ _ _ _ (Heap.get?_push_of_some _ e)
  have hL : cenv.locals = s.heap.objs.size := by rw [← hcenv]; rfl
  have hcl : cenv.cells = cellsFrom (s.heap.objs.size + 1) scope.names (cloFrom X.env.cells scope.names []) := by rw [← hcenv]; rfl
  have hsc : cenv.scope = relS scope X.env.scope := by rw [← hcenv]; rfl
  rw [← Heap.size_push s.heap { cls := .type "dict", data := .dict #[] }] at hcl
  have cm : ∀ {y c}, (y, c) ∈ cloFrom X.env.cells scope.names [] → X.env.cells.lookup y = some c ∧ c < s.heap.objs.size := fun {y c} hm => by
    rcases cloFrom_mem hm with hm | ⟨h1, rfl⟩
    · cases hm
    · obtain ⟨c, hc⟩ := hfree _ h1 rfl
      rw [hc]
      obtain ⟨w, z⟩ := I.cell _ _ hc
      exact ⟨rfl, z.lt⟩
  have mem : ∀ {y c}, cenv.cells.lookup y = some c → (X.env.cells.lookup y = some c ∧ c < s.heap.objs.size) ∨ (s.heap.objs.size + 1 ≤ c ∧ CellAt (pushCells (s.heap.push { cls := .type "dict", data := .dict #[] }) scope.names) c none) := fun {y c} e => by
    rw [hcl] at e
    rcases cells_mem (PySem.mem_of_lookup e) with hm | ⟨_, h2, h3⟩
    · exact .inl (cm hm)
    · rw [Heap.size_push] at h2; exact .inr ⟨h2, h3⟩
  have look : ∀ {y}, scope.names.lookup y = some .free → ∃ c, cenv.cells.lookup y = some c ∧ X.env.cells.lookup y = some c := fun {y} hl => by
    have hy : (y, NameKind.free) ∈ scope.names := PySem.mem_of_lookup hl
    obtain ⟨c', e'⟩ := mem_lookup (cells_acc (names := scope.names) (n := (s.heap.push { cls := .type "dict", data := .dict #[] }).objs.size) (cloFrom_has (cells := X.env.cells) (acc := []) hy))
    rw [← hcl] at e'
    refine ⟨c', e', ?_⟩
    rw [hcl] at e'
    rcases cells_mem (PySem.mem_of_lookup e') with hm | ⟨h1, _, _⟩
    · exact (cm hm).1
    · have := ok.uniq _ h1
      rw [hl] at this; cases this
  have okB : (X.blk s H scope cenv fp).Ok := by
    refine ⟨I.ok.mod, by show cenv.scope.kind = _; rw [hsc]; exact ok.kind, by show cenv.globals = _; rw [← hcenv]; exact I.ok.glob, by show cenv.builtins = _; rw [← hcenv]; exact I.ok.blt, by show s.heap.objs.size ≤ cenv.locals; rw [hL]; exact Nat.le_refl _,
      fun y z c e1 e2 => ?_, fun y hy => ?_, fun y c z e => ?_, I.ok.hd, I.ok.frames, .inl rfl, fun b hb => ⟨?_, fun y c e z => ?_⟩, I.bs, Nat.le_trans I.ok.bsz I.sz, fun b o e hb => ?_, fun b hb z => ?_, I.stack, I.stkFree⟩
    · have e1 : cenv.cells.lookup y = some c := e1
      have e2 : cenv.cells.lookup z = some c := e2
      rw [hcl] at e1 e2
      refine cells_inj (fun p hp => ?_) (fun y z c a b => I.ok.inj y z c (cm a).1 (cm b).1) (PySem.mem_of_lookup e1) (PySem.mem_of_lookup e2)
      rw [Heap.size_push]
      exact Nat.lt_succ_of_lt (cm (y := p.1) (c := p.2) hp).2
    · show ∃ c, cenv.cells.lookup y = some c
      have key : ∀ k, cenv.kindOf y = some k → (k = .cell ∨ k = .free) → ∃ c, cenv.cells.lookup y = some c := fun k hk hk' => by
        unfold Env.kindOf at hk
        rw [hsc] at hk
        obtain ⟨k', e, r⟩ := lookup_relS hk
        have : k' = .cell ∨ k' = .free := by
          rcases r with rfl | ⟨rfl, _⟩
          · exact hk'
          · exact .inr rfl
        rcases this with rfl | rfl
        · obtain ⟨c, hm⟩ := cells_has (n := (s.heap.push { cls := .type "dict", data := .dict #[] }).objs.size) (acc := cloFrom X.env.cells scope.names []) (PySem.mem_of_lookup e)
          obtain ⟨c', e'⟩ := mem_lookup hm
          exact ⟨c', by rw [hcl]; exact e'⟩
        · obtain ⟨c, h1, _⟩ := look e
          exact ⟨c, h1⟩
      rcases hy with hy | hy
      · exact key _ hy (.inl rfl)
      · exact key _ hy (.inr rfl)
    · have z : (scope.names.lookup y == some NameKind.cell) = true := z
      have z : scope.names.lookup y = some .cell := by simpa using z
      have e : cenv.cells.lookup y = some c := e
      rw [hcl] at e
      rcases cells_mem (PySem.mem_of_lookup e) with hm | ⟨_, h2, _⟩
      · rcases cloFrom_mem hm with hm | ⟨h1, _⟩
        · cases hm
        · have q := ok.uniq _ h1
          rw [z] at q; cases q
      · rw [Heap.size_push] at h2
        exact Nat.le_of_succ_le h2
    · show b ≠ cenv.locals
      rw [hL]; exact Nat.ne_of_lt (hfp b hb).2
    · have e : cenv.cells.lookup y = some c := e
      rcases mem e with ⟨h1, _⟩ | ⟨h1, _⟩
      · exact (hfp b hb).1.2.2.2.2.1 y c h1 z
      · have h2 : s.heap.objs.size + 1 ≤ b := by rw [← z]; exact h1
        exact absurd (Nat.lt_of_lt_of_le (hfp b hb).2 (Nat.le_of_succ_le h2)) (Nat.lt_irrefl _)
    · rcases (hfp b hb).1.2.2.2.1 with z | z
      · exact I.ok.noex b o e z
      · exact absurd (Nat.lt_of_lt_of_le (Heap.lt_size e) (Nat.le_trans I.ok.bsz z)) (Nat.lt_irrefl _)
    · rcases List.mem_cons.mp (I.stkSub b z) with z | z
      · exact (hfp b hb).1.2.1 z
      · exact (hfp b hb).1.2.2.1 z
  refine ⟨okB, rfl, I.bare, Un.kept kp, ⟨fun _ => none, ?_, fun i y av e1 e2 e3 => ?_⟩, fun y c e => ?_, ?_, fun y c e => ?_, fun p hp => ?_, I.hok.kept kp, by rw [wipe_length]; exact I.len⟩
  · show Heap.Ns _ cenv.locals _
    rw [hL]
    exact Heap.Ns.keeps (Heap.Ns.new ..) fun b o e => pushCells_keeps _ _ _ _ e
  · obtain ⟨e2, hne⟩ := wipe_some e2
    have hfr : scope.names.lookup y = some .free ∧ (cenv.kindOf y = some .cell ∨ cenv.kindOf y = some .free) := by
      have key : ∀ k, cenv.scope.names.lookup y = some k → k = .local ∨ k = .cell ∨ k = .free → scope.names.lookup y = some .free ∧ (cenv.kindOf y = some .cell ∨ cenv.kindOf y = some .free) := fun k hk hk' => by
        have hk0 := hk
        rw [hsc] at hk
        obtain ⟨k', e, r⟩ := lookup_relS hk
        have no : ¬ (k' = .local ∨ k' = .cell) := fun hh => by
          rcases ok.own _ (PySem.mem_of_lookup e) hh with e' | e'
          · obtain ⟨p, hp, hpy⟩ := List.mem_map.mp e'
            have e3 := ok.ix p hp
            have : p.1 = y := hpy
            rw [this] at e3
            exact hne (List.mem_map.mpr ⟨p, hp, nodup_ix hN e3 e1⟩)
          · exact e' (List.mem_of_getElem? e1)
        rcases r with rfl | ⟨rfl, rfl⟩
        · rcases hk' with rfl | rfl | rfl
          · exact absurd (.inl rfl) no
          · exact absurd (.inr rfl) no
          · exact ⟨e, .inr hk0⟩
        · exact ⟨e, .inl hk0⟩
      have e3 : Vis cenv.scope y := e3
      rcases e3 with e3 | e3 | e3
      · exact key _ e3 (.inl rfl)
      · exact key _ e3 (.inr (.inl rfl))
      · exact key _ e3 (.inr (.inr rfl))
    obtain ⟨m, hn, hl⟩ := I.loc
    have hvis : Vis X.env.scope y := (ok.free _ (PySem.mem_of_lookup hfr.1) rfl).elim (fun k => .inr (.inl k)) (fun k => .inr (.inr k))
    obtain ⟨w, r, q⟩ := hl i y av e1 e2 hvis
    refine ⟨w, r, .inr ⟨hfr.2, ?_⟩⟩
    obtain ⟨c, h1, h2⟩ := look hfr.1
    rcases q with ⟨k, _⟩ | ⟨_, c', e', z⟩
    · have k : X.env.scope.names.lookup y = some .local := k
      rcases ok.free _ (PySem.mem_of_lookup hfr.1) rfl with k' | k' <;> rw [show X.env.scope.names.lookup y = _ from k'] at k <;> cases k
    · rw [h2] at e'; cases e'
      exact ⟨c, h1, z.keeps kp⟩
  · have e : cenv.cells.lookup y = some c := e
    rcases mem e with ⟨h1, _⟩ | ⟨_, z⟩
    · obtain ⟨w, z⟩ := I.cell y c h1
      exact ⟨w, z.keeps kp⟩
    · exact ⟨_, z⟩
  · show H cenv.locals = none
    rw [hL]; exact I.hok.fresh (Nat.le_refl _)
  · have e : cenv.cells.lookup y = some c := e
    rcases mem e with ⟨h1, _⟩ | ⟨h1, _⟩
    · exact I.freeC y c h1
    · exact I.hok.fresh (Nat.le_of_succ_le h1)
  · exact absurd (show p ∈ ([] : List (Addr × Obj)) ++ [] from hp) (by simp)
theorem app_ok {E : Value → Shared → Prop} {D : Addr} {xs : List V} {y : V} {v : Value} {Q : Value → Shared → Prop} (I : Inv X pins σ H s) (hD : H D = some (.lst xs)) (hz : xs.length < sizeLine) (r : RelV y v)
    (h : ∀ s', Inv X pins σ (upd H D (.lst (xs ++ [y]))) s' → Q .none s') : wpAny (model X.prog X.w) X.A (call (.builtin "list.append") [.ref D, v]) Q E s := by
  obtain ⟨hz', its, n, ri, e⟩ := I.hok D _ hD
  have hl := ri.length
  refine append_at (hsz := by rw [List.size_toArray]; omega) e fun h' sb ho' => ?_
  refine h { s with heap := h' } (I.write (t' := s.toks) (by rw [hD]; trivial) (.inl rfl) (fun b u hb q => (sb.2 b hb).trans q) ⟨_, ho'⟩ ⟨by rw [List.length_append]; exact hz, its ++ [v], n + 1, ri.append (.cons r .nil), ?_⟩)
  rw [ho']
  simp
def PTs (X : Cx) (ifs : List Expr) (t : TT) : Prop :=
  ∀ (pins : List (Addr × Obj)) (s : Shared) (σ : St) (H : Hp) (Q : Bool → Hp → Prop), Inv X pins σ H s → t σ H Q →
    wpAny (model X.prog X.w) X.A (forIn ifs true fun c r => if r = true then do let ok ← isTrue c X.env (eval c X.env); pure (ForInStep.yield ok) else pure (ForInStep.yield r)) (TP X pins σ Q) X.xe s
def tYes : TT := fun _ H Q => Q true H
theorem pts_nil : PTs X [] tYes := fun _ _ _ H _ I h => wpAny_tests_nil ⟨H, I, h⟩
theorem pts_one {c : Expr} {t : TT} (h : PT X c t) : PTs X [c] t := fun pins s σ H Q I hw => wpAny_tests_one (h pins s σ H Q I hw)
end
theorem thnF {α : Type} {t : Sem α} {Q Q' : α → Shared → Prop} {M : Model} {A : Around} {E : Value → Shared → Prop} {s : Shared} (h : wpAny M A t Q (fun _ _ => False) s) (hQ : ∀ a s, Q a s → Q' a s) : wpAny M A t Q' E s := wpAny_mono h hQ fun _ _ z => False.elim z
theorem compLoop_any {prog : Program} {w : World} {A : Around} {R : Result → Shared → Prop} {s : Shared} {elt target iter : Expr} {ifs : List Expr} {scope : Scope} {pos : Pos} {it acc : Value} {env : Env} (I : Nat → Shared → Prop)
    (turn : ∀ n s, I n s → wpAny (model prog w) A (pyNext it) (fun r s₁ => match r with
      | none => R (.ok .next) s₁
      | some v => wpAny (model prog w) A (letOwnedTupleGo target it v) (fun _ s₁' => wpAny (model prog w) A (assign target env v) (fun _ s₂ =>
          wpAny (model prog w) A (forIn ifs true fun c r => if r = true then do let ok ← isTrue c env (eval c env); pure (ForInStep.yield ok) else pure (ForInStep.yield r)) (fun ok s₃ =>
            if ok = true then wpAny (model prog w) A (eval elt env) (fun x s₄ =>
              wpAny (model prog w) A (call (.builtin "list.append") [acc, x]) (fun _ s₅ => ∃ m, m < n ∧ I m s₅) (notedBy (model prog w) A env fun e s' => R (.error e) s') s₄) (notedBy (model prog w) A env fun e s' => R (.error e) s') s₃
            else ∃ m, m < n ∧ I m s₃) (notedBy (model prog w) A env fun e s' => R (.error e) s') s₂) (notedBy (model prog w) A env fun e s' => R (.error e) s') s₁') (notedBy (model prog w) A env fun e s' => R (.error e) s') s₁) (notedBy (model prog w) A env fun e s' => R (.error e) s') s)
    (n : Nat) (h : I n s) :
    codeAny (model prog w) A (.compLoop (.ListComp elt [⟨target, iter, ifs, 0⟩] scope pos) 0 it acc env) R s := by
  refine codeAny_loop rfl I (fun n s hI => ?_) n h
  show wpAny _ A ((compTurn (.ListComp elt [⟨target, iter, ifs, 0⟩] scope pos) 0 it acc env).onRaise (fun x => do noteFrame x env; theTreesLotGoes x)) _ _ s
  refine wpAny_noted ?_
  rw [compTurn_list]
  refine wpAny_bind (wpAny_standAt (wpAny_bind (wpAny_mono (turn n s hI) (fun r s₁ h₁ => ?_) fun _ _ h' => h')))
  cases r with
  | none => exact wpAny_pure h₁
  | some v =>
    refine wpAny_bind (wpAny_mono h₁ (fun _ s₁' h₁' => ?_) fun _ _ h' => h')
    refine wpAny_bind (wpAny_mono h₁' (fun _ s₂ h₂ => wpAny_bind (wpAny_mono h₂ (fun ok s₃ h₃ => ?_) fun _ _ h' => h')) fun _ _ h' => h')
    cases ok with
    | false => exact wpAny_pure ⟨rfl, h₃⟩
    | true =>
      exact wpAny_bind (wpAny_bind (wpAny_mono h₃ (fun x s₄ h₄ => wpAny_bind (wpAny_mono h₄ (fun _ s₅ h₅ => wpAny_pure (wpAny_pure ⟨rfl, h₅⟩)) fun _ _ h' => h')) fun _ _ h' => h'))
section
variable {X : Cx}
def tLc (wi : TI) (g : TG) (tt : TT) (te : TE) (vs : List Nat) : TE := fun σ H Q => wi σ H fun J H1 => ∀ D, H1 D = none → ∃ W : Nat → Nat → Hp → Prop, (∃ m, W 0 m (upd H1 D (.lst []))) ∧ ∀ i m H, W i m H →
  (J.stop i H ∧ Q (.ref D) H) ∨ (J.go i H ∧ ∃ Nx : Hp → Prop, (∀ H', Nx H' → ∃ m', m' < m ∧ W (i + 1) m' H') ∧ ∀ x H', J.yld i H x H' → g x (wipe σ vs) H' fun σ2 H2 => wipe σ2 vs = wipe σ vs ∧ tt σ2 H2 fun b H3 =>
    if b = true then te σ2 H3 fun y H4 => ∃ acc, H4 D = some (.lst acc) ∧ acc.length < sizeLine ∧ Nx (upd H4 D (.lst (acc ++ [y]))) else Nx H3)
theorem lc_core {pins : List (Addr × Obj)} {s : Shared} {σ : St} {H : Hp} {Q : VK} {elt tg iter : Expr} {ifs : List Expr} {scope : Scope} {own : List (Str × Nat)} {pos pos' : Pos} {wi : TI} {g : TG} {tt : TT} {te : TE} {use : Option (Value → Sem Unit)} {Qf : Value → Shared → Prop}
    (hc : X.calm = true) (hN : X.N.Nodup) (I : Inv X pins σ H s) (hi : PI X tg iter wi) (ok : BlkOk X.N X.env.scope scope own)
    (hg : ∀ (s : Shared) (H : Hp) (C : Addr) (cl : List (Str × Addr)) (fp : List Addr), PG (X.blk s H scope (compEnvC scope cl C X.env) fp) tg g) (ht : ∀ (s : Shared) (H : Hp) (C : Addr) (cl : List (Str × Addr)) (fp : List Addr), PTs (X.blk s H scope (compEnvC scope cl C X.env) fp) ifs tt)
    (he : ∀ (s : Shared) (H : Hp) (C : Addr) (cl : List (Str × Addr)) (fp : List Addr), PE (X.blk s H scope (compEnvC scope cl C X.env) fp) elt te) (hs : ∀ x, foldedSetIterable iter X.env x = pure x)
    (h : tLc wi g tt te (own.map (·.2)) σ H Q)
    (hRR : ∀ D C s' m H', Inv X pins σ H' s' → Q (.ref D) H' → s'.heap.Ns C m → FpOk X pins H' C → compPost (model X.prog X.w) X.A X.xe use Qf (.ref D) C (.ok .next) s') :
    wpAny (model X.prog X.w) X.A (comprehension (.ListComp elt [⟨tg, iter, ifs, 0⟩] scope pos) scope X.env pos' (newList []) false (eval iter X.env) use) Qf X.xe s := by
  have hfree : ∀ y ∈ scope.names, y.2 = .free → ∃ c, X.env.cells.lookup y.1 = some c := fun y hy e => by
    rcases ok.free y hy e with k | k
    · exact I.ok.has _ (.inl k)
    · exact I.ok.has _ (.inr k)
  refine wpAny_comprehension_free (use := use) rfl hs (closure_ok hfree) ok.kind (fun y hy e => by rw [ok.uniq y hy, e])
    (thn (hi pins s σ H _ I h) fun xv s1 hx => thn hx fun itv s2 h2 => ?_)
  obtain ⟨it, fp, tn, J, H2, e, I2, T, st2, f2, q⟩ := h2
  subst e
  refine wpAny_newObj_type (newEnv_comp ?_) (by show 0 ≤ sizeLine; decide)
  generalize hD : s2.heap.objs.size = D
  have hDn : H2 D = none := I2.hok.fresh (Nat.le_of_eq hD)
  obtain ⟨W, ⟨m0, w0⟩, turn⟩ := q D hDn
  generalize hs3 : ({ s2 with heap := s2.heap.push { cls := .type "list", data := .seq ([] : List Value).toArray } } : Shared) = s3
  have I3 : Inv X pins σ (upd H2 D (.lst [])) s3 := by
    rw [← hs3]
    refine I2.laid (t' := s2.toks) (fun b o e => Heap.get?_push_of_some _ e) (Nat.le_of_eq hD) ⟨Nat.zero_le _, [], 0, .nil, ?_⟩
    rw [← hD]
    exact Heap.get?_push_size _ rfl
  have h3 : s3.heap = s2.heap.push { cls := .type "list", data := .seq ([] : List Value).toArray } := by rw [← hs3]
  have sz : ∀ b ∈ fp, b < s2.heap.objs.size := fun b hb => by
    obtain ⟨o, e, _⟩ := T.obj _ _ st2 b hb
    exact Heap.lt_size e
  have f3 : ∀ b ∈ fp, FpOk X pins (upd H2 D (.lst [])) b ∧ b < s3.heap.objs.size := fun b hb => by
    have hlt := sz b hb
    refine ⟨⟨?_, (f2 b hb).2⟩, by rw [h3, Heap.size_push]; exact Nat.lt_succ_of_lt hlt⟩
    rw [upd_ne (by rw [← hD]; exact Nat.ne_of_lt hlt)]
    exact (f2 b hb).1
  have st3 : tn 0 s3.heap := T.keep _ _ _ st2 fun b _ o e => by rw [h3]; exact Heap.get?_push_of_some _ e
  have I4 := block_start I3 ok hN f3
  have pg := hg s3 (upd H2 D (.lst [])) s3.heap.objs.size (cellsFrom (s3.heap.objs.size + 1) scope.names (cloFrom X.env.cells scope.names [])) fp
  have pt := ht s3 (upd H2 D (.lst [])) s3.heap.objs.size (cellsFrom (s3.heap.objs.size + 1) scope.names (cloFrom X.env.cells scope.names [])) fp
  have pe := he s3 (upd H2 D (.lst [])) s3.heap.objs.size (cellsFrom (s3.heap.objs.size + 1) scope.names (cloFrom X.env.cells scope.names [])) fp
  show codeAny _ _ (.compStart (.ListComp elt [⟨tg, iter, ifs, 0⟩] scope pos) 0 (.ref it) (.ref D) (compEnvC scope (cellsFrom (s3.heap.objs.size + 1) scope.names (cloFrom X.env.cells scope.names [])) s3.heap.objs.size X.env)) (compPost (model X.prog X.w) X.A X.xe use Qf (.ref D) s3.heap.objs.size) { s3 with heap := pushCells (s3.heap.push { cls := .type "dict", data := .dict #[] }) scope.names }
  have nfp : ∀ b ∈ fp, (upd H2 D (.lst [])) b = none := fun b hb => (f3 b hb).1.1
  generalize hce : compEnvC scope (cellsFrom (s3.heap.objs.size + 1) scope.names (cloFrom X.env.cells scope.names [])) s3.heap.objs.size X.env = ce at I4 pg pt pe ⊢
  have cL : ce.locals = s3.heap.objs.size := by subst hce; rfl
  generalize hH3 : upd H2 D (.lst []) = H3 at I3 I4 pg pt pe w0 nfp f3
  generalize hs4 : ({ s3 with heap := pushCells (s3.heap.push { cls := .type "dict", data := .dict #[] }) scope.names } : Shared) = s4 at I4 ⊢
  have st4 : tn 0 s4.heap := T.keep _ _ _ st3 fun b _ o e => by rw [← hs4]; exact pushCells_keeps _ _ _ _ (Heap.get?_push_of_some _ e)
  have stat : ∀ {σ' : St} {H' : Hp} {s' : Shared}, Inv (X.blk s3 H3 scope ce fp) [] σ' H' s' → (∀ b ∈ fp, H' b = none) → ∀ b ∈ fp, FpOk (X.blk s3 H3 scope ce fp) [] H' b := fun {σ' H' s'} I' hn b hb =>
    ⟨hn b hb, (I'.ok.exf b hb).1, I'.ok.exfs b hb, .inl hb, fun x c e => (I'.ok.exf b hb).2 x c e, fun p hp => absurd (show p ∈ ([] : List (Addr × Obj)) ++ [] from hp) (by simp)⟩
  have loop : codeAny (model X.prog X.w) X.A (.compLoop (.ListComp elt [⟨tg, iter, ifs, 0⟩] scope pos) 0 (.ref it) (.ref D) ce) (compPost (model X.prog X.w) X.A X.xe use Qf (.ref D) s3.heap.objs.size) s4 := by
    refine compLoop_any (fun n s' => ∃ i H', Inv (X.blk s3 H3 scope ce fp) [] (wipe σ (own.map (·.2))) H' s' ∧ tn i s'.heap ∧ (∀ b ∈ fp, H' b = none) ∧ W i n H') ?_ m0 ⟨0, H3, I4, st4, nfp, w0⟩
    rintro n s5 ⟨i, H5, I5, st5, n5, w5⟩
    rcases turn i n H5 w5 with ⟨stop, qq⟩ | ⟨go, Nx, hNx, step⟩
    · have td := T.done (X.blk s3 H3 scope ce fp) rfl rfl rfl hc i [] s5 _ H5 (fun _ _ => False) I5 (stat I5 n5) st5 stop
      refine thnF td fun r s6 ⟨hr, I6⟩ => ?_
      subst hr
      have I7 : Inv X pins σ H5 s6 := I3.call' (ch := fp) I6.os I6.base I6.hok I6.bare fun b hb => ⟨(f3 b hb).1.2.2.2.1, (f3 b hb).1.2.1, (f3 b hb).1.2.2.2.2.1, (f3 b hb).1.2.2.2.2.2⟩
      have nC : H5 s3.heap.objs.size = none := by
        have z : H5 ce.locals = none := I6.free
        rw [cL] at z
        exact z
      obtain ⟨m, hn, _⟩ := I6.loc
      have hn : s6.heap.Ns ce.locals m := hn
      rw [cL] at hn
      exact hRR D s3.heap.objs.size s6 m H5 I7 qq hn (I3.fpOk (Nat.le_refl _) nC)
    · have ti := T.item (X.blk s3 H3 scope ce fp) rfl rfl rfl hc i [] s5 _ H5 (fun _ _ => False) I5 (stat I5 n5) st5 go
      refine thnF ti fun r s6 ⟨u, hr, h6⟩ => ?_
      subst hr
      refine thnF h6 fun _ s7 ⟨x, H7, I7, r7, y7, st7, n7⟩ => ?_
      have I7' := I7.pinned (stat I7 n7) (T.obj _ _ st7)
      refine thnF (pg _ s7 _ H7 x u _ I7' r7 (step x H7 y7)) fun _ s8 ⟨σ8, H8, I8, hw8, q8⟩ => ?_
      refine thnF (pt _ s8 σ8 H8 _ I8 q8) fun b s9 ⟨H9, I9, q9⟩ => ?_
      have fin : ∀ {s' : Shared} {H' : Hp}, Inv (X.blk s3 H3 scope ce fp) ([] ++ pinsAt fp s7.heap) σ8 H' s' → Nx H' → ∃ m, m < n ∧ ∃ i H', Inv (X.blk s3 H3 scope ce fp) [] (wipe σ (own.map (·.2))) H' s' ∧ tn i s'.heap ∧ (∀ b ∈ fp, H' b = none) ∧ W i m H' := fun {s' H'} I' nx => by
        obtain ⟨m', hm, w'⟩ := hNx H' nx
        have pin' : ∀ b ∈ fp, ∀ o, s7.heap.get? b = some o → s'.heap.get? b = some o ∧ H' b = none := fun b hb o e =>
          let z := I'.pin (b, o) (List.mem_append_right _ (List.mem_append_right _ (mem_pinsAt hb e)))
          ⟨z.1, z.2.1⟩
        have hl : (wipe σ (own.map (·.2))).length = σ8.length := by rw [← hw8, wipe_length]
        refine ⟨m', hm, i + 1, H', (I'.unpinned (pins := [])).weak hl (fun j v e => ?_), T.keep _ _ _ st7 fun b hb o e => (pin' b hb o e).1, fun b hb => ?_, w'⟩
        · rw [← hw8] at e
          exact (wipe_some e).1
        · obtain ⟨o, e, _⟩ := T.obj _ _ st7 b hb
          exact (pin' b hb o e).2
      cases b with
      | false =>
        simp only [Bool.false_eq_true, if_false] at q9 ⊢
        exact fin I9 q9
      | true =>
        simp only [if_true] at q9 ⊢
        refine thnF (pe _ s9 σ8 H9 _ I9 q9) fun z s10 ⟨yv, H10, I10, r10, acc, hD10, hz10, nx⟩ => ?_
        exact app_ok (X := X.blk s3 H3 scope ce fp) I10 hD10 hz10 r10 fun s11 I11 => fin I11 nx
  exact codeAny_compStart_list loop (T.self X.A 0 _ _ _ st4 loop)
theorem pe_lc {elt tg iter : Expr} {ifs : List Expr} {scope : Scope} {own : List (Str × Nat)} {pos : Pos} {wi : TI} {g : TG} {tt : TT} {te : TE} (hc : X.calm = true) (hN : X.N.Nodup) (hi : PI X tg iter wi) (ok : BlkOk X.N X.env.scope scope own)
    (hg : ∀ (s : Shared) (H : Hp) (C : Addr) (cl : List (Str × Addr)) (fp : List Addr), PG (X.blk s H scope (compEnvC scope cl C X.env) fp) tg g) (ht : ∀ (s : Shared) (H : Hp) (C : Addr) (cl : List (Str × Addr)) (fp : List Addr), PTs (X.blk s H scope (compEnvC scope cl C X.env) fp) ifs tt)
    (he : ∀ (s : Shared) (H : Hp) (C : Addr) (cl : List (Str × Addr)) (fp : List Addr), PE (X.blk s H scope (compEnvC scope cl C X.env) fp) elt te) (hs : ∀ x, foldedSetIterable iter X.env x = pure x := by intro _; rfl) :
    PE X (.ListComp elt [⟨tg, iter, ifs, 0⟩] scope pos) (tLc wi g tt te (own.map (·.2))) := by
  intro pins s σ H Q I h
  rw [eval_ListComp]
  refine lc_core hc hN I hi ok hg ht he hs h fun D C s' m H' I' q hn f => ⟨m, hn, fun h'' sb => ?_⟩
  obtain ⟨f0, f1, f2, f3, f4, f5⟩ := f
  exact ⟨.ref D, H', I'.turned (t' := s'.toks) (fun b o hb e => (sb.2 b hb).trans e) f0 f1 f3 f4 f5, rfl, q⟩
theorem ps_setLc {i : Nat} {y : Str} {py : Pos} {elt tg iter : Expr} {ifs : List Expr} {scope : Scope} {own : List (Str × Nat)} {pos spos : Pos} {wi : TI} {g : TG} {tt : TT} {te : TE} (hc : X.calm = true) (hN : X.N.Nodup) (hy : X.N[i]? = some y) (hyl : X.env.scope.names.lookup y = some .local)
    (hsw : swapsWith (.ListComp elt [⟨tg, iter, ifs, 0⟩] scope pos) (some (.Name y py)) spos.line X.env = pure true) (hi : PI X tg iter wi) (ok : BlkOk X.N X.env.scope scope own)
    (hg : ∀ (s : Shared) (H : Hp) (C : Addr) (cl : List (Str × Addr)) (fp : List Addr), PG (X.blk s H scope (compEnvC scope cl C X.env) fp) tg g) (ht : ∀ (s : Shared) (H : Hp) (C : Addr) (cl : List (Str × Addr)) (fp : List Addr), PTs (X.blk s H scope (compEnvC scope cl C X.env) fp) ifs tt)
    (he : ∀ (s : Shared) (H : Hp) (C : Addr) (cl : List (Str × Addr)) (fp : List Addr), PE (X.blk s H scope (compEnvC scope cl C X.env) fp) elt te) (hs : ∀ x, foldedSetIterable iter X.env x = pure x := by intro _; rfl) :
    PS X (.Assign [.Name y py] (.ListComp elt [⟨tg, iter, ifs, 0⟩] scope pos) spos) (tAsg (tLc wi g tt te (own.map (·.2))) (gName i)) := by
  intro pins s σ H D I h
  rw [exec_Assign_Name_used _ _ _ _ hsw]
  refine wpAny_bind (wpAny_standAt (wpAny_bind ?_))
  show wpAny _ X.A (do let _ ← comprehension (.ListComp elt [⟨tg, iter, ifs, 0⟩] scope pos) scope X.env (firstIterPos [⟨tg, iter, ifs, 0⟩] pos) (newList []) false (eval iter X.env) (some (assign (.Name y py) X.env))) _ _ s
  have h : tLc wi g tt te (own.map (·.2)) σ H (fun x H1 => gName i x σ H1 D.nx) := h
  refine wpAny_bind (thn (lc_core (Qf := fun _ s' => SP X pins D .next s') hc hN I hi ok hg ht he hs h fun L C s' m H' I' q hn f => ?_) fun _ s' hq => wpAny_pure (wpAny_pure hq))
  show wpAny _ _ (assign (.Name y py) X.env (.ref L)) _ _ _
  refine wpAny_assign_Name (store_ok2 (v := V.ref L) I' hN hy (.inl hyl) rfl (fun s2 I2 ⟨a, sb, ha⟩ => ?_) (.inr hyl))
  obtain ⟨f0, f1, f2, f3, f4, f5⟩ := f
  have haC : C ≠ a := by
    rcases ha with z | z
    · rw [z]; exact f1
    · exact fun e => f4 y a z e.symm
  refine ⟨m, hn.sameBut sb haC, fun h3 sb3 => ?_⟩
  exact ⟨_, H', I2.turned (t' := s2.toks) (fun b o hb e => (sb3.2 b hb).trans e) f0 f1 f3 f4 f5, q⟩
theorem sw_true {elt : Expr} {gs : List Comprehension} {scope : Scope} {pos py : Pos} {y : Str} {l : Nat} {env : Env} (hk : env.scope.kind = .function) (hy : env.scope.names.lookup y = some .local) (hl : (py.line == pos.line) = true)
    (ha : (scope.names.any fun (n, k) => n == y && (k == .local || k == .cell)) = false) : swapsWith (.ListComp elt gs scope pos) (some (.Name y py)) l env = pure true := by
  have ky : env.kindOf y = some .local := hy
  have hb : env.blockKind = .function := by unfold Env.blockKind; rw [hk]; rfl
  unfold swapsWith
  simp only [hb, ky, ha, Expr.pos, hl]
  rfl
end
theorem lc_range {lo : Int} {n : Nat} {g : TG} {tt : TT} {te : TE} {vs : List Nat} {σ : St} {H1 : Hp} {D : Addr} {Qd : Hp → Prop} (Pv : Nat → Hp → Prop) (h0 : Pv 0 (upd H1 D (.lst [])))
    (hs : ∀ i H, i < n → Pv i H → g (.int (lo + i)) (wipe σ vs) H fun σ2 H2 => wipe σ2 vs = wipe σ vs ∧ tt σ2 H2 fun b H3 =>
      if b = true then te σ2 H3 fun y H4 => ∃ acc, H4 D = some (.lst acc) ∧ acc.length < sizeLine ∧ Pv (i + 1) (upd H4 D (.lst (acc ++ [y]))) else Pv (i + 1) H3) (hd : ∀ H, Pv n H → Qd H) :
    ∃ W : Nat → Nat → Hp → Prop, (∃ m, W 0 m (upd H1 D (.lst []))) ∧ ∀ i m H, W i m H →
      ((Itr lo n).stop i H ∧ Qd H) ∨ ((Itr lo n).go i H ∧ ∃ Nx : Hp → Prop, (∀ H', Nx H' → ∃ m', m' < m ∧ W (i + 1) m' H') ∧ ∀ x H', (Itr lo n).yld i H x H' → g x (wipe σ vs) H' fun σ2 H2 => wipe σ2 vs = wipe σ vs ∧ tt σ2 H2 fun b H3 =>
        if b = true then te σ2 H3 fun y H4 => ∃ acc, H4 D = some (.lst acc) ∧ acc.length < sizeLine ∧ Nx (upd H4 D (.lst (acc ++ [y]))) else Nx H3) := by
  refine ⟨fun i m H => m = n - i ∧ i ≤ n ∧ Pv i H, ⟨n, by simp, Nat.zero_le _, h0⟩, ?_⟩
  rintro i m H ⟨rfl, hi, p⟩
  by_cases hlt : i < n
  · refine .inr ⟨hlt, Pv (i + 1), fun H' p' => ⟨n - (i + 1), by omega, rfl, hlt, p'⟩, fun x H' y => ?_⟩
    obtain ⟨e, y⟩ := y
    subst e y
    exact hs i _ hlt p
  · have e : i = n := by omega
    subst e
    exact .inl ⟨Nat.le_refl _, hd H p⟩
theorem lc_list {K : PySem.W.Frag} {a : Addr} {xs : List V} {g : TG} {tt : TT} {te : TE} {vs : List Nat} {σ : St} {H1 : Hp} {D : Addr} {Qd : Hp → Prop} (Pv : Nat → Hp → Prop) (h0 : Pv 0 (upd H1 D (.lst []))) (hl : ∀ i H, i ≤ xs.length → Pv i H → SqL K H a xs)
    (hs : ∀ i x H, xs[i]? = some x → Pv i H → g x (wipe σ vs) H fun σ2 H2 => wipe σ2 vs = wipe σ vs ∧ tt σ2 H2 fun b H3 =>
      if b = true then te σ2 H3 fun y H4 => ∃ acc, H4 D = some (.lst acc) ∧ acc.length < sizeLine ∧ Pv (i + 1) (upd H4 D (.lst (acc ++ [y]))) else Pv (i + 1) H3) (hd : ∀ H, Pv xs.length H → Qd H) :
    ∃ W : Nat → Nat → Hp → Prop, (∃ m, W 0 m (upd H1 D (.lst []))) ∧ ∀ i m H, W i m H →
      ((Itl K a).stop i H ∧ Qd H) ∨ ((Itl K a).go i H ∧ ∃ Nx : Hp → Prop, (∀ H', Nx H' → ∃ m', m' < m ∧ W (i + 1) m' H') ∧ ∀ x H', (Itl K a).yld i H x H' → g x (wipe σ vs) H' fun σ2 H2 => wipe σ2 vs = wipe σ vs ∧ tt σ2 H2 fun b H3 =>
        if b = true then te σ2 H3 fun y H4 => ∃ acc, H4 D = some (.lst acc) ∧ acc.length < sizeLine ∧ Nx (upd H4 D (.lst (acc ++ [y]))) else Nx H3) := by
  refine ⟨fun i m H => m = xs.length - i ∧ i ≤ xs.length ∧ Pv i H, ⟨xs.length, by simp, Nat.zero_le _, h0⟩, ?_⟩
  rintro i m H ⟨rfl, hi, p⟩
  have q := hl i H hi p
  by_cases hlt : i < xs.length
  · refine .inr ⟨⟨xs, xs[i], q, by simp [hlt]⟩, Pv (i + 1), fun H' p' => ⟨xs.length - (i + 1), by omega, rfl, hlt, p'⟩, fun x H' y => ?_⟩
    obtain ⟨e, y⟩ := y
    subst e
    exact hs i x _ (y xs q) p
  · have e : i = xs.length := by omega
    subst e
    exact .inl ⟨⟨xs, q, Nat.le_refl _⟩, hd H p⟩
theorem lc_tup {K : PySem.W.Frag} {a : Addr} {xs : List V} {g : TG} {tt : TT} {te : TE} {vs : List Nat} {σ : St} {H1 : Hp} {D : Addr} {Qd : Hp → Prop} (Pv : Nat → Hp → Prop) (h0 : Pv 0 (upd H1 D (.lst []))) (hl : ∀ i H, i ≤ xs.length → Pv i H → SqT K H a xs)
    (hs : ∀ i x H, xs[i]? = some x → Pv i H → g x (wipe σ vs) H fun σ2 H2 => wipe σ2 vs = wipe σ vs ∧ tt σ2 H2 fun b H3 =>
      if b = true then te σ2 H3 fun y H4 => ∃ acc, H4 D = some (.lst acc) ∧ acc.length < sizeLine ∧ Pv (i + 1) (upd H4 D (.lst (acc ++ [y]))) else Pv (i + 1) H3) (hd : ∀ H, Pv xs.length H → Qd H) :
    ∃ W : Nat → Nat → Hp → Prop, (∃ m, W 0 m (upd H1 D (.lst []))) ∧ ∀ i m H, W i m H →
      ((Itt K a).stop i H ∧ Qd H) ∨ ((Itt K a).go i H ∧ ∃ Nx : Hp → Prop, (∀ H', Nx H' → ∃ m', m' < m ∧ W (i + 1) m' H') ∧ ∀ x H', (Itt K a).yld i H x H' → g x (wipe σ vs) H' fun σ2 H2 => wipe σ2 vs = wipe σ vs ∧ tt σ2 H2 fun b H3 =>
        if b = true then te σ2 H3 fun y H4 => ∃ acc, H4 D = some (.lst acc) ∧ acc.length < sizeLine ∧ Nx (upd H4 D (.lst (acc ++ [y]))) else Nx H3) := by
  refine ⟨fun i m H => m = xs.length - i ∧ i ≤ xs.length ∧ Pv i H, ⟨xs.length, by simp, Nat.zero_le _, h0⟩, ?_⟩
  rintro i m H ⟨rfl, hi, p⟩
  have q := hl i H hi p
  by_cases hlt : i < xs.length
  · refine .inr ⟨⟨xs, xs[i], q, by simp [hlt]⟩, Pv (i + 1), fun H' p' => ⟨xs.length - (i + 1), by omega, rfl, hlt, p'⟩, fun x H' y => ?_⟩
    obtain ⟨e, y⟩ := y
    subst e
    exact hs i x _ (y xs q) p
  · have e : i = xs.length := by omega
    subst e
    exact .inl ⟨⟨xs, q, Nat.le_refl _⟩, hd H p⟩
def blkC (N : List Str) (sc scope : Scope) (own : List (Str × Nat)) : Bool :=
  (match scope.kind with | .function => true | _ => false) && (scope.names.all fun y => decide (scope.names.lookup y.1 = some y.2)) && (own.all fun p => decide (N[p.2]? = some p.1)) &&
    (scope.names.all fun y => match y.2 with
      | .free => (match sc.names.lookup y.1 with | some .cell => true | some .free => true | _ => false)
      | .local => decide (y.1 ∈ own.map (·.1)) || decide (y.1 ∉ N)
      | .cell => decide (y.1 ∈ own.map (·.1)) || decide (y.1 ∉ N)
      | _ => true)
theorem blkOk_by {N : List Str} {sc scope : Scope} {own : List (Str × Nat)} (h : blkC N sc scope own = true) : BlkOk N sc scope own := by
  unfold blkC at h
  simp only [Bool.and_eq_true, List.all_eq_true, decide_eq_true_eq] at h
  obtain ⟨⟨⟨h1, h2⟩, h3⟩, h4⟩ := h
  refine ⟨?_, h2, h3, fun y hy e => ?_, fun y hy e => ?_⟩
  · split at h1
    · assumption
    · cases h1
  · have q := h4 y hy
    simp only [e] at q
    split at q <;> first | exact .inl (by assumption) | exact .inr (by assumption) | cases q
  · have q := h4 y hy
    rcases e with e | e <;> (simp only [e, Bool.or_eq_true, decide_eq_true_eq] at q; exact q)
end L2
namespace L2
open PySem PySem.Spec PyProof.Rows
section
variable {prog : Program} {w : World} {A : Around} {R : Result → Shared → Prop} {s : Shared} {elt t0 i0 t1 i1 : Expr} {ifs0 ifs1 : List Expr} {scope : Scope} {pos : Pos} {it acc : Value} {env : Env}
end
section
variable {X : Cx}
end
end L2
namespace L2
open PySem PySem.Spec PyProof.Rows
section
variable {κ : Type} [DecidableEq κ]
end
section
variable {P : Program} {w : World} {H : Hp} {h : Heap} {a : Addr}
end
section
variable {X : Cx} {pins : List (Addr × Obj)} {σ : St} {H : Hp} {s : Shared} {a : Addr} {y v : V} {u r : Value} {o : Option V} {A : Around} {E : Value → Shared → Prop}
end
section
variable {X : Cx} {pins : List (Addr × Obj)} {σ : St} {H : Hp} {s : Shared} {a : Addr} {kvs : List (Key × V)} {k : Key} {u : Value} {A : Around} {E : Value → Shared → Prop}
end
section
variable {X : Cx} {o i e value : Expr} {pos pos' tpos : Pos} {td ty tv : TE}
end
section
variable {X : Cx} {pos : Pos}
end
section
variable {X : Cx} {pins : List (Addr × Obj)} {σ : St} {H : Hp} {s : Shared} {a : Addr} {y d : V} {u r : Value} {o : Option V} {A : Around} {E : Value → Shared → Prop}
end
section
variable {X : Cx} {o e f : Expr} {apos cpos : Pos} {td ty tx : TE}
end
section
variable {X : Cx} {pins : List (Addr × Obj)} {σ : St} {H : Hp} {s : Shared} {a : Addr} {kvs : List (Key × V)} {A : Around} {E : Value → Shared → Prop}
end
section
variable {X : Cx} {pins : List (Addr × Obj)} {σ : St} {H : Hp} {s : Shared} {a : Addr} {y : V} {u : Value} {A : Around} {E : Value → Shared → Prop}
end
end L2
namespace L2
open PySem PySem.Spec PyProof.Rows
section
variable {prog : Program} {w : World} {A : Around} {E : Value → Shared → Prop}
end
section
variable {X : Cx}
end
end L2
namespace L2
open PySem PySem.Spec PyProof.Rows
section
variable {X : Cx} {pins : List (Addr × Obj)} {σ : St} {H : Hp} {s : Shared} {h' : Heap}
theorem Inv.turnedL {t' : Nat} {ch : List Addr} (I : Inv X pins σ H s) (k : ∀ b o, b ∉ ch → s.heap.get? b = some o → h'.get? b = some o) (hf : ∀ b ∈ ch, FpOk X pins H b) : Inv X pins σ H { s with heap := h', toks := t' } := by
  have nit : ∀ b u, H b = some u → b ∉ ch := fun b u e z => by
    have q := (hf b z).1
    rw [q] at e; cases e
  refine I.step (g' := s.gens) (d' := s.drawn) (ch := ch) (fun b hb => ⟨(hf b hb).2.2.2.1, (hf b hb).2.1, (hf b hb).2.2.2.2.1, (hf b hb).2.2.2.2.2⟩) (fun b o _ _ hc e _ => k b o hc e) (fun b o _ _ hc e _ => ⟨o.slots, k b o hc e⟩)
    (fun _ _ _ _ n => n) (fun b o hc e => ⟨o, k b o hc e⟩) (fun _ _ e => e) (fun _ _ _ e => e) (fun b ps e => ⟨#[], by rw [e]; simp⟩) (fun m hm => ?_) (fun b u e => ?_) I.bare
  · obtain ⟨o, es, ep, ho, r⟩ := hm
    exact ⟨o, es, ep, k _ o (fun z => (hf _ z).2.1 rfl) ho, r⟩
  · refine (I.hok b u e).stay (fun c v hc q => k c v ?_ q) (fun _ q => q) fun _ _ q => q
    rcases hc with z | z
    · rw [z]; exact nit b u e
    · exact nit c _ z
theorem Inv.turnedNew {t' : Nat} {ch : List Addr} {T : Addr} {ob : HO} (I : Inv X pins σ H s) (k : ∀ b o, b ∉ ch → s.heap.get? b = some o → h'.get? b = some o) (hf : ∀ b ∈ ch, FpOk X pins H b) (hT : s.heap.objs.size ≤ T)
    (new : ObjOk X.prog X.w (upd H T ob) h' T ob) : Inv X pins σ (upd H T ob) { s with heap := h', toks := t' } := by
  have hn : H T = none := I.hok.fresh hT
  have nit : ∀ b u, H b = some u → b ∉ ch := fun b u e z => by
    have q := (hf b z).1
    rw [q] at e; cases e
  refine I.step (g' := s.gens) (d' := s.drawn) (ch := ch) (fun b hb => ⟨(hf b hb).2.2.2.1, (hf b hb).2.1, (hf b hb).2.2.2.2.1, (hf b hb).2.2.2.2.2⟩) (fun b o _ _ hc e _ => k b o hc e) (fun b o _ _ hc e _ => ⟨o.slots, k b o hc e⟩)
    (fun b o _ e n => ?_) (fun b o hc e => ⟨o, k b o hc e⟩) (fun b xs e => ?_) (fun b o u e => ?_) (fun b ps e => ⟨#[], ?_⟩) (fun m hm => ?_) (fun b u e => ?_) I.bare
  · rw [upd_ne (Nat.ne_of_lt (Nat.lt_of_lt_of_le (Heap.lt_size e) hT))]; exact n
  · rw [upd_ne (ne_of_none e hn)]; exact e
  · rw [upd_ne (ne_of_none e hn)]; exact e
  · rw [upd_ne (ne_of_none e hn), e]; simp
  · obtain ⟨o, es, ep, ho, r⟩ := hm
    exact ⟨o, es, ep, k _ o (fun z => (hf _ z).2.1 rfl) ho, r⟩
  · by_cases hb : b = T
    · subst hb
      rw [upd_same] at e
      cases e
      exact new
    · rw [upd_ne hb] at e
      refine (I.hok b u e).stay (fun c v hc q => k c v ?_ q) (fun c q => by rw [upd_ne (ne_of_none q hn)]; exact q) fun c xs q => by rw [upd_ne (ne_of_none q hn)]; exact q
      rcases hc with z | z
      · rw [z]; exact nit b u e
      · exact nit c _ z
end
section
variable {X : Cx}
theorem pi_one {tg : Expr} {pins : List (Addr × Obj)} {σ : St} {H : Hp} {s : Shared} {R : It → Hp → Prop} {J : It} {tn : Nat → Heap → Prop} {tk : Nat} (I : Inv X pins σ H s) (o : Obj)
    (T : Turn X.prog X.w X.K tg J [s.heap.objs.size] s.heap.objs.size tn) (st : tn 0 (s.heap.push o)) (q : R J H) : PIE X pins σ tg R (.ref s.heap.objs.size) { s with heap := s.heap.push o, toks := tk } := by
  refine ⟨s.heap.objs.size, [s.heap.objs.size], tn, J, H, rfl, I.kept fun b ob e => Heap.get?_push_of_some _ e, T, st, fun b hb => ?_, q⟩
  have e : b = s.heap.objs.size := by simpa using hb
  subst e
  exact I.fpOk (Nat.le_refl _) (I.hok.fresh (Nat.le_refl _))
end
def Itc (lo c : Int) (n : Nat) : It := ⟨fun i _ => i < n, fun i H x H' => H' = H ∧ x = .int (lo + (i : Nat) * c), fun i _ => n ≤ i⟩
theorem turn_rangeC {P : Program} {w : World} {K : PySem.W.Frag} {tg : Expr} (it : Addr) (lo c : Int) (n : Nat) : Turn P w K tg (Itc lo c n) [it] it (fun i h => IsRangeIter h it (lo + (i : Nat) * c) ((n : Int) - (i : Nat)) c) where
  mem := by simp
  obj := fun i h st b hb => by
    have e : b = it := by simpa using hb
    subst e
    exact ⟨_, st, fun v z => nomatch z⟩
  keep := fun i h h' st k => k it (by simp) _ st
  item := by
    intro X hP hw hK hc i pins s σ H E I hf st hg
    subst hP hw hK
    obtain ⟨f0, f1, f2, f3, f4, f5⟩ := hf it (by simp)
    have W := Walks.range (prog := X.prog) (w := X.w) (I.ok.hd hc) it lo c n
    refine W.item i s _ _ hg st fun v h' tk hv st' kk => ?_
    obtain ⟨t, rfl⟩ := hv
    have I1 : Inv X pins σ H { s with heap := h', toks := tk } := I.turned (fun b o hb e => kk b o (by simpa using hb) e) f0 f1 f3 f4 f5
    exact ⟨_, rfl, go_of (s := { s with heap := h', toks := tk }) (n := "range_iterator") st' rfl rfl (by decide) ⟨.int (lo + (i : Nat) * c), H, I1, ⟨t, rfl⟩, ⟨rfl, rfl⟩, st', fun b hb => (hf b hb).1⟩⟩
  done := by
    intro X hP hw hK hc i pins s σ H E I hf st hg
    subst hP hw hK
    obtain ⟨f0, f1, f2, f3, f4, f5⟩ := hf it (by simp)
    exact wpAny_pyNext_range_end (I.ok.hd hc) st (by have : n ≤ i := hg; omega) fun h' eb => ⟨rfl, I.turned (t' := s.toks) (fun b o hb e => eb b o hb e) f0 f1 f3 f4 f5⟩
  self := fun A i s Q E st h => wpAny_pyIter_rangeiter st h
def RgC (i j c : Int) (n : Nat) : Prop := c ≠ 0 ∧ c.natAbs < 1073741824 ∧ Builtin.Range.small i j c = true ∧ Builtin.Range.rangeSize i j c = n
def iRng3 (ta : TA) : TI := fun σ H R => ta σ H fun vs H1 => ∃ (i j c : Int) (n : Nat), vs = [.int i, .int j, .int c] ∧ RgC i j c n ∧ R (Itc i c n) H1
section
variable {X : Cx} {tg : Expr}
theorem pi_range3 {a b c : Expr} {ta : TA} {p pos : Pos} (hg : Gl X "range") (hm : X.mg "range" = none) (ha : PA X [a, b, c] ta)
    (hs : starEach [a, b, c] X.env = (false, eval a X.env) :: starEach [b, c] X.env := by rfl) (hpl : (backTo pos (starEach [b, c] X.env)).any (·.1) = false := by rfl) :
    PI X tg (.Call (.Name "range" p) [a, b, c] [] pos) (iRng3 ta) := by
  intro pins s σ H R I h
  refine Call_ (ld_blt I hg hm boot_range (PyProof.Rows.callWith_type1 (thn (ha pos pins s σ H _ I h) fun us s1 ⟨vs, H1, I1, r1, q1⟩ => ?_) hs hpl))
  obtain ⟨i, j, k, n, e, ⟨c0, c1, c2, c3⟩, q⟩ := q1
  subst e
  cases r1 with
  | cons r rr =>
    cases rr with
    | cons r' rr =>
      cases rr with
      | cons r'' rr =>
        cases rr
        obtain ⟨t, rfl⟩ := r
        obtain ⟨t', rfl⟩ := r'
        obtain ⟨t'', rfl⟩ := r''
        refine call_range_3 c0 ?_ (.inl (PyProof.noPylong_small c1))
        refine wpAny_pyIter_range (IsRange.new ..) c2 ?_
        have I2 : Inv X pins σ H1 { s1 with heap := s1.heap.push { cls := .type "range", data := .fields #[.int i t, .int j t', .int k t''] } } := I1.kept (t' := s1.toks) fun b o e => Heap.get?_push_of_some _ e
        refine pi_one (tk := s1.toks) I2 _ (turn_rangeC _ i k n) ?_ q
        have e1 : i + ((0 : Nat) : Int) * k = i := by simp
        have e2 : (n : Int) - ((0 : Nat) : Int) = Builtin.Range.rangeSize i j k := by rw [c3]; simp
        show IsRangeIter _ _ (i + ((0 : Nat) : Int) * k) ((n : Int) - ((0 : Nat) : Int)) k
        rw [e1, e2]
        exact Heap.get?_push_size _ rfl
end
section
variable {X : Cx} {tg : Expr}
end
section
variable {prog : Program} {w : World} {A : Around} {E : Value → Shared → Prop} {s : Shared}
end
section
variable {X : Cx} {pins : List (Addr × Obj)} {σ : St} {H : Hp} {s : Shared} {d : Addr} {o : Obj}
end
section
variable {P : Program} {w : World} {K : PySem.W.Frag} {tg : Expr} {d : Addr} {o : Obj} {es : Array DictEntry} {ep : Nat}
end
section
variable {X : Cx} {tg e : Expr} {td : TE} {apos cpos : Pos}
end
def Ite (K : PySem.W.Frag) (a : Addr) : It :=
  ⟨fun i H => ∃ (xs : List V) (x : V), SqL K H a xs ∧ xs[i]? = some x, fun i H v H' => ∃ T x, v = .ref T ∧ H T = none ∧ H' = upd H T (.tup [.int (i : Nat), x]) ∧ ∀ xs, SqL K H a xs → xs[i]? = some x, fun i H => ∃ xs : List V, SqL K H a xs ∧ xs.length ≤ i⟩
theorem turn_enum {P : Program} {w : World} {K : PySem.W.Frag} {elts : List Expr} {kk : Nat} {tpos : Pos} (a e it : Addr) :
    Turn P w K (.Tuple elts kk tpos) (Ite K a) [e, it] e (fun i h => (∃ old, IsEnum h e it ((i : Nat) : Int) old) ∧ h.IsListIter it a i ∧ e ≠ it) where
  mem := by simp
  obj := fun i h st b hb => by
    obtain ⟨⟨old, he⟩, ⟨o, ho, hc, hd⟩, _⟩ := st
    have e' : b = e ∨ b = it := by simpa using hb
    rcases e' with z | z
    · rw [z]; exact ⟨_, he, fun v q => nomatch q⟩
    · rw [z]; exact ⟨o, ho, fun v q => by rw [hd] at q; cases q⟩
  keep := fun i h h' st k => let ⟨⟨old, he⟩, hi, hne⟩ := st; ⟨⟨old, k e (by simp) _ he⟩, hi.at fun o q => k it (by simp) o q, hne⟩
  item := by
    intro X hP hw hK hc i pins s σ H E I hf st hg
    subst hP hw hK
    obtain ⟨⟨old, he⟩, hit, hne⟩ := st
    obtain ⟨xs, x, hq, hx⟩ := hg
    obtain ⟨its, rv, p, hz⟩ := I.list hq
    obtain ⟨u, hu, ru⟩ := rv.get hx
    have hel : e < s.heap.objs.size := Heap.lt_size he
    have hil : it < s.heap.objs.size := by obtain ⟨_, q, _⟩ := hit; exact Heap.lt_size q
    refine wpAny_pyNext_enum_item he hit p.isList (x := u) (by simpa using hu) hne fun h' ho hit' hT hsz hk => ?_
    refine ⟨_, rfl, wpAny_letOwnedTupleGo_enum (s := { s with heap := h', toks := s.toks + 1 }) ho fun h'' he' sb => ?_⟩
    have hT2 : h''.get? s.heap.objs.size = some { cls := .type "tuple", data := .seq #[.int i s.toks, u] } := (sb.2 _ (Nat.ne_of_gt hel)).trans hT
    have new : ObjOk X.prog X.w (upd H s.heap.objs.size (.tup [.int (i : Nat), x])) h'' s.heap.objs.size (.tup [.int (i : Nat), x]) :=
      ⟨by show 2 ≤ sizeLine; decide, [.int i s.toks, u], .cons ⟨_, rfl⟩ (.cons ru .nil), ⟨_, hT2, rfl, _, rfl⟩⟩
    have I1 : Inv X pins σ (upd H s.heap.objs.size (.tup [.int (i : Nat), x])) { s with heap := h'', toks := s.toks + 1 } :=
      I.turnedNew (ch := [e, it]) (fun b ob hb q => (sb.2 b (fun z => hb (by simp [z]))).trans (hk b ob (fun z => hb (by simp [z])) (fun z => hb (by simp [z])) q)) hf (Nat.le_refl _) new
    refine ⟨.ref s.heap.objs.size, _, I1, rfl, ⟨_, x, rfl, I.hok.fresh (Nat.le_refl _), rfl, fun ys hy => by rw [I.list_inj hy hq]; exact hx⟩, ⟨⟨u, ?_⟩, hit'.at fun o q => (sb.2 it (Ne.symm hne)).trans q, hne⟩, fun b hb => ?_⟩
    · have e1 : ((i + 1 : Nat) : Int) = (i : Int) + 1 := by omega
      rw [e1]; exact he'
    · have hb' : b < s.heap.objs.size := by
        have e' : b = e ∨ b = it := by simpa using hb
        rcases e' with z | z
        · rw [z]; exact hel
        · rw [z]; exact hil
      rw [upd_ne (Nat.ne_of_lt hb')]
      exact (hf b hb).1
  done := by
    intro X hP hw hK hc i pins s σ H E I hf st hg
    subst hP hw hK
    obtain ⟨⟨old, he⟩, hit, hne⟩ := st
    obtain ⟨xs, hq, hx⟩ := hg
    obtain ⟨its, rv, p, hz⟩ := I.list hq
    obtain ⟨f0, f1, f2, f3, f4, f5⟩ := hf it (by simp)
    have hl := rv.length
    exact wpAny_pyNext_enum_end (I.ok.hd hc) he hit p.isList (by simp; omega) fun h' eb => ⟨rfl, I.turned (t' := s.toks) (fun b o hb q => eb b o hb q) f0 f1 f3 f4 f5⟩
  self := fun A i s Q E st h => let ⟨⟨_, he⟩, _⟩ := st; wpAny_pyIter_enum he h
def iEnum (K : PySem.W.Frag) (ta : TA) : TI := fun σ H R => ta σ H fun vs H1 => ∃ a xs, vs = [.ref a] ∧ SqL K H1 a xs ∧ R (Ite K a) H1
theorem pi_enum {X : Cx} {e : Expr} {ta : TA} {p pos tpos : Pos} {elts : List Expr} {kk : Nat} (hg : Gl X "enumerate") (hm : X.mg "enumerate" = none) (ha : PA X [e] ta) (hs : starEach [e] X.env = [(false, eval e X.env)] := by rfl) :
    PI X (.Tuple elts kk tpos) (.Call (.Name "enumerate" p) [e] [] pos) (iEnum X.K ta) := by
  intro pins s σ H R I h
  refine Call_ (ld_blt I hg hm boot_enumerate (PyProof.Rows.callWith_type1 (thn (ha pos pins s σ H _ I h) fun us s1 ⟨vs, H1, I1, r1, q1⟩ => ?_) hs rfl))
  obtain ⟨a, xs, ex, hq, q⟩ := q1
  subst ex
  cases r1 with
  | cons r rr =>
    cases rr
    cases r
    obtain ⟨its, rv, p', hz⟩ := I1.list hq
    refine call_enumerate_list p'.isList fun h' he hit hsz hk => wpAny_pyIter_enum he ?_
    have I2 : Inv X pins σ H1 { s1 with heap := h' } := I1.kept (t' := s1.toks) hk
    refine ⟨s1.heap.objs.size + 1, [s1.heap.objs.size + 1, s1.heap.objs.size], _, _, H1, rfl, I2, turn_enum a (s1.heap.objs.size + 1) s1.heap.objs.size, ⟨⟨.none, he⟩, hit, Nat.succ_ne_self _⟩, fun b hb => ?_, q⟩
    have e' : b = s1.heap.objs.size + 1 ∨ b = s1.heap.objs.size := by simpa using hb
    have hle : s1.heap.objs.size ≤ b := by
      rcases e' with z | z
      · rw [z]; exact Nat.le_add_right _ _
      · rw [z]; exact Nat.le_refl _
    exact I1.fpOk hle (I1.hok.fresh hle)
theorem boot_zip5 : bootBuiltins "zip" = some (.type "zip") := by decide +kernel
end L2
section 
namespace Bits
open PySem PyProof.Rows
end Bits
end 
section 
namespace TL
open PySem PySem.Builtin PySem.Builtin.Str PySem.StrLaws
end TL
end 
namespace L2
open PySem PySem.Spec PyProof.Rows
section
variable {X : Cx} {pins : List (Addr × Obj)} {σ : St} {H : Hp} {s : Shared} {Q : VK}
end
section
variable {X : Cx}
end
section
variable {X : Cx} {o e : Expr} {to te : TE}
end
end L2
namespace L2
open PySem PySem.Spec PyProof.Rows
section
variable {X : Cx}
end
end L2
namespace Att
open PySem PySem.W PySem.Calls PyProof.Rows
section
variable {prog : Program} {w : World} {A : Around} {E : Value → Shared → Prop} {s : Shared} {K : Frag}
end
end Att
namespace L2
open PySem PySem.Spec PyProof.Rows
end L2
namespace L2
open PySem PySem.Spec PyProof.Rows
end L2
namespace L2
open PySem PySem.Spec PyProof.Rows
def inClass (s : Stmt) (j : Nat) : Stmt := match s with
  | .ClassDef _ _ _ body _ _ _ _ _ _ _ => body.getD j (.Pass ⟨0, 0, 0, 0⟩)
  | _ => .Pass ⟨0, 0, 0, 0⟩
def defArgs (s : Stmt) : Arguments := match s with
  | .FunctionDef _ a _ _ _ _ _ _ _ _ => a
  | _ => { posonlyargs := [], args := [], vararg := none, kwonlyargs := [], kw_defaults := [], kwarg := none, defaults := [] }
def defBody (s : Stmt) : List Stmt := match s with
  | .FunctionDef _ _ b _ _ _ _ _ _ _ => b
  | _ => []
def defScope (s : Stmt) : Scope := match s with
  | .FunctionDef _ _ _ _ _ _ sc _ _ _ => sc
  | _ => { kind := .function, names := [], isGenerator := false, isCoroutine := false }
abbrev CX0 : CXT := fun _ _ _ _ _ _ => False
abbrev E0 : XK := fun _ _ _ => False
theorem pass0 {X : Cx} : Passes CX0 X E0 := fun _ _ _ _ _ _ _ h => h.elim
structure Fun (K : PySem.W.Frag) (x qual : Str) (st : Stmt) (f : Addr) (fd : FuncData) : Prop where
  ex : ∃ (oc : Value) (od : Option Addr) (kV doc pm : Value) (an : Option Addr) (cdv ct : Value) (osl : Array (Option Value)),
    fd = PySem.W.fnOf x qual (defArgs st) (defBody st) (defScope st) .none kV doc pm an cdv ct ∧ K.lookup f = some ⟨oc, od, .func fd, osl⟩ ∧ PySem.W.codeIn K cdv qual = true
  kp : PySem.W.keepIn K (.ref f) = true
section
variable {P : Program} {w : World} {K : PySem.W.Frag} {mg : Str → Option Value} {base : Heap}
theorem Fun.ok {x qual : Str} {st : Stmt} {f : Addr} {fd : FuncData} {N ps : List Str} {k : Nat} {sp : Sp} (F : Fun K x qual st f fd) (S : FnScope N ps (defScope st)) (len : ∀ vs H Q E, sp vs H Q E → vs.length = ps.length)
    (hbody : ∀ (cdv : Value) (A : Around) (outer : List Env) (s : Shared) (H : Hp) (vs : List V) (Q : VK) (E : XK), Room k (A.deeper (envOfC qual (defScope st) s.heap.objs.size f cdv)) → sp vs H Q E →
      ∃ t, PSs (cxOf CX0 P w K mg base N qual (defScope st) f cdv A outer s H E).nox (defBody st) t ∧ t { nx := fun _ H' => Q .non H', rt := Q } (start N vs) H) : FnOk P w K mg base CX0 (k + 1) f fd ps sp := by
  obtain ⟨oc, od, kV, doc, pm, an, cdv, ct, osl, rfl, lk, hcd⟩ := F.ex
  refine fn_of lk hcd S len fun A outer s H vs Q E hr hsp => ?_
  obtain ⟨t, h, q⟩ := hbody cdv A outer s H vs Q E hr hsp
  exact ⟨t, h.nox, q⟩
theorem Fun.binds {x qual : Str} {st : Stmt} {f : Addr} {fd : FuncData} {ps : List Str} (F : Fun K x qual st f fd)
    (h : ∀ (kV doc pm : Value) (an : Option Addr) (cdv ct : Value) (us : List Value), us.length = ps.length → bindArgs (PySem.W.fnOf x qual (defArgs st) (defBody st) (defScope st) .none kV doc pm an cdv ct) ⟨us, []⟩ = pure (ps.zip us)) : Binds K fd ps [] := by
  obtain ⟨oc, od, kV, doc, pm, an, cdv, ct, osl, rfl, lk, hcd⟩ := F.ex
  exact .all (h kV doc pm an cdv ct)
theorem fun_mk {x qual : Str} {st : Stmt} {f : Addr} {oc : Value} {od an : Option Addr} {osl : Array (Option Value)} {kV doc pm cdv ct : Value} (l : K.lookup f = some ⟨oc, od, .func (PySem.W.fnOf x qual (defArgs st) (defBody st) (defScope st) .none kV doc pm an cdv ct), osl⟩)
    (c : PySem.W.codeIn K cdv qual = true) (k : PySem.W.keepIn K (.ref f) = true) : Fun K x qual st f (PySem.W.fnOf x qual (defArgs st) (defBody st) (defScope st) .none kV doc pm an cdv ct) := ⟨⟨oc, od, kV, doc, pm, an, cdv, ct, osl, rfl, l, c⟩, k⟩
end
section
variable {X : Cx}
theorem pv (i : Nat) {x : Str} {pos : Pos} (hN : X.N[i]? = some x := by rfl) (hv : Vis X.env.scope x := by first | exact Or.inl rfl | exact Or.inr (Or.inl rfl) | exact Or.inr (Or.inr rfl)) (hd : (x == ("__debug__" : Str)) = false := by decide)
    (hcd : (x == ("__classdict__" : Str)) = false := by decide) : PE X (.Name x pos) (tVar i) := pe_var hN hv hd hcd
end
theorem iteF {A B : Prop} (h : B) : if false = true then A else B := by
  rw [if_neg Bool.false_ne_true]
  exact h
theorem iteT {A B : Prop} (h : A) : if true = true then A else B := by
  rw [if_pos rfl]
  exact h
theorem ite2 {c A B : Prop} [Decidable c] (h1 : c → A) (h2 : ¬ c → B) : if c then A else B := by
  by_cases h : c
  · rw [if_pos h]
    exact h1 h
  · rw [if_neg h]
    exact h2 h
def Same (H H' : Hp) : Prop := ∀ b o, H b = some o → H' b = some o
theorem Same.refl (H : Hp) : Same H H := fun _ _ h => h
theorem Same.trans {H H1 H2 : Hp} (a : Same H H1) (b : Same H1 H2) : Same H H2 := fun c o h => b c o (a c o h)
theorem Same.free {H H' : Hp} (e : Same H H') {l : Addr} (h : H' l = Option.none) : H l = Option.none := by
  cases q : H l with
  | none => rfl
  | some o =>
    rw [e l o q] at h
    cases h
theorem Same.seq {K : PySem.W.Frag} {H H' : Hp} {a : Addr} {xs : List V} (e : Same H H') (h : SqL K H a xs) : SqL K H' a xs := by
  rcases h with (h | ⟨o, h⟩) | h
  · exact .inl (.inl (e _ _ h))
  · exact .inl (.inr ⟨o, e _ _ h⟩)
  · exact .inr h
section
variable {κ : Type} [DecidableEq κ]
end
theorem at_of {xs : List V} {z : Int} {j : Nat} {v : V} (e : z = (j : Int)) (h : xs[j]? = some v) : atI xs z = some v := by
  rw [e]
  exact atI_nat h
theorem Same.made {H H1 : Hp} {x dx C : Addr} (nx : H x = Option.none) (nd : H dx = Option.none) (k : ∀ b o, (upd (upd H dx (.own x)) x (.ins C dx [])) b = some o → b ≠ x → H1 b = some o) : Same H H1 := fun b o e =>
  k b o (by rw [upd_ne (ne_of_none e nx), upd_ne (ne_of_none e nd)]; exact e) (ne_of_none e nx)
end L2
section
set_option Elab.async false
set_option linter.all false
set_option maxRecDepth 100000
set_option maxHeartbeats 2000000
namespace L2
open PySem PySem.Spec PyProof.Rows
open PySem.W (WData Codec OpenSpec Well WellAll ReadsW ReadsAllW)
mutual
inductive Dw (K : PySem.W.Frag) (H : Hp) : V → WData → Prop
  | non : Dw K H .non .none
  | bl (b : Bool) : Dw K H (.bl b) (.bool b)
  | int (i : Int) : Dw K H (.int i) (.int i)
  | str (x : Str) : Dw K H (.str x) (.str x)
  | byt (b : Array UInt8) : Dw K H (.byt b) (.bytes b.toList)
  | lst {a : Addr} {xs : List V} {ds : List WData} : SqL K H a xs → DwAll K H xs ds → Dw K H (.ref a) (.list ds)
  | tup {a : Addr} {xs : List V} {ds : List WData} : SqT K H a xs → DwAll K H xs ds → Dw K H (.ref a) (.tuple ds)
inductive DwAll (K : PySem.W.Frag) (H : Hp) : List V → List WData → Prop
  | nil : DwAll K H [] []
  | cons {v : V} {vs : List V} {d : WData} {ds : List WData} : Dw K H v d → DwAll K H vs ds → DwAll K H (v :: vs) (d :: ds)
end
theorem dw_ints {K : PySem.W.Frag} {H : Hp} : ∀ ns : List Int, DwAll K H (ns.map V.int) (ns.map WData.int)
  | [] => .nil
  | n :: r => .cons (.int n) (dw_ints r)
theorem ints_dw {K : PySem.W.Frag} {H : Hp} : ∀ (ns : List Int) (xs : List V), DwAll K H xs (ns.map WData.int) → xs = ns.map V.int
  | [], xs, h => by
    cases h
    rfl
  | n :: r, xs, h => by
    cases h with
    | cons h1 h2 =>
      cases h1
      rw [ints_dw r _ h2] <;> rfl
section
variable {P : Program} {w : World} {K : PySem.W.Frag} {H : Hp} {h : Heap} {R : PySem.W.WRecords} {cl : Str → Option Addr}
theorem sqL_at {a : Addr} {xs : List V} (hok : HOk P w H h) (KX : K.In h) (q : SqL K H a xs) : ∃ (its : List Value) (o : Obj) (n : Nat), Vals xs its ∧ h.get? a = some o ∧ o.cls = .type "list" ∧ o.data = .seq its.toArray n := by
  rcases q with q | ⟨o, its, n, e, hc, _, hd, _, hv⟩
  · obtain ⟨_, its, n, hv, e⟩ := (show ObjOk P w H h a (.lst xs) from q.ok hok)
    exact ⟨its, _, n, hv, e, rfl, rfl⟩
  · exact ⟨its.toList, o, n, hv, KX _ _ e, hc, by simp [hd]⟩
theorem sqT_at {a : Addr} {xs : List V} (hok : HOk P w H h) (KX : K.In h) (q : SqT K H a xs) : ∃ (its : List Value) (o : Obj) (n : Nat), Vals xs its ∧ h.get? a = some o ∧ o.cls = .type "tuple" ∧ o.data = .seq its.toArray n := by
  rcases q with q | ⟨o, its, n, e, hc, hd, _, hv⟩
  · obtain ⟨_, its, hv, o, e, hc, n, hd⟩ := (show ObjOk P w H h a (.tup xs) from q.ok hok)
    exact ⟨its, o, n, hv, e, hc, hd⟩
  · exact ⟨its.toList, o, n, hv, KX _ _ e, hc, by simp [hd]⟩
mutual
theorem Dw.reads (hok : HOk P w H h) (KX : K.In h) : ∀ (d : WData) (v : V) (u : Value), Dw K H v d → RelV v u → ∃ as, ReadsW R cl h u d as
  | .none, _, _, x, r => by
    cases x
    cases r
    exact ⟨_, ReadsW.none⟩
  | .bool b, _, _, x, r => by
    cases x
    cases r
    exact ⟨_, ReadsW.bool b⟩
  | .int i, _, _, x, r => by
    cases x
    obtain ⟨t, rfl⟩ := r
    exact ⟨_, ReadsW.int i t⟩
  | .str s, _, _, x, r => by
    cases x
    obtain ⟨t, rfl⟩ := r
    exact ⟨_, ReadsW.str s t⟩
  | .bytes b, _, _, x, r => by
    cases x
    obtain ⟨t, rfl⟩ := r
    exact ⟨_, ReadsW.bytes _ t⟩
  | .list ds, _, _, x, r => by
    cases x with
    | lst hs ha =>
      cases r
      obtain ⟨its, o, n, rv, ho, hc, hd⟩ := sqL_at hok KX hs
      obtain ⟨as, hr⟩ := Dw.readsAll hok KX ds _ its ha rv
      exact ⟨_, ReadsW.list ho hc hd hr⟩
  | .tuple ds, _, _, x, r => by
    cases x with
    | tup hs ha =>
      cases r
      obtain ⟨its, o, n, rv, ho, hc, hd⟩ := sqT_at hok KX hs
      obtain ⟨as, hr⟩ := Dw.readsAll hok KX ds _ its ha rv
      exact ⟨_, ReadsW.tuple ho hc hd hr⟩
  | .float _, _, _, x, _ => by cases x
  | .dict _, _, _, x, _ => by cases x
  | .bytearray _, _, _, x, _ => by cases x
  | .set _, _, _, x, _ => by cases x
  | .frozenset _, _, _, x, _ => by cases x
  | .obj _ _, _, _, x, _ => by cases x
theorem Dw.readsAll (hok : HOk P w H h) (KX : K.In h) : ∀ (ds : List WData) (vs : List V) (us : List Value), DwAll K H vs ds → Vals vs us → ∃ as, ReadsAllW R cl h us ds as
  | [], _, _, x, r => by
    cases x
    cases r
    exact ⟨_, ReadsAllW.nil⟩
  | d :: ds, _, _, x, r => by
    cases x with
    | cons h1 h2 =>
      cases r with
      | cons r1 r2 =>
        obtain ⟨as, q1⟩ := Dw.reads hok KX d _ _ h1 r1
        obtain ⟨bs, q2⟩ := Dw.readsAll hok KX ds _ _ h2 r2
        exact ⟨_, ReadsAllW.cons q1 q2⟩
end
end
mutual
def plW : WData → Bool
  | .none => true
  | .bool _ => true
  | .int _ => true
  | .str _ => true
  | .bytes _ => true
  | .list xs => plWs xs
  | .tuple xs => plWs xs
  | _ => false
def plWs : List WData → Bool
  | [] => true
  | x :: r => plW x && plWs r
end
theorem plWs_map {α : Type} {f : α → WData} (h : ∀ a, plW (f a) = true) : ∀ l : List α, plWs (l.map f) = true
  | [] => rfl
  | x :: r => by
    show (plW (f x) && plWs (r.map f)) = true
    rw [h x, plWs_map h r] <;> rfl
theorem pl_enc : ∀ (c : Codec) (a : c.denote), plW (c.enc a) = true
  | .unit, _ => rfl
  | .bool, _ => rfl
  | .int _ _, _ => rfl
  | .nat _ _, _ => rfl
  | .u8, _ => rfl
  | .bytes _ _, _ => rfl
  | .text _ _ _ _, _ => rfl
  | .list _ _ c, a => plWs_map (fun x => pl_enc c x) a
  | .pair c d, a => by
    show (plW (c.enc a.1) && (plW (d.enc a.2) && true)) = true
    rw [pl_enc c a.1, pl_enc d a.2] <;> rfl
  | .triple c d e, a => by
    show (plW (c.enc a.1) && (plW (d.enc a.2.1) && (plW (e.enc a.2.2) && true))) = true
    rw [pl_enc c a.1, pl_enc d a.2.1, pl_enc e a.2.2] <;> rfl
  | .option c, none => rfl
  | .option c, some x => pl_enc c x
theorem pl_encAll : ∀ (cs : List Codec) (a : Codec.denoteAll cs), plWs (Codec.encAll cs a) = true
  | [], _ => rfl
  | c :: cs, a => by
    show (plW (c.enc a.1) && plWs (Codec.encAll cs a.2)) = true
    rw [pl_enc c a.1, pl_encAll cs a.2] <;> rfl
theorem weight_mem : ∀ {xs : List WData} {d : WData}, d ∈ xs → d.weight ≤ WData.weightAll xs
  | [], d, h => absurd h (by simp)
  | x :: r, d, h => by
    show d.weight ≤ x.weight + 1 + WData.weightAll r
    rcases List.mem_cons.mp h with e | m
    · rw [e]
      omega
    · have z := weight_mem m
      omega
def toV : Value → V
  | .none => .non
  | .bool b => .bl b
  | .int i _ => .int i
  | .str x _ => .str x
  | .bytes b _ => .byt b
  | .ref a => .ref a
  | _ => .non
def OkU (A : List Addr) : Value → Prop
  | .none => True
  | .bool _ => True
  | .int _ _ => True
  | .str _ _ => True
  | .bytes _ _ => True
  | .ref a => a ∈ A
  | _ => False
theorem OkU.mono {A B : List Addr} (h : ∀ a ∈ A, a ∈ B) : ∀ {u : Value}, OkU A u → OkU B u := fun {u} x => by
  cases u with
  | ref a => exact h a x
  | none => trivial
  | bool b => trivial
  | int i t => trivial
  | str s t => trivial
  | bytes b t => trivial
  | _ => exact False.elim x
theorem relV_toV {A : List Addr} {u : Value} (x : OkU A u) : RelV (toV u) u := by
  cases u with
  | ref a => rfl
  | none => rfl
  | bool b => rfl
  | int i t => exact ⟨t, rfl⟩
  | str s t => exact ⟨t, rfl⟩
  | bytes b t => exact ⟨t, rfl⟩
  | _ => exact False.elim x
theorem vals_toV {A : List Addr} : ∀ {vs : List Value}, (∀ u ∈ vs, OkU A u) → Vals (vs.map toV) vs
  | [], _ => .nil
  | u :: r, h => .cons (relV_toV (h u (List.mem_cons_self ..))) (vals_toV fun x hx => h x (List.mem_cons_of_mem _ hx))
def ArgOb (h : Heap) (A : List Addr) (a : Addr) : Prop := ∃ vs : List Value, vs.length ≤ sizeLine ∧ (∀ u ∈ vs, OkU A u) ∧
  (h.get? a = some { cls := .type "list", data := .seq vs.toArray } ∨ h.get? a = some { cls := .type "tuple", data := .seq vs.toArray })
theorem ArgOb.mono {h : Heap} {A B : List Addr} {a : Addr} (k : ∀ a ∈ A, a ∈ B) (x : ArgOb h A a) : ArgOb h B a := by
  obtain ⟨vs, h1, h2, h3⟩ := x
  exact ⟨vs, h1, fun u hu => (h2 u hu).mono k, h3⟩
theorem wellAll_len {P : Params} {h : Heap} : ∀ {vs : List Value} {ds : List WData}, WellAll P h vs ds → vs.length = ds.length
  | _, _, .nil => rfl
  | _, _, .cons _ b => by
    show _ + 1 = _ + 1
    rw [wellAll_len b]
theorem well_list {P : Params} {h : Heap} {v : Value} {ds : List WData} (x : Well P h v (.list ds)) : ∃ (a : Addr) (vs : List Value), v = .ref a ∧ h.get? a = some { cls := .type "list", data := .seq vs.toArray } ∧ WellAll P h vs ds := by
  cases x with
  | list ho hall => exact ⟨_, _, rfl, ho, hall⟩
theorem well_tuple {P : Params} {h : Heap} {v : Value} {ds : List WData} (x : Well P h v (.tuple ds)) : ∃ (a : Addr) (vs : List Value), v = .ref a ∧ h.get? a = some { cls := .type "tuple", data := .seq vs.toArray } ∧ WellAll P h vs ds := by
  cases x with
  | tuple ho hall => exact ⟨_, _, rfl, ho, hall⟩
theorem well_cons {P : Params} {h : Heap} {us : List Value} {d : WData} {ds : List WData} (x : WellAll P h us (d :: ds)) : ∃ (v : Value) (vs : List Value), us = v :: vs ∧ Well P h v d ∧ WellAll P h vs ds := by
  cases x with
  | cons a b => exact ⟨_, _, rfl, a, b⟩
theorem line_of {n : Nat} (h : n ≤ 1048576) : n ≤ sizeLine := Nat.le_trans h (by decide)
section
variable {P : Params} {h : Heap}
mutual
theorem area_one : ∀ (d : WData) (v : Value), Well P h v d → plW d = true → d.weight ≤ 1048576 → ∃ A : List Addr, OkU A v ∧ ∀ a ∈ A, ArgOb h A a
  | .none, _, x, _, _ => by
    cases x
    exact ⟨[], trivial, fun a m => absurd m (by simp)⟩
  | .bool b, _, x, _, _ => by
    cases x
    exact ⟨[], trivial, fun a m => absurd m (by simp)⟩
  | .int i, _, x, _, _ => by
    cases x
    exact ⟨[], trivial, fun a m => absurd m (by simp)⟩
  | .str s, _, x, _, _ => by
    cases x
    exact ⟨[], trivial, fun a m => absurd m (by simp)⟩
  | .bytes b, _, x, _, _ => by
    cases x
    exact ⟨[], trivial, fun a m => absurd m (by simp)⟩
  | .list ds, _, x, p, z => by
    obtain ⟨a, vs, rfl, ho, hall⟩ := well_list x
    have z2 : WData.weightAll ds ≤ 1048576 := z
    obtain ⟨A, h1, h2⟩ := area_all ds _ hall p fun d hd => Nat.le_trans (weight_mem hd) z2
    have k : ∀ b ∈ A, b ∈ a :: A := fun b hb => List.mem_cons_of_mem _ hb
    refine ⟨a :: A, List.mem_cons_self .., fun b hb => ?_⟩
    rcases List.mem_cons.mp hb with e | m
    · rw [e]
      exact ⟨vs, line_of (by rw [wellAll_len hall]; exact Nat.le_trans (PySem.W.length_le_weightAllW ds) z2), fun u hu => (h1 u hu).mono k, .inl ho⟩
    · exact (h2 b m).mono k
  | .tuple ds, _, x, p, z => by
    obtain ⟨a, vs, rfl, ho, hall⟩ := well_tuple x
    have z2 : WData.weightAll ds ≤ 1048576 := z
    obtain ⟨A, h1, h2⟩ := area_all ds _ hall p fun d hd => Nat.le_trans (weight_mem hd) z2
    have k : ∀ b ∈ A, b ∈ a :: A := fun b hb => List.mem_cons_of_mem _ hb
    refine ⟨a :: A, List.mem_cons_self .., fun b hb => ?_⟩
    rcases List.mem_cons.mp hb with e | m
    · rw [e]
      exact ⟨vs, line_of (by rw [wellAll_len hall]; exact Nat.le_trans (PySem.W.length_le_weightAllW ds) z2), fun u hu => (h1 u hu).mono k, .inr ho⟩
    · exact (h2 b m).mono k
  | .float _, _, _, p, _ => Bool.noConfusion (show false = true from p)
  | .dict _, _, _, p, _ => Bool.noConfusion (show false = true from p)
  | .bytearray _, _, _, p, _ => Bool.noConfusion (show false = true from p)
  | .set _, _, _, p, _ => Bool.noConfusion (show false = true from p)
  | .frozenset _, _, _, p, _ => Bool.noConfusion (show false = true from p)
  | .obj _ _, _, _, p, _ => Bool.noConfusion (show false = true from p)
theorem area_all : ∀ (ds : List WData) (vs : List Value), WellAll P h vs ds → plWs ds = true → (∀ d ∈ ds, d.weight ≤ 1048576) → ∃ A : List Addr, (∀ u ∈ vs, OkU A u) ∧ ∀ a ∈ A, ArgOb h A a
  | [], _, x, _, _ => by
    cases x
    exact ⟨[], fun u m => absurd m (by simp), fun a m => absurd m (by simp)⟩
  | d :: ds, _, x, p, z => by
    obtain ⟨v, vs, rfl, x1, x2⟩ := well_cons x
    have q : plW d = true ∧ plWs ds = true := Bool.and_eq_true_iff.mp p
    obtain ⟨A, a1, a2⟩ := area_one d v x1 q.1 (z d (List.mem_cons_self ..))
    obtain ⟨B, b1, b2⟩ := area_all ds vs x2 q.2 fun e he => z e (List.mem_cons_of_mem _ he)
    have kA : ∀ b ∈ A, b ∈ A ++ B := fun b hb => List.mem_append.mpr (.inl hb)
    have kB : ∀ b ∈ B, b ∈ A ++ B := fun b hb => List.mem_append.mpr (.inr hb)
    refine ⟨A ++ B, fun u hu => ?_, fun b hb => ?_⟩
    · rcases List.mem_cons.mp hu with e | m
      · rw [e]
        exact a1.mono kA
      · exact (b1 u m).mono kB
    · rcases List.mem_append.mp hb with m | m
      · exact (a2 b m).mono kA
      · exact (b2 b m).mono kB
end
end
def hoOf (o : Obj) : Option HO := match o.data with
  | .seq vs _ => if (o.cls == Value.type "list") = true then some (.frz o (.lst (vs.toList.map toV))) else some (.frz o (.tup (vs.toList.map toV)))
  | _ => none
def argH (K : PySem.W.Frag) (h : Heap) (A : List Addr) : Hp := fun b => if b ∈ A then (if (K.lookup b).isNone = true then (h.get? b).bind hoOf else none) else none
def OnlyF (H : Hp) : Prop := ∀ b, H b = none ∨ ∃ o u, H b = some (.frz o u)
theorem hoOf_lst (vs : List Value) : hoOf { cls := .type "list", data := .seq vs.toArray } = some (.frz { cls := .type "list", data := .seq vs.toArray } (.lst (vs.map toV))) := by
  show (if (Value.type "list" == Value.type "list") = true then some (HO.frz { cls := .type "list", data := .seq vs.toArray } (.lst (vs.toArray.toList.map toV))) else some (HO.frz { cls := .type "list", data := .seq vs.toArray } (.tup (vs.toArray.toList.map toV)))) = _
  rw [if_pos (beq_self_eq_true _)]
theorem hoOf_tup (vs : List Value) : hoOf { cls := .type "tuple", data := .seq vs.toArray } = some (.frz { cls := .type "tuple", data := .seq vs.toArray } (.tup (vs.map toV))) := by
  show (if (Value.type "tuple" == Value.type "list") = true then some (HO.frz { cls := .type "tuple", data := .seq vs.toArray } (.lst (vs.toArray.toList.map toV))) else some (HO.frz { cls := .type "tuple", data := .seq vs.toArray } (.tup (vs.toArray.toList.map toV)))) = _
  rw [if_neg (by decide)]
section
variable {P : Program} {w : World} {K : PySem.W.Frag} {h : Heap} {A : List Addr}
theorem argH_at {b : Addr} {o : Obj} (hb : b ∈ A) (hk : K.lookup b = none) (e : h.get? b = some o) : argH K h A b = hoOf o := by
  unfold argH
  rw [if_pos hb, hk, if_pos (show (none : Option Obj).isNone = true from rfl), e] <;> rfl
theorem of_argH {b : Addr} {u : HO} (q : argH K h A b = some u) : b ∈ A ∧ K.lookup b = none := by
  unfold argH at q
  by_cases hb : b ∈ A
  · rw [if_pos hb] at q
    cases hk : K.lookup b with
    | none => exact ⟨hb, rfl⟩
    | some o =>
      rw [hk, if_neg (by simp)] at q
      cases q
  · rw [if_neg hb] at q
    cases q
theorem argH_is (ar : ∀ a ∈ A, ArgOb h A a) {b : Addr} {u : HO} (q : argH K h A b = some u) : K.lookup b = none ∧ ∃ vs : List Value, vs.length ≤ sizeLine ∧ (∀ u ∈ vs, OkU A u) ∧
    ((h.get? b = some { cls := .type "list", data := .seq vs.toArray } ∧ u = .frz { cls := .type "list", data := .seq vs.toArray } (.lst (vs.map toV))) ∨
     (h.get? b = some { cls := .type "tuple", data := .seq vs.toArray } ∧ u = .frz { cls := .type "tuple", data := .seq vs.toArray } (.tup (vs.map toV)))) := by
  obtain ⟨hb, hk⟩ := of_argH q
  obtain ⟨vs, h1, h2, h3⟩ := ar b hb
  refine ⟨hk, vs, h1, h2, ?_⟩
  rcases h3 with e | e
  · rw [argH_at hb hk e, hoOf_lst] at q
    exact .inl ⟨e, (Option.some.inj q).symm⟩
  · rw [argH_at hb hk e, hoOf_tup] at q
    exact .inr ⟨e, (Option.some.inj q).symm⟩
theorem argH_only (ar : ∀ a ∈ A, ArgOb h A a) : OnlyF (argH K h A) := fun b => by
  cases q : argH K h A b with
  | none => exact .inl rfl
  | some u =>
    obtain ⟨_, vs, _, _, ⟨_, e⟩ | ⟨_, e⟩⟩ := argH_is ar q
    · exact .inr ⟨_, _, by rw [e]⟩
    · exact .inr ⟨_, _, by rw [e]⟩
theorem argH_ok (ar : ∀ a ∈ A, ArgOb h A a) : HOk P w (argH K h A) h := fun b u q => by
  obtain ⟨_, vs, h1, h2, ⟨e, rfl⟩ | ⟨e, rfl⟩⟩ := argH_is ar q
  · exact ⟨e, by rw [List.length_map]; exact h1, vs, _, vals_toV h2, e⟩
  · exact ⟨e, by rw [List.length_map]; exact h1, vs, vals_toV h2, _, e, rfl, _, rfl⟩
theorem seq_inj {c c' : Value} {vs us : List Value} (e : (some { cls := c, data := .seq vs.toArray } : Option Obj) = some { cls := c', data := .seq us.toArray }) : c = c' ∧ vs = us := by
  have e1 := Option.some.inj e
  have e2 : c = c' := congrArg Obj.cls e1
  have e3 : Data.seq vs.toArray = Data.seq us.toArray := congrArg Obj.data e1
  injection e3 with e4
  refine ⟨e2, ?_⟩
  have e5 := congrArg Array.toList e4
  simpa using e5
theorem argL (KX : K.In h) (ar : ∀ a ∈ A, ArgOb h A a) {a : Addr} {vs : List Value} (ha : a ∈ A) (e : h.get? a = some { cls := .type "list", data := .seq vs.toArray }) : (∀ u ∈ vs, OkU A u) ∧ SqL K (argH K h A) a (vs.map toV) := by
  obtain ⟨us, h1, h2, h3⟩ := ar a ha
  have hu : us = vs := by
    rcases h3 with q | q
    · rw [e] at q
      exact (seq_inj q).2.symm
    · rw [e] at q
      exact absurd (Value.type.inj (seq_inj q).1) (by decide)
  subst hu
  refine ⟨h2, ?_⟩
  cases hk : K.lookup a with
  | none => exact .inl (.inr ⟨_, by rw [argH_at ha hk e, hoOf_lst]⟩)
  | some o =>
    have e2 := KX a o hk
    rw [e] at e2
    obtain rfl := Option.some.inj e2
    exact .inr ⟨_, us.toArray, _, hk, rfl, rfl, rfl, by rw [List.size_toArray]; exact h1, by simpa using vals_toV h2⟩
theorem argT (KX : K.In h) (ar : ∀ a ∈ A, ArgOb h A a) {a : Addr} {vs : List Value} (ha : a ∈ A) (e : h.get? a = some { cls := .type "tuple", data := .seq vs.toArray }) : (∀ u ∈ vs, OkU A u) ∧ SqT K (argH K h A) a (vs.map toV) := by
  obtain ⟨us, h1, h2, h3⟩ := ar a ha
  have hu : us = vs := by
    rcases h3 with q | q
    · rw [e] at q
      exact absurd (Value.type.inj (seq_inj q).1) (by decide)
    · rw [e] at q
      exact (seq_inj q).2.symm
  subst hu
  refine ⟨h2, ?_⟩
  cases hk : K.lookup a with
  | none => exact .inl (.inr ⟨_, by rw [argH_at ha hk e, hoOf_tup]⟩)
  | some o =>
    have e2 := KX a o hk
    rw [e] at e2
    obtain rfl := Option.some.inj e2
    exact .inr ⟨_, us.toArray, _, hk, rfl, rfl, by rw [List.size_toArray]; exact h1, by simpa using vals_toV h2⟩
mutual
theorem dw_one {Pm : Params} (KX : K.In h) (ar : ∀ a ∈ A, ArgOb h A a) : ∀ (d : WData) (v : Value), Well Pm h v d → plW d = true → OkU A v → Dw K (argH K h A) (toV v) d
  | .none, _, x, _, _ => by
    cases x
    exact .non
  | .bool b, _, x, _, _ => by
    cases x
    exact .bl b
  | .int i, _, x, _, _ => by
    cases x
    exact .int i
  | .str s, _, x, _, _ => by
    cases x
    exact .str s
  | .bytes b, _, x, _, _ => by
    cases x
    have z := Dw.byt (K := K) (H := argH K h A) b.toArray
    exact z
  | .list ds, _, x, p, hu => by
    obtain ⟨a, vs, rfl, ho, hall⟩ := well_list x
    obtain ⟨h2, hs⟩ := argL KX ar hu ho
    exact .lst hs (dw_all KX ar ds _ hall p h2)
  | .tuple ds, _, x, p, hu => by
    obtain ⟨a, vs, rfl, ho, hall⟩ := well_tuple x
    obtain ⟨h2, hs⟩ := argT KX ar hu ho
    exact .tup hs (dw_all KX ar ds _ hall p h2)
  | .float _, _, _, p, _ => Bool.noConfusion (show false = true from p)
  | .dict _, _, _, p, _ => Bool.noConfusion (show false = true from p)
  | .bytearray _, _, _, p, _ => Bool.noConfusion (show false = true from p)
  | .set _, _, _, p, _ => Bool.noConfusion (show false = true from p)
  | .frozenset _, _, _, p, _ => Bool.noConfusion (show false = true from p)
  | .obj _ _, _, _, p, _ => Bool.noConfusion (show false = true from p)
theorem dw_all {Pm : Params} (KX : K.In h) (ar : ∀ a ∈ A, ArgOb h A a) : ∀ (ds : List WData) (vs : List Value), WellAll Pm h vs ds → plWs ds = true → (∀ u ∈ vs, OkU A u) → DwAll K (argH K h A) (vs.map toV) ds
  | [], _, x, _, _ => by
    cases x
    exact .nil
  | d :: ds, _, x, p, hu => by
    obtain ⟨v, vs, rfl, x1, x2⟩ := well_cons x
    have q : plW d = true ∧ plWs ds = true := Bool.and_eq_true_iff.mp p
    exact .cons (dw_one KX ar d v x1 q.1 (hu _ (List.mem_cons_self ..))) (dw_all KX ar ds vs x2 q.2 fun u m => hu u (List.mem_cons_of_mem _ m))
end
end
theorem spec_call {P : Program} {w : World} {K : PySem.W.Frag} {mg mb : Str → Option Value} {CX : CXT} {k : Nat} {fa : Addr} {fd : FuncData} {ps : List Str} {sp : Sp} {s₁ : Shared} {vals : List Value} {ds : List WData} {R : PySem.W.WRecords} {cl : Str → Option Addr} {d0 : WData}
    (KX : K.In s₁.heap) (hns : s₁.heap.Ns mainGlobals mg) (hb : s₁.heap.Ns builtinsNs mb) (hbb : ∀ x : Str, x ≠ "__name__" → mb x = bootBuiltins x) (hlim : s₁.heap.NoLimit) (hg : s₁.gens = #[])
    (hwl : WellAll w.params s₁.heap vals ds) (hpl : plWs ds = true) (hwt : ∀ d ∈ ds, d.weight ≤ 1048576) (hr : Room k callerA)
    (F : ∀ base : Heap, K.In base → base.Ns mainGlobals mg → FnOk P w K mg base CX k fa fd ps sp) (hbind : ∀ (s : Shared) (us : List Value), us.length = ps.length → BindsTo s fd ⟨us, []⟩ (ps.zip us)) (hlen : ds.length = ps.length)
    (hsp : ∀ (H : Hp) (xs : List V), OnlyF H → DwAll K H xs ds → sp xs H (fun v H' => Dw K H' v d0) fun _ _ _ => False)
    (hCX : ∀ H e s', CX [] H s₁ (fun _ _ _ => False) e s' → False) :
    codeAny (model P w) callerA (.call (.ref fa) ⟨vals, []⟩) (fun r s' => ∃ u as, r = .ok (.ret u) ∧ ReadsW R cl s'.heap u d0 as ∧ OldK s₁.heap s'.heap ∧ s'.os = s₁.os ∧ AllBare s'.gens) s₁ := by
  obtain ⟨A, ho, ar⟩ := area_all ds vals hwl hpl hwt
  have hO : OnlyF (argH K s₁.heap A) := argH_only ar
  have hok : HOk P w (argH K s₁.heap A) s₁.heap := argH_ok ar
  have hS := dw_all KX ar ds vals hwl hpl ho
  have hV := vals_toV ho
  have hK : ∀ b u, argH K s₁.heap A b = some u → K.lookup b = none := fun b u q => (argH_is ar q).1
  have noA : ∀ {b : Addr} {o : Obj} {es : Array DictEntry} {ep : Nat}, s₁.heap.get? b = some o → o.data = .dict es ep → argH K s₁.heap A b = none := fun {b o es ep} e d => by
    cases q : argH K s₁.heap A b with
    | none => rfl
    | some u =>
      obtain ⟨_, vs, _, _, ⟨e2, _⟩ | ⟨e2, _⟩⟩ := argH_is ar q
      · rw [e2] at e
        cases e
        have d' : Data.seq vs.toArray _ = Data.dict es ep := d
        cases d'
      · rw [e2] at e
        cases e
        have d' : Data.seq vs.toArray _ = Data.dict es ep := d
        cases d'
  generalize argH K s₁.heap A = H at hO hok hS hK noA
  have base_of : ∀ {b : Addr} {o : Obj}, s₁.heap.get? b = some o → H b = none → (hidT s₁.heap H).get? b = some o := fun e n => hidT_get e n
  have nsK : ∀ {b : Addr} {m : Str → Option Value}, s₁.heap.Ns b m → (hidT s₁.heap H).Ns b m := fun {b m} ⟨o, es, ep, e, d, r⟩ => ⟨o, es, ep, base_of e (noA e d), d, r⟩
  have nK : ∀ b o, K.lookup b = some o → H b = none := fun b o e => by
    cases q : H b with
    | none => rfl
    | some u =>
      rw [hK b u q] at e
      cases e
  have hKb : K.In (hidT s₁.heap H) := fun b o e => base_of (KX b o e) (nK b o e)
  have hM : Mod K mg (hidT s₁.heap H) := ⟨hKb, nsK hns, ⟨mb, nsK hb, hbb⟩, let ⟨mc, h1, h2⟩ := hlim; ⟨mc, nsK h1, h2⟩⟩
  have e0 : Env0 P w K mg (hidT s₁.heap H) callerA [] s₁ H := ⟨rfl, hM, fun b o e => of_hidT e, Nat.le_of_eq (hidT_size _ _), trivial, fun b hb => absurd (show b ∈ ([] : List Addr) from hb) (by simp), hok, .of_eq hg⟩
  have hl : vals.length = ps.length := by rw [wellAll_len hwl]; exact hlen
  refine codeAny_mono ((F _ hKb (nsK hns)).run callerA [] s₁ H ⟨vals, []⟩ vals (vals.map toV) _ _ hr e0 (hbind s₁ vals hl) hV (hsp H _ hO hS)) fun r s' x => ?_
  cases r with
  | error e => exact (hCX H e s' x).elim
  | ok fl =>
    cases fl with
    | next => exact False.elim x
    | brk => exact False.elim x
    | cont => exact False.elim x
    | ret u =>
      obtain ⟨v, H', os, bare, un, hok', r', q⟩ := x
      have kept : ∀ b o, s₁.heap.get? b = some o → s'.heap.get? b = some o := fun b o e => by
        cases q2 : H b with
        | none => exact un.keep b o e q2 (by intro z; exact absurd (show b ∈ ([] : List Addr) from z) (by simp)) (by simp)
        | some u2 =>
          rcases hO b with z | ⟨ob, u3, z⟩
          · rw [q2] at z
            cases z
          · have z2 := un.frzs b ob _ z
            obtain ⟨e1, _⟩ := hok b _ z
            obtain ⟨e2, _⟩ := hok' b _ z2
            rw [e] at e1
            cases e1
            exact e2
      have KX' : K.In s'.heap := fun b o e => kept b o (KX b o e)
      obtain ⟨as, hrd⟩ := Dw.reads (R := R) (cl := cl) hok' KX' d0 v u q r'
      exact ⟨u, as, rfl, hrd, OldK.of_keep kept, os, bare⟩
theorem layable_weight {ds : List WData} (h : WData.layableAll ds = true) : ∀ d ∈ ds, d.weight ≤ 1048576 := fun d hd =>
  (PySem.W.layableW_iff.mp (List.all_eq_true.mp h d hd)).2.2
theorem encAll_len : ∀ (cs : List Codec) (a : Codec.denoteAll cs), (Codec.encAll cs a).length = cs.length
  | [], _ => rfl
  | c :: cs, a => by
    show (Codec.encAll cs a.2).length + 1 = cs.length + 1
    rw [encAll_len cs a.2]
theorem walk_spec {r : OpenSpec} {k : Nat} {q : Program} {loose : List Str} {XP : (Str → Option Value) → Heap → Prop} {YP : World → Heap → Prop} {d : DefRec} {K : Params → PySem.W.Frag} {CX : World → CXT} {ps : List Str} {sp : World → Sp}
    (hwell : r.wellSaid = true) (hdf : d.params.defaults = []) (hlen : r.args.length = ps.length) (hr : Room k callerA)
    (hY : ∀ (w : World) (h : Heap), YP w h → (K w.params).In h)
    (F : ∀ (w : World) (mg : Str → Option Value) (fa : Addr) (h : Heap), YP w h → (K w.params).In h → h.Ns mainGlobals mg → mg d.name = some (.ref fa) →
      ∃ fd : FuncData, (∀ (s : Shared) (us : List Value), us.length = ps.length → BindsTo s fd ⟨us, []⟩ (ps.zip us)) ∧
        ∀ base : Heap, (K w.params).In base → base.Ns mainGlobals mg → FnOk r.prog w (K w.params) mg base (CX w) k fa fd ps (sp w))
    (hsp : ∀ (w : World) (H : Hp) (xs : List V) (a : Codec.denoteAll r.args), OnlyF H → Codec.withinAll r.args a = true → Codec.app r.args r.asked a = true → DwAll (K w.params) H xs (Codec.encAll r.args a) →
      sp w xs H (fun v H' => Dw (K w.params) H' v (r.ret.enc (Codec.app r.args r.f a))) fun _ _ _ => False)
    (hCX : ∀ (w : World) (H : Hp) (s : Shared) (e : Value) (s' : Shared), CX w [] H s (fun _ _ _ => False) e s' → False) :
    PySem.W.WalkOS q loose XP YP r d [] (fun f vs => PySem.call f vs) := by
  intro w s_0 s₁ mg mb G Y fa o pm cd doc dV kV ho hd hcd hD hmg hg args vals as hpre hlay hrd hwl hlo
  obtain ⟨a, e1, e2⟩ := PySem.W.os_pre_some hpre
  obtain ⟨e3, hwi⟩ := Codec.encAll_of_decAll r.args args a e1
  subst e3
  have KX := hY w _ Y
  obtain ⟨fd, hb, hF⟩ := F w mg fa _ Y KX G.T.g hmg
  refine PySem.W.enter_call (codeAny_mono (spec_call (R := []) (cl := classAt s_0.heap) (d0 := r.ret.enc (Codec.app r.args r.f a)) KX G.T.g G.T.b G.T.builtins G.T.nolimit hg hwl (pl_encAll _ _) (layable_weight hlay) hr hF hb (by rw [encAll_len]; exact hlen)
    (fun H xs hO hS => hsp w H xs a hO hwi e2 hS) fun H e s' => hCX w H s₁ e s') fun r' s' hq => ?_)
  obtain ⟨u, as', rfl, h1, h2, h3, h4⟩ := hq
  exact ⟨.inl ⟨u, _, as', rfl, fun _ => rfl, h1, (OpenSpec.post_iff hwell hwi _ _).mpr rfl, fun z => Bool.noConfusion (show false = true from z)⟩, h2, h3, h4⟩
theorem walk_specK {r : OpenSpec} {k : Nat} {q : Program} {loose : List Str} {XP : (Str → Option Value) → Heap → Prop} {YP : World → Heap → Prop} {d : DefRec} {K : Params → PySem.W.Frag} {CX : CXT} {ps : List Str} {sp : PySem.W.Frag → Sp}
    (hwell : r.wellSaid = true) (hdf : d.params.defaults = []) (hlen : r.args.length = ps.length) (hr : Room k callerA)
    (hY : ∀ (w : World) (h : Heap), YP w h → (K w.params).In h)
    (F : ∀ (w : World) (mg : Str → Option Value) (fa : Addr) (h : Heap), YP w h → (K w.params).In h → h.Ns mainGlobals mg → mg d.name = some (.ref fa) →
      ∃ fd : FuncData, (∀ (s : Shared) (us : List Value), us.length = ps.length → BindsTo s fd ⟨us, []⟩ (ps.zip us)) ∧
        ∀ base : Heap, (K w.params).In base → base.Ns mainGlobals mg → FnOk r.prog w (K w.params) mg base CX k fa fd ps (sp (K w.params)))
    (hsp : ∀ (K : PySem.W.Frag) (H : Hp) (xs : List V) (a : Codec.denoteAll r.args), OnlyF H → Codec.withinAll r.args a = true → Codec.app r.args r.asked a = true → DwAll K H xs (Codec.encAll r.args a) →
      sp K xs H (fun v H' => Dw K H' v (r.ret.enc (Codec.app r.args r.f a))) fun _ _ _ => False)
    (hCX : ∀ (H : Hp) (s : Shared) (e : Value) (s' : Shared), CX [] H s (fun _ _ _ => False) e s' → False) :
    PySem.W.WalkOS q loose XP YP r d [] (fun f vs => PySem.call f vs) :=
  walk_spec (K := K) (CX := fun _ => CX) (sp := fun w => sp (K w.params)) hwell hdf hlen hr hY F (fun w H xs a h1 h2 h3 h4 => hsp (K w.params) H xs a h1 h2 h3 h4) fun _ H s e s' => hCX H s e s'
end L2
end
set_option Elab.async false
set_option linter.all false
set_option maxRecDepth 100000
set_option maxHeartbeats 2000000
/-! zip over a tuple and a list; () + t; xs.extend(t) -/
namespace Zs
open PySem
open Sem (wp)
def Sq (t : Bool) (h : Heap) (a : Addr) (xs : Array Value) : Prop := match t with
  | true => h.IsTuple a xs
  | false => h.IsList a xs
def Itr (t : Bool) (h : Heap) (a l : Addr) (i : Nat) : Prop := match t with
  | true => h.IsTupleIter a l i
  | false => h.IsListIter a l i
def itN (t : Bool) : String := match t with
  | true => "tuple_iterator"
  | false => "list_iterator"
theorem Sq.extBut {t : Bool} {h h' : Heap} {a b : Addr} {xs : Array Value} (x : Sq t h a xs) (hs : Heap.ExtBut b h h') (hab : a ≠ b) : Sq t h' a xs := by
  cases t
  · exact Heap.IsList.extBut x hs hab
  · exact Heap.IsTuple.extBut x hs hab
theorem Sq.lt {t : Bool} {h : Heap} {a : Addr} {xs : Array Value} (x : Sq t h a xs) : a < h.objs.size := by
  cases t
  · obtain ⟨_, e, _⟩ := x; exact Heap.lt_size e
  · obtain ⟨_, e, _⟩ := x; exact Heap.lt_size e
theorem Sq.push {t : Bool} {h : Heap} {a : Addr} {xs : Array Value} (x : Sq t h a xs) (o : Obj) : Sq t (h.push o) a xs := by
  cases t
  · exact Heap.IsList.push x o
  · exact Heap.IsTuple.push x o
theorem Itr.extBut {t : Bool} {h h' : Heap} {a b l : Addr} {i : Nat} (x : Itr t h a l i) (hs : Heap.ExtBut b h h') (hab : a ≠ b) : Itr t h' a l i := by
  cases t
  · exact Heap.IsListIter.extBut x hs hab
  · exact Heap.IsTupleIter.extBut x hs hab
theorem Itr.obj {t : Bool} {h : Heap} {a l : Addr} {i : Nat} (x : Itr t h a l i) : ∃ o, h.get? a = some o ∧ o.data = .fields #[.ref l, .int i 0] := by
  cases t
  · obtain ⟨o, e, _, d⟩ := x; exact ⟨o, e, d⟩
  · obtain ⟨o, e, _, d⟩ := x; exact ⟨o, e, d⟩
theorem Itr.lt {t : Bool} {h : Heap} {a l : Addr} {i : Nat} (x : Itr t h a l i) : a < h.objs.size := by
  obtain ⟨o, e, _⟩ := x.obj
  exact Heap.lt_size e
theorem Itr.at {t : Bool} {h h' : Heap} {a l : Addr} {i : Nat} (x : Itr t h a l i) (k : ∀ o, h.get? a = some o → h'.get? a = some o) : Itr t h' a l i := by
  cases t
  · obtain ⟨o, e, r⟩ := x; exact ⟨o, k o e, r⟩
  · obtain ⟨o, e, r⟩ := x; exact ⟨o, k o e, r⟩
theorem Itr.new {t : Bool} {h : Heap} {a l : Addr} (e : h.get? a = some { cls := .type (itN t), data := .fields #[.ref l, .int 0 0] }) : Itr t h a l 0 := by
  cases t
  · exact ⟨_, e, rfl, rfl⟩
  · exact ⟨_, e, rfl, rfl⟩
section
variable {prog : Program} {w : World} {A : Around} {E : Value → Shared → Prop} {s : Shared}
theorem nextOf_tuple_item {it l : Addr} {i : Nat} {items : Array Value} {x : Value} {Q : Value → Shared → Prop} (hit : s.heap.IsTupleIter it l i)
    (hl : s.heap.IsTuple l items) (hx : items[i]? = some x)
    (hQ : ∀ h', h'.IsTupleIter it l (i + 1) → Heap.SameBut it s.heap h' → Q x { s with heap := h' }) :
    wpAny (model prog w) A (Builtin.SmallTypes.nextOf (.ref it)) Q E s := by
  obtain ⟨o, ho, hc, hd⟩ := id hit
  obtain ⟨ol, hol, _, nl, hdl⟩ := hl
  unfold Builtin.SmallTypes.nextOf
  refine wpAny_bind (wpAny_callSpecial?_slot (name := Str.ofString "__next__") hit.typeIs F.slot_tuple_iterator_next
    (wpAny_call_entry F.slot_tuple_iterator_next hit.typeIs F.entry_tuple_iterator_next ?_ (F.args_tuple_iterator_next_1 _)))
  show wpAny _ _ (field (.ref it) 0 >>= _) _ _ s
  refine wpAny_bind (wpAny_field ho hd (x := .ref l) rfl ?_)
  show wpAny _ _ (if (Value.ref l == Value.none) = true then _ else _) _ _ s
  rw [if_neg (show ¬ ((Value.ref l == Value.none) = true) from Bool.false_ne_true)]
  show wpAny _ _ (field (.ref it) 1 >>= _) _ _ s
  refine wpAny_bind (wpAny_field ho hd (x := .int i 0) rfl ?_)
  show wpAny _ _ (seqItems? (.ref l) >>= _) _ _ s
  refine wpAny_bind (wpAny_seqItems hol hdl ?_)
  simp only [Int.toNat_natCast, hx]
  refine wpAny_bind (wpAny_setField ho hd (by simp) (wpAny_pure ⟨x, rfl, wpAny_pure (hQ _ ?_ (Heap.SameBut.update ..))⟩))
  exact ⟨_, Heap.get?_update_self _ ho (Obj.isFreed_of_fields (Obj.data_mapFields hd _)), (Obj.cls_mapFields ..).trans hc, by
    rw [Obj.data_mapFields hd]; simp [rawInt]⟩
theorem nextOf_tuple_end {it l : Addr} {i : Nat} {items : Array Value} {Q : Value → Shared → Prop} (hh : A.handled = none)
    (hit : s.heap.IsTupleIter it l i) (hl : s.heap.IsTuple l items) (hx : items[i]? = none)
    (hE : ∀ h' e, Heap.ExtBut it s.heap h' → (∃ o, h'.get? e = some o ∧ o.cls = .type "StopIteration") → E (.ref e) { s with heap := h' }) :
    wpAny (model prog w) A (Builtin.SmallTypes.nextOf (.ref it)) Q E s := by
  obtain ⟨o, ho, hc, hd⟩ := id hit
  obtain ⟨ol, hol, _, nl, hdl⟩ := hl
  unfold Builtin.SmallTypes.nextOf
  refine wpAny_bind (wpAny_callSpecial?_slot (name := Str.ofString "__next__") hit.typeIs F.slot_tuple_iterator_next
    (wpAny_call_entry F.slot_tuple_iterator_next hit.typeIs F.entry_tuple_iterator_next ?_ (F.args_tuple_iterator_next_1 _)))
  show wpAny _ _ (field (.ref it) 0 >>= _) _ _ s
  refine wpAny_bind (wpAny_field ho hd (x := .ref l) rfl ?_)
  show wpAny _ _ (if (Value.ref l == Value.none) = true then _ else _) _ _ s
  rw [if_neg (show ¬ ((Value.ref l == Value.none) = true) from Bool.false_ne_true)]
  show wpAny _ _ (field (.ref it) 1 >>= _) _ _ s
  refine wpAny_bind (wpAny_field ho hd (x := .int i 0) rfl ?_)
  show wpAny _ _ (seqItems? (.ref l) >>= _) _ _ s
  refine wpAny_bind (wpAny_seqItems hol hdl ?_)
  simp only [Int.toNat_natCast, hx]
  refine wpAny_bind (wpAny_rule (wpAny_bind (wpAny_setField ho hd (by simp) ?_)))
  show wpAny _ _ (newExc (.type "StopIteration") [] >>= _) _ _ _
  refine wpAny_bind ?_
  simp only [newExc, newTuple]
  refine wpAny_bind (wpAny_newObj_type ?_ (by size_fits))
  refine wpAny_bind (m := firstArgMember _ _) (wpAny_of_eq (a := Value.none) (by first | rfl | (simp only [firstArgMember]; rfl)) ?_)
  refine wpAny_newObj_type ?_ (by size_fits)
  simp only [raiseNew]
  refine wpAny_bind (wpAny_handled ?_)
  first | rw [show A.in1.handled = none from hh] | rw [hh]
  refine wpAny_bind (wpAny_pure (wpAny_throw ?_))
  exact hE _ _ (((Heap.SameBut.update ..).extBut.push _).push _) ⟨_, Heap.get?_push_size _ rfl, rfl⟩
theorem nextOf_item {t : Bool} {it l : Addr} {i : Nat} {items : Array Value} {x : Value} {Q : Value → Shared → Prop} (hit : Itr t s.heap it l i)
    (hl : Sq t s.heap l items) (hx : items[i]? = some x)
    (hQ : ∀ h', Itr t h' it l (i + 1) → Heap.SameBut it s.heap h' → Q x { s with heap := h' }) :
    wpAny (model prog w) A (Builtin.SmallTypes.nextOf (.ref it)) Q E s := by
  cases t
  · exact wpAny_nextOf_list_item hit hl hx hQ
  · exact nextOf_tuple_item hit hl hx hQ
theorem nextOf_end {t : Bool} {it l : Addr} {i : Nat} {items : Array Value} {Q : Value → Shared → Prop} (hh : A.handled = none)
    (hit : Itr t s.heap it l i) (hl : Sq t s.heap l items) (hx : items[i]? = none)
    (hE : ∀ h' e, Heap.ExtBut it s.heap h' → (∃ o, h'.get? e = some o ∧ o.cls = .type "StopIteration") → E (.ref e) { s with heap := h' }) :
    wpAny (model prog w) A (Builtin.SmallTypes.nextOf (.ref it)) Q E s := by
  cases t
  · exact wpAny_nextOf_list_end hh hit hl hx hE
  · exact nextOf_tuple_end hh hit hl hx hE
theorem pyIter_sq {t : Bool} {l : Addr} {items : Array Value} {Q : Value → Shared → Prop} (hl : Sq t s.heap l items)
    (hQ : Q (.ref s.heap.objs.size) { s with heap := s.heap.push { cls := .type (itN t), data := .fields #[.ref l, .int 0 0] } }) :
    wpAny (model prog w) A (pyIter (.ref l)) Q E s := by
  cases t
  · exact wpAny_pyIter_list hl hQ
  · exact wpAny_pyIter_tuple hl hQ
theorem zs_next_item {t1 t2 : Bool} {z TI TO i1 i2 l1 l2 : Addr} {k1 k2 : Nat} {xs ys : Array Value} {x y a b : Value} {Q : Value → Shared → Prop} (D : ZipApart z TI TO i1 i2 l1 l2)
    (hz : IsZip s.heap z TI TO .none) (hTI : IsPair s.heap TI (.ref i1) (.ref i2)) (hTO : IsPair s.heap TO a b)
    (h1 : Itr t1 s.heap i1 l1 k1) (h2 : Itr t2 s.heap i2 l2 k2) (hl1 : Sq t1 s.heap l1 xs) (hl2 : Sq t2 s.heap l2 ys) (hx : xs[k1]? = some x) (hy : ys[k2]? = some y)
    (hQ : ∀ h', IsZip h' z TI TO (rawInt s.heap.objs.size) → IsPair h' TO x y → Itr t1 h' i1 l1 (k1 + 1) → Itr t2 h' i2 l2 (k2 + 1) → IsPair h' s.heap.objs.size x y → h'.objs.size = s.heap.objs.size + 1 →
      (∀ c o, c ≠ z → c ≠ TO → c ≠ i1 → c ≠ i2 → s.heap.get? c = some o → h'.get? c = some o) → Q (.ref s.heap.objs.size) { s with heap := h' }) :
    wpAny (model prog w) A (Builtin.«zip.__next__» ⟨[.ref z], []⟩) (fun fin s' => ∃ v, fin = .done (.ret v) ∧ Q v s') E s := by
  show wpAny _ _ (field (.ref z) 2 >>= _) _ _ _
  refine wpAny_bind (wpAny_field hz rfl (x := .bool false) rfl ?_)
  show wpAny _ _ (field (.ref z) 3 >>= _) _ _ _
  refine wpAny_bind (wpAny_field hz rfl (x := .ref TI) rfl ?_)
  refine wpAny_bind (wpAny_seqItems hTI rfl ?_)
  show wpAny _ _ (Builtin.SmallTypes.ownedTupleIsFree (.ref z) >>= _) _ _ _
  refine wpAny_bind ?_
  unfold Builtin.SmallTypes.ownedTupleIsFree
  refine wpAny_bind (wpAny_field hz rfl (x := .none) rfl (wpAny_pure ?_))
  simp only [if_true]
  refine wpAny_bind (wpAny_rule ?_)
  refine wpAny_bind (wpAny_field hz rfl (x := .ref TO) rfl ?_)
  refine wpAny_bind (wpAny_setField_rec hz (by simp) fun h₁ hz₁ hs₁ => ?_)
  replace hz₁ : IsZip h₁ z TI TO .ellipsis := hz₁
  refine wpAny_bind ?_
  simp only [List.zipIdx_cons, List.zipIdx_nil, List.forIn_cons, List.forIn_nil]
  refine wpAny_bind (wpAny_bind (wpAny_onRaise ?_))
  show wpAny _ _ (Builtin.SmallTypes.nextOf (.ref i1) >>= _) _ _ _
  refine wpAny_bind (nextOf_item (h1.extBut hs₁.extBut D.i1z) (hl1.extBut hs₁.extBut D.l1z) hx fun h₂ h1₂ hs₂ => wpAny_pure ?_)
  have hTO₂ : IsPair h₂ TO a b := hs₂.extBut _ _ D.TOi1 (hs₁.extBut _ _ D.TOz hTO)
  refine wpAny_bind (wpAny_seqItems hTO₂ rfl ?_)
  refine wpAny_bind (wpAny_updateSeq_pair hTO₂ fun h₃ hTO₃ hs₃ => ?_)
  replace hTO₃ : IsPair h₃ TO x b := hTO₃
  refine wpAny_bind (wpAny_letGo (wpAny_pure ?_))
  refine wpAny_bind (wpAny_bind (wpAny_onRaise ?_))
  show wpAny _ _ (Builtin.SmallTypes.nextOf (.ref i2) >>= _) _ _ _
  refine wpAny_bind (nextOf_item (((h2.extBut hs₁.extBut D.i2z).extBut hs₂.extBut D.i12.symm).extBut hs₃.extBut D.TOi2.symm)
    (((hl2.extBut hs₁.extBut D.l2z).extBut hs₂.extBut D.l2i1).extBut hs₃.extBut D.l2TO) hy fun h₄ h2₄ hs₄ => wpAny_pure ?_)
  have hTO₄ : IsPair h₄ TO x b := hs₄.extBut _ _ D.TOi2 hTO₃
  refine wpAny_bind (wpAny_seqItems hTO₄ rfl ?_)
  refine wpAny_bind (wpAny_updateSeq_pair hTO₄ fun h₅ hTO₅ hs₅ => ?_)
  replace hTO₅ : IsPair h₅ TO x y := hTO₅
  refine wpAny_bind (wpAny_letGo (wpAny_pure (wpAny_pure ?_)))
  refine wpAny_bind (wpAny_seqItems hTO₅ rfl ?_)
  refine wpAny_bind (wpAny_newTuple ?_)
  have hsz : h₅.objs.size = s.heap.objs.size := by rw [hs₅.1, hs₄.1, hs₃.1, hs₂.1, hs₁.1]
  have hz₅ : IsZip h₅ z TI TO .ellipsis := hs₅.extBut _ _ D.TOz.symm (hs₄.extBut _ _ D.i2z.symm (hs₃.extBut _ _ D.TOz.symm (hs₂.extBut _ _ D.i1z.symm hz₁)))
  have hk₅ : ∀ c o, c ≠ z → c ≠ TO → c ≠ i1 → c ≠ i2 → s.heap.get? c = some o → h₅.get? c = some o := fun c o c1 c2 c3 c4 e =>
    hs₅.extBut _ _ c2 (hs₄.extBut _ _ c4 (hs₃.extBut _ _ c2 (hs₂.extBut _ _ c3 (hs₁.extBut _ _ c1 e))))
  have h1₅ : Itr t1 h₅ i1 l1 (k1 + 1) := ((h1₂.extBut hs₃.extBut D.TOi1.symm).extBut hs₄.extBut D.i12).extBut hs₅.extBut D.TOi1.symm
  have h2₅ : Itr t2 h₅ i2 l2 (k2 + 1) := h2₄.extBut hs₅.extBut D.TOi2.symm
  have hzlt : z < h₅.objs.size := Heap.lt_size hz₅
  show wpAny _ _ (Builtin.SmallTypes.ownedTupleHandOut (.ref z) (.ref h₅.objs.size) >>= _) _ _ _
  refine wpAny_bind ?_
  unfold Builtin.SmallTypes.ownedTupleHandOut
  have hz₆ : IsZip (h₅.push { cls := .type "tuple", data := .seq #[x, y] }) z TI TO .ellipsis := Heap.get?_push_of_some _ hz₅
  refine wpAny_bind (wpAny_setField_rec hz₆ (by simp) fun h₇ hz₇ hs₇ => ?_)
  replace hz₇ : IsZip h₇ z TI TO (rawInt h₅.objs.size) := hz₇
  refine wpAny_setField_rec hz₇ (by simp) fun h₈ hz₈ hs₈ => ?_
  replace hz₈ : IsZip h₈ z TI TO (rawInt h₅.objs.size) := hz₈
  have up : ∀ c o, c ≠ z → h₅.get? c = some o → h₈.get? c = some o := fun c o c1 e => hs₈.extBut _ _ c1 (hs₇.extBut _ _ c1 (Heap.get?_push_of_some _ e))
  have hT₈ : IsPair h₈ h₅.objs.size x y := hs₈.extBut _ _ (Nat.ne_of_gt hzlt) (hs₇.extBut _ _ (Nat.ne_of_gt hzlt) (Heap.get?_push_size _ rfl))
  have hz8 : h₈.objs.size = h₅.objs.size + 1 := by rw [hs₈.1, hs₇.1, Heap.size_push]
  rw [hsz] at hz₈ hT₈ hz8
  refine wpAny_pure ⟨_, rfl, ?_⟩
  show Q (.ref h₅.objs.size) _
  rw [hsz]
  exact hQ h₈ hz₈ (up _ _ D.TOz hTO₅) (h1₅.at fun o e => up _ o D.i1z e) (h2₅.at fun o e => up _ o D.i2z e) hT₈ hz8 fun c o c1 c2 c3 c4 e => up c o c1 (hk₅ c o c1 c2 c3 c4 e)
theorem zs_next_end {t1 t2 : Bool} {z TI TO i1 i2 l1 l2 : Addr} {k1 k2 : Nat} {xs ys : Array Value} {a b : Value} {Q : Fin → Shared → Prop} (hh : A.handled = none) (D : ZipApart z TI TO i1 i2 l1 l2)
    (hz : IsZip s.heap z TI TO .none) (hTI : IsPair s.heap TI (.ref i1) (.ref i2)) (hTO : IsPair s.heap TO a b)
    (h1 : Itr t1 s.heap i1 l1 k1) (h2 : Itr t2 s.heap i2 l2 k2) (hl1 : Sq t1 s.heap l1 xs) (hl2 : Sq t2 s.heap l2 ys) (hend : xs[k1]? = none ∨ ys[k2]? = none)
    (hE : ∀ h' e, (∀ c o, c ≠ z → c ≠ TO → c ≠ i1 → c ≠ i2 → s.heap.get? c = some o → h'.get? c = some o) → (∃ o, h'.get? e = some o ∧ o.cls = .type "StopIteration") → E (.ref e) { s with heap := h' }) :
    wpAny (model prog w) A (Builtin.«zip.__next__» ⟨[.ref z], []⟩) Q E s := by
  show wpAny _ _ (field (.ref z) 2 >>= _) _ _ _
  refine wpAny_bind (wpAny_field hz rfl (x := .bool false) rfl ?_)
  show wpAny _ _ (field (.ref z) 3 >>= _) _ _ _
  refine wpAny_bind (wpAny_field hz rfl (x := .ref TI) rfl ?_)
  refine wpAny_bind (wpAny_seqItems hTI rfl ?_)
  show wpAny _ _ (Builtin.SmallTypes.ownedTupleIsFree (.ref z) >>= _) _ _ _
  refine wpAny_bind ?_
  unfold Builtin.SmallTypes.ownedTupleIsFree
  refine wpAny_bind (wpAny_field hz rfl (x := .none) rfl (wpAny_pure ?_))
  simp only [if_true]
  refine wpAny_bind (wpAny_rule ?_)
  refine wpAny_bind (wpAny_field hz rfl (x := .ref TO) rfl ?_)
  refine wpAny_bind (wpAny_setField_rec hz (by simp) fun h₁ hz₁ hs₁ => ?_)
  replace hz₁ : IsZip h₁ z TI TO .ellipsis := hz₁
  refine wpAny_bind ?_
  simp only [List.zipIdx_cons, List.zipIdx_nil, List.forIn_cons, List.forIn_nil]
  refine wpAny_bind (wpAny_bind (wpAny_onRaise ?_))
  show wpAny _ _ (Builtin.SmallTypes.nextOf (.ref i1) >>= _) _ _ _
  cases hx : xs[k1]? with
  | none =>
    refine wpAny_bind (nextOf_end hh (h1.extBut hs₁.extBut D.i1z) (hl1.extBut hs₁.extBut D.l1z) hx fun h₂ e hs₂ he => ?_)
    obtain ⟨oe, hoe, hce⟩ := he
    have hz₂ : IsZip h₂ z TI TO .ellipsis := hs₂ _ _ D.i1z.symm hz₁
    have hez : e ≠ z := fun x => by subst x; rw [hz₂] at hoe; cases hoe; simp at hce
    refine wpAny_setField_rec hz₂ (by simp) fun h₃ _ hs₃ => hE h₃ e (fun c o c1 _ c3 _ x => hs₃.extBut _ _ c1 (hs₂ _ _ c3 (hs₁.extBut _ _ c1 x))) ⟨oe, hs₃.extBut _ _ hez hoe, hce⟩
  | some x =>
    have hy : ys[k2]? = none := by rcases hend with h | h; rw [hx] at h; cases h; exact h
    refine wpAny_bind (nextOf_item (h1.extBut hs₁.extBut D.i1z) (hl1.extBut hs₁.extBut D.l1z) hx fun h₂ h1₂ hs₂ => wpAny_pure ?_)
    have hTO₂ : IsPair h₂ TO a b := hs₂.extBut _ _ D.TOi1 (hs₁.extBut _ _ D.TOz hTO)
    refine wpAny_bind (wpAny_seqItems hTO₂ rfl ?_)
    refine wpAny_bind (wpAny_updateSeq_pair hTO₂ fun h₃ hTO₃ hs₃ => ?_)
    refine wpAny_bind (wpAny_letGo (wpAny_pure ?_))
    refine wpAny_bind (wpAny_bind (wpAny_onRaise ?_))
    show wpAny _ _ (Builtin.SmallTypes.nextOf (.ref i2) >>= _) _ _ _
    refine wpAny_bind (nextOf_end hh (((h2.extBut hs₁.extBut D.i2z).extBut hs₂.extBut D.i12.symm).extBut hs₃.extBut D.TOi2.symm)
      (((hl2.extBut hs₁.extBut D.l2z).extBut hs₂.extBut D.l2i1).extBut hs₃.extBut D.l2TO) hy fun h₄ e hs₄ he => ?_)
    obtain ⟨oe, hoe, hce⟩ := he
    have hz₄ : IsZip h₄ z TI TO .ellipsis := hs₄ _ _ D.i2z.symm (hs₃.extBut _ _ D.TOz.symm (hs₂.extBut _ _ D.i1z.symm hz₁))
    have hez : e ≠ z := fun x => by subst x; rw [hz₄] at hoe; cases hoe; simp at hce
    refine wpAny_setField_rec hz₄ (by simp) fun h₅ _ hs₅ => hE h₅ e (fun c o c1 c2 c3 c4 x => hs₅.extBut _ _ c1 (hs₄ _ _ c4 (hs₃.extBut _ _ c2 (hs₂.extBut _ _ c3 (hs₁.extBut _ _ c1 x))))) ⟨oe, hs₅.extBut _ _ hez hoe, hce⟩
theorem pyNext_item {t1 t2 : Bool} {z TI TO i1 i2 l1 l2 : Addr} {k1 k2 : Nat} {xs ys : Array Value} {x y a b : Value} {Q : Option Value → Shared → Prop} (D : ZipApart z TI TO i1 i2 l1 l2)
    (hz : IsZip s.heap z TI TO .none) (hTI : IsPair s.heap TI (.ref i1) (.ref i2)) (hTO : IsPair s.heap TO a b)
    (h1 : Itr t1 s.heap i1 l1 k1) (h2 : Itr t2 s.heap i2 l2 k2) (hl1 : Sq t1 s.heap l1 xs) (hl2 : Sq t2 s.heap l2 ys) (hx : xs[k1]? = some x) (hy : ys[k2]? = some y)
    (hQ : ∀ h', IsZip h' z TI TO (rawInt s.heap.objs.size) → IsPair h' TO x y → Itr t1 h' i1 l1 (k1 + 1) → Itr t2 h' i2 l2 (k2 + 1) → IsPair h' s.heap.objs.size x y → h'.objs.size = s.heap.objs.size + 1 →
      (∀ c o, c ≠ z → c ≠ TO → c ≠ i1 → c ≠ i2 → s.heap.get? c = some o → h'.get? c = some o) → Q (some (.ref s.heap.objs.size)) { s with heap := h' }) :
    wpAny (model prog w) A (pyNext (.ref z)) Q E s := by
  have hT : s.TypeIs (.ref z) "zip" := ⟨_, hz, rfl⟩
  unfold pyNext
  exact wpAny_bind (wpAny_attempt (wpAny_callSpecial?_slot (name := Str.ofString "__next__") hT F.slot_zip_next
    (wpAny_call_entry F.slot_zip_next hT F.entry_zip_next
      (zs_next_item D hz hTI hTO h1 h2 hl1 hl2 hx hy fun h' a1 a2 a3 a4 a5 a6 a7 => wpAny_pure (hQ h' a1 a2 a3 a4 a5 a6 a7)) (F.args_zip_next_1 _))))
theorem pyNext_end {t1 t2 : Bool} {z TI TO i1 i2 l1 l2 : Addr} {k1 k2 : Nat} {xs ys : Array Value} {a b : Value} {Q : Option Value → Shared → Prop} (hh : A.handled = none) (D : ZipApart z TI TO i1 i2 l1 l2)
    (hz : IsZip s.heap z TI TO .none) (hTI : IsPair s.heap TI (.ref i1) (.ref i2)) (hTO : IsPair s.heap TO a b)
    (h1 : Itr t1 s.heap i1 l1 k1) (h2 : Itr t2 s.heap i2 l2 k2) (hl1 : Sq t1 s.heap l1 xs) (hl2 : Sq t2 s.heap l2 ys) (hend : xs[k1]? = none ∨ ys[k2]? = none)
    (hQ : ∀ h', (∀ c o, c ≠ z → c ≠ TO → c ≠ i1 → c ≠ i2 → s.heap.get? c = some o → h'.get? c = some o) → Q none { s with heap := h' }) : wpAny (model prog w) A (pyNext (.ref z)) Q E s := by
  have hT : s.TypeIs (.ref z) "zip" := ⟨_, hz, rfl⟩
  unfold pyNext
  refine wpAny_bind (wpAny_attempt (wpAny_callSpecial?_slot (name := Str.ofString "__next__") hT F.slot_zip_next
    (wpAny_call_entry F.slot_zip_next hT F.entry_zip_next (zs_next_end hh D hz hTI hTO h1 h2 hl1 hl2 hend fun h' e hk he => ?_) (F.args_zip_next_1 _))))
  obtain ⟨o, ho, hc⟩ := he
  refine wpAny_bind (wpAny_isInstance (T := "StopIteration") (b := true) ⟨o, ho, hc⟩ isSubtype_stop ?_)
  exact wpAny_pure (hQ _ hk)
end
abbrev zsH1 (t1 : Bool) (h : Heap) (l1 : Addr) : Heap := h.push { cls := .type (itN t1), data := .fields #[.ref l1, .int 0 0] }
abbrev zsH2 (t1 t2 : Bool) (h : Heap) (l1 l2 : Addr) : Heap := (zsH1 t1 h l1).push { cls := .type (itN t2), data := .fields #[.ref l2, .int 0 0] }
abbrev zsH3 (t1 t2 : Bool) (h : Heap) (l1 l2 : Addr) : Heap := (zsH2 t1 t2 h l1 l2).push { cls := .type "tuple", data := .seq #[.ref h.objs.size, .ref (zsH1 t1 h l1).objs.size] }
abbrev zsH4 (t1 t2 : Bool) (h : Heap) (l1 l2 : Addr) : Heap := (zsH3 t1 t2 h l1 l2).push { cls := .type "tuple", data := .seq #[.none, .none] }
abbrev zsH5 (t1 t2 : Bool) (h : Heap) (l1 l2 : Addr) : Heap := (zsH4 t1 t2 h l1 l2).push { cls := .type "zip", data := .fields #[.none, .bool false, .bool false, .ref (zsH2 t1 t2 h l1 l2).objs.size, .ref (zsH3 t1 t2 h l1 l2).objs.size] }
theorem zs_meets_new (t1 t2 : Bool) (l1 l2 : Addr) (xs ys : Array Value) :
    Meets (Builtin.«zip.__new__» ⟨[.type "zip", .ref l1, .ref l2], []⟩) (fun _ R s => Sq t1 s.heap l1 xs ∧ Sq t2 s.heap l2 ys ∧
      R (.ok (.ret (.ref (zsH4 t1 t2 s.heap l1 l2).objs.size))) { s with heap := zsH5 t1 t2 s.heap l1 l2 }) :=
  .of_wp fun prog w A R s h => by
    obtain ⟨hp, g, d, tk, os⟩ := s; obtain ⟨hl1, hl2, h⟩ := h
    have hsub := sub_zip
    have hL1 : Sq t1 (Shared.heap ⟨hp, g, d, tk, os⟩) l1 xs := hl1
    have hL2 : Sq t2 (Shared.heap ⟨hp.push { cls := .type (itN t1), data := .fields #[.ref l1, .int 0 0] }, g, d, tk, os⟩) l2 ys := Sq.push hl2 _
    wp_walk using pyIter_sq hL1, pyIter_sq hL2
    exact ⟨_, rfl, h⟩
section
variable {prog : Program} {w : World} {A : Around} {E : Value → Shared → Prop} {s : Shared}
theorem zs_call {t1 t2 : Bool} {l1 l2 : Addr} {xs ys : Array Value} {Q : Value → Shared → Prop} (hl1 : Sq t1 s.heap l1 xs) (hl2 : Sq t2 s.heap l2 ys)
    (h : ∀ h', IsZip h' (s.heap.objs.size + 4) (s.heap.objs.size + 2) (s.heap.objs.size + 3) .none → IsPair h' (s.heap.objs.size + 2) (.ref s.heap.objs.size) (.ref (s.heap.objs.size + 1)) →
      IsPair h' (s.heap.objs.size + 3) .none .none → Itr t1 h' s.heap.objs.size l1 0 → Itr t2 h' (s.heap.objs.size + 1) l2 0 → h'.objs.size = s.heap.objs.size + 5 →
      (∀ c o, s.heap.get? c = some o → h'.get? c = some o) → Q (.ref (s.heap.objs.size + 4)) { s with heap := h' }) :
    wpAny (model prog w) A (call (.type "zip") [.ref l1, .ref l2]) Q E s := by
  refine callType_new F.called_zip (by decide) (F.typeCall_zip_2 _ _) (F.newCall_zip_2 _ _) (fun obj => F.args_object_init_3 obj _ _) F.entry_zip_new
    (zs_meets_new t1 t2 l1 l2 xs ys) ⟨hl1, hl2, ?_⟩
  have z1 : (zsH1 t1 s.heap l1).objs.size = s.heap.objs.size + 1 := Heap.size_push ..
  have z2 : (zsH2 t1 t2 s.heap l1 l2).objs.size = s.heap.objs.size + 2 := by rw [Heap.size_push, z1]
  have z3 : (zsH3 t1 t2 s.heap l1 l2).objs.size = s.heap.objs.size + 3 := by rw [Heap.size_push, z2]
  have z4 : (zsH4 t1 t2 s.heap l1 l2).objs.size = s.heap.objs.size + 4 := by rw [Heap.size_push, z3]
  have z5 : (zsH5 t1 t2 s.heap l1 l2).objs.size = s.heap.objs.size + 5 := by rw [Heap.size_push, z4]
  have g5 : (zsH5 t1 t2 s.heap l1 l2).get? (zsH4 t1 t2 s.heap l1 l2).objs.size = some _ := Heap.get?_push_size _ rfl
  have g4 : (zsH5 t1 t2 s.heap l1 l2).get? (zsH3 t1 t2 s.heap l1 l2).objs.size = some _ := Heap.get?_push_of_some _ (Heap.get?_push_size _ rfl)
  have g3 : (zsH5 t1 t2 s.heap l1 l2).get? (zsH2 t1 t2 s.heap l1 l2).objs.size = some _ := Heap.get?_push_of_some _ (Heap.get?_push_of_some _ (Heap.get?_push_size _ rfl))
  have g2 : (zsH5 t1 t2 s.heap l1 l2).get? (zsH1 t1 s.heap l1).objs.size = some _ := Heap.get?_push_of_some _ (Heap.get?_push_of_some _ (Heap.get?_push_of_some _ (Heap.get?_push_size _ (by cases t2 <;> rfl))))
  have g1 : (zsH5 t1 t2 s.heap l1 l2).get? s.heap.objs.size = some _ := Heap.get?_push_of_some _ (Heap.get?_push_of_some _ (Heap.get?_push_of_some _ (Heap.get?_push_of_some _ (Heap.get?_push_size _ (by cases t1 <;> rfl)))))
  show _ ∧ _
  rw [z2, z3, z4] at g5
  rw [z1, z2] at g3
  rw [z3] at g4
  rw [z1] at g2
  rw [z4]
  exact ⟨⟨_, g5, rfl⟩, h _ g5 g3 g4 (Itr.new g1) (Itr.new g2) z5 fun c o x =>
    Heap.get?_push_of_some _ (Heap.get?_push_of_some _ (Heap.get?_push_of_some _ (Heap.get?_push_of_some _ (Heap.get?_push_of_some _ x))))⟩
end
end Zs
set_option Elab.async false
set_option linter.all false
set_option maxRecDepth 100000
set_option maxHeartbeats 2000000
namespace Zs
open PySem
open AutoSeq1
theorem extend_tup (l : Addr) (items : Array Value) (n : Nat) (b : Addr) (items2 : Array Value) (n2 : Nat) (dd2 : Option Addr) (sl2 : Array (Option Value)) (hs0 : ¬(!items.isEmpty && Builtin.List.listTooLong (items.size + items2.size)) = true) (hs1 : items.size ≤ sizeLine) (hs2 : items.size + items2.size ≤ sizeLine + 1) :
    Meets (Builtin.«list.extend» ⟨[.ref l, .ref b], []⟩) (fun _ R s => s.heap.get? l = some { cls := .type "list", dict := none, data := .seq items n, slots := #[] } ∧ s.heap.get? b = some { cls := .type "tuple", dict := dd2, data := .seq items2 n2, slots := sl2 } ∧ R (.ok (.ret Value.none)) { s with heap := s.heap.update l (Obj.mapSeq fun x => x ++ items2), toks := s.toks }) :=
  .of_wp fun prog w A R s h => by
    obtain ⟨hp, g, d, tk, os⟩ := s; obtain ⟨hl, hb, h⟩ := h; have f1 := idx_int; have f2 := sub_tuple_tuple; have f3 := sub_list_list; have f4 := sub_tuple_list; have f5 := sub_list_tuple;
    have hz' : (items ++ items2).size ≤ sizeLine + 1 := by rw [Array.size_append]; exact hs2
    wp_walk using (wpAny_updateSeq hl rfl (hz := hs1) (_hz' := hz')), wpAny_loadPart' hl, wpAny_loadPart' hb; exact ⟨_, rfl, h⟩
end Zs
namespace L2
open PySem PySem.Spec PyProof.Rows
/-! ### zip over lists and tuples (t: a tuple) -/
def SqB (K : PySem.W.Frag) (t : Bool) (H : Hp) (a : Addr) (xs : List V) : Prop := match t with
  | true => SqT K H a xs
  | false => SqL K H a xs
theorem Inv.sqB {X : Cx} {pins : List (Addr × Obj)} {σ : St} {H : Hp} {s : Shared} {a : Addr} {xs : List V} {t : Bool} (I : Inv X pins σ H s) (h : SqB X.K t H a xs) : ∃ its : List Value, Vals xs its ∧ Zs.Sq t s.heap a its.toArray ∧ xs.length ≤ sizeLine := by
  cases t
  · obtain ⟨its, r, p, z⟩ := I.list h
    exact ⟨its, r, p.isList, z⟩
  · obtain ⟨its, r, p, z⟩ := I.tuple h
    exact ⟨its, r, p, z⟩
theorem Inv.sqB_inj {X : Cx} {pins : List (Addr × Obj)} {σ : St} {H : Hp} {s : Shared} {a : Addr} {xs ys : List V} {t : Bool} (I : Inv X pins σ H s) (h : SqB X.K t H a xs) (h' : SqB X.K t H a ys) : xs = ys := by
  cases t
  · exact I.list_inj h h'
  · exact I.tuple_inj h h'
def Itzs (K : PySem.W.Frag) (t1 t2 : Bool) (a b : Addr) : It :=
  ⟨fun i H => ∃ (xs ys : List V) (x y : V), SqB K t1 H a xs ∧ SqB K t2 H b ys ∧ xs[i]? = some x ∧ ys[i]? = some y,
    fun i H v H' => ∃ T x y, v = .ref T ∧ H T = none ∧ H' = upd H T (.tup [x, y]) ∧ (∀ xs, SqB K t1 H a xs → xs[i]? = some x) ∧ ∀ ys, SqB K t2 H b ys → ys[i]? = some y,
    fun i H => ∃ xs ys : List V, SqB K t1 H a xs ∧ SqB K t2 H b ys ∧ (xs.length ≤ i ∨ ys.length ≤ i)⟩
theorem turn_zs {P : Program} {w : World} {K : PySem.W.Frag} {elts : List Expr} {kk : Nat} {tpos : Pos} {t1 t2 : Bool} {a b z TI TO i1 i2 : Addr} (D : ZipApart z TI TO i1 i2 a b) :
    Turn P w K (.Tuple elts kk tpos) (Itzs K t1 t2 a b) [z, TI, TO, i1, i2] z (fun i h => IsZip h z TI TO .none ∧ IsPair h TI (.ref i1) (.ref i2) ∧ (∃ x y, IsPair h TO x y) ∧ Zs.Itr t1 h i1 a i ∧ Zs.Itr t2 h i2 b i) where
  mem := by simp
  obj := fun i h st c hc => by
    obtain ⟨hz, hTI, ⟨x, y, hTO⟩, w1, w2⟩ := st
    obtain ⟨o1, e1, d1⟩ := w1.obj
    obtain ⟨o2, e2, d2⟩ := w2.obj
    have e' : c = z ∨ c = TI ∨ c = TO ∨ c = i1 ∨ c = i2 := by simpa using hc
    rcases e' with q | q | q | q | q
    · rw [q]; exact ⟨_, hz, fun v q => nomatch q⟩
    · rw [q]; exact ⟨_, hTI, fun v q => nomatch q⟩
    · rw [q]; exact ⟨_, hTO, fun v q => nomatch q⟩
    · rw [q]; exact ⟨o1, e1, fun v q => by rw [d1] at q; cases q⟩
    · rw [q]; exact ⟨o2, e2, fun v q => by rw [d2] at q; cases q⟩
  keep := fun i h h' st k => by
    obtain ⟨hz, hTI, ⟨x, y, hTO⟩, h1, h2⟩ := st
    exact ⟨k z (by simp) _ hz, k TI (by simp) _ hTI, ⟨x, y, k TO (by simp) _ hTO⟩, h1.at fun o q => k i1 (by simp) o q, h2.at fun o q => k i2 (by simp) o q⟩
  item := by
    intro X hP hw hK hc i pins s σ H E I hf st hg
    subst hP hw hK
    obtain ⟨hz, hTI, ⟨x0, y0, hTO⟩, h1, h2⟩ := st
    obtain ⟨xs, ys, x, y, hqx, hqy, hx, hy⟩ := hg
    obtain ⟨its, rv, p, _⟩ := I.sqB hqx
    obtain ⟨its2, rv2, p2, _⟩ := I.sqB hqy
    obtain ⟨u, hu, ru⟩ := rv.get hx
    obtain ⟨u2, hu2, ru2⟩ := rv2.get hy
    have hzl : z < s.heap.objs.size := Heap.lt_size hz
    refine Zs.pyNext_item D hz hTI hTO h1 h2 p p2 (x := u) (y := u2) (by simpa using hu) (by simpa using hu2) fun h' z' TO' h1' h2' hT hsz hk => ?_
    refine ⟨_, rfl, wpAny_letOwnedTupleGo_zip (s := { s with heap := h' }) z' fun h'' z'' sb => ?_⟩
    have hT2 : h''.get? s.heap.objs.size = some { cls := .type "tuple", data := .seq #[u, u2] } := (sb.2 _ (Nat.ne_of_gt hzl)).trans hT
    have new : ObjOk X.prog X.w (upd H s.heap.objs.size (.tup [x, y])) h'' s.heap.objs.size (.tup [x, y]) :=
      ⟨by show 2 ≤ sizeLine; decide, [u, u2], .cons ru (.cons ru2 .nil), ⟨_, hT2, rfl, _, rfl⟩⟩
    have I1 : Inv X pins σ (upd H s.heap.objs.size (.tup [x, y])) { s with heap := h'' } :=
      I.turnedNew (t' := s.toks) (ch := [z, TI, TO, i1, i2]) (fun c o hb q => (sb.2 c (fun q' => hb (by simp [q']))).trans (hk c o (fun q' => hb (by simp [q'])) (fun q' => hb (by simp [q'])) (fun q' => hb (by simp [q'])) (fun q' => hb (by simp [q'])) q)) hf (Nat.le_refl _) new
    refine ⟨.ref s.heap.objs.size, _, I1, rfl, ⟨_, x, y, rfl, I.hok.fresh (Nat.le_refl _), rfl, fun l hl => by rw [I.sqB_inj hl hqx]; exact hx, fun l hl => by rw [I.sqB_inj hl hqy]; exact hy⟩, ⟨z'', ?_, ⟨u, u2, ?_⟩, ?_, ?_⟩, fun c hcm => ?_⟩
    · exact (sb.2 _ D.TIz).trans (hk _ _ D.TIz D.TITO D.TIi1 D.TIi2 hTI)
    · exact (sb.2 _ D.TOz).trans TO'
    · exact h1'.at fun o q => (sb.2 _ D.i1z).trans q
    · exact h2'.at fun o q => (sb.2 _ D.i2z).trans q
    · have hlt : c < s.heap.objs.size := by
        have e' : c = z ∨ c = TI ∨ c = TO ∨ c = i1 ∨ c = i2 := by simpa using hcm
        rcases e' with q | q | q | q | q
        · rw [q]; exact hzl
        · rw [q]; exact Heap.lt_size hTI
        · rw [q]; exact Heap.lt_size hTO
        · rw [q]; exact h1.lt
        · rw [q]; exact h2.lt
      rw [upd_ne (Nat.ne_of_lt hlt)]
      exact (hf c hcm).1
  done := by
    intro X hP hw hK hc i pins s σ H E I hf st hg
    subst hP hw hK
    obtain ⟨hz, hTI, ⟨x0, y0, hTO⟩, h1, h2⟩ := st
    obtain ⟨xs, ys, hqx, hqy, hend⟩ := hg
    obtain ⟨its, rv, p, _⟩ := I.sqB hqx
    obtain ⟨its2, rv2, p2, _⟩ := I.sqB hqy
    have l1 := rv.length
    have l2 := rv2.length
    have he : its.toArray[i]? = none ∨ its2.toArray[i]? = none := by
      rcases hend with q | q
      · exact .inl (by simp; omega)
      · exact .inr (by simp; omega)
    exact Zs.pyNext_end (I.ok.hd hc) D hz hTI hTO h1 h2 p p2 he fun h' hk => ⟨rfl, I.turnedL (t' := s.toks) (ch := [z, TI, TO, i1, i2]) (fun c o hb q =>
      hk c o (fun q' => hb (by simp [q'])) (fun q' => hb (by simp [q'])) (fun q' => hb (by simp [q'])) (fun q' => hb (by simp [q'])) q) hf⟩
  self := fun A i s Q E st h => wpAny_pyIter_zip st.1 h
def iZs (K : PySem.W.Frag) (t1 t2 : Bool) (ta : TA) : TI := fun σ H R => ta σ H fun vs H1 => ∃ a b xs ys, vs = [.ref a, .ref b] ∧ SqB K t1 H1 a xs ∧ SqB K t2 H1 b ys ∧ R (Itzs K t1 t2 a b) H1
theorem pi_zs (t1 t2 : Bool) {X : Cx} {e e2 : Expr} {ta : TA} {p pos tpos : Pos} {elts : List Expr} {kk : Nat} (hg : Gl X "zip") (hm : X.mg "zip" = none) (ha : PA X [e, e2] ta)
    (hs : starEach [e, e2] X.env = (false, eval e X.env) :: starEach [e2] X.env := by rfl) (hpl : (backTo pos (starEach [e2] X.env)).any (·.1) = false := by rfl) :
    PI X (.Tuple elts kk tpos) (.Call (.Name "zip" p) [e, e2] [] pos) (iZs X.K t1 t2 ta) := by
  intro pins s σ H R I h
  refine Call_ (ld_blt I hg hm boot_zip5 (PyProof.Rows.callWith_type1 (thn (ha pos pins s σ H _ I h) fun us s1 ⟨vs, H1, I1, r1, q1⟩ => ?_) hs hpl))
  obtain ⟨a, b, xs, ys, ex, hqx, hqy, q⟩ := q1
  subst ex
  cases r1 with
  | cons r rr =>
    cases rr with
    | cons r' rr =>
      cases rr
      cases r
      cases r'
      obtain ⟨its, rv, p1, _⟩ := I1.sqB hqx
      obtain ⟨its2, rv2, p2, _⟩ := I1.sqB hqy
      have la : a < s1.heap.objs.size := p1.lt
      have lb : b < s1.heap.objs.size := p2.lt
      refine Zs.zs_call p1 p2 fun h' hz hTI hTO h1 h2 hsz hk => wpAny_pyIter_zip hz ?_
      have I2 : Inv X pins σ H1 { s1 with heap := h' } := I1.kept (t' := s1.toks) hk
      refine ⟨s1.heap.objs.size + 4, [s1.heap.objs.size + 4, s1.heap.objs.size + 2, s1.heap.objs.size + 3, s1.heap.objs.size, s1.heap.objs.size + 1], _, _, H1, rfl, I2, turn_zs (PySem.W.ktu_apart s1.heap.objs.size a b la lb), ⟨hz, hTI, ⟨_, _, hTO⟩, h1, h2⟩, fun c hcm => ?_, q⟩
      have e' : c = s1.heap.objs.size + 4 ∨ c = s1.heap.objs.size + 2 ∨ c = s1.heap.objs.size + 3 ∨ c = s1.heap.objs.size ∨ c = s1.heap.objs.size + 1 := by simpa using hcm
      have hle : s1.heap.objs.size ≤ c := by
        rcases e' with z | z | z | z | z
        · rw [z]; exact Nat.le_add_right _ _
        · rw [z]; exact Nat.le_add_right _ _
        · rw [z]; exact Nat.le_add_right _ _
        · rw [z]; exact Nat.le_refl _
        · rw [z]; exact Nat.le_add_right _ _
      exact I1.fpOk hle (I1.hok.fresh hle)
/-- zip, both sequences left as they are -/
theorem for_zs {K : PySem.W.Frag} {t1 t2 : Bool} {a b : Addr} {xs ys : List V} {g : TG} {tb : TS} {D : Ends} {σ : St} {H : Hp} (Pv : Nat → St → Hp → Prop) (h0 : Pv 0 σ H)
    (hl : ∀ i σ H, Pv i σ H → SqB K t1 H a xs ∧ SqB K t2 H b ys)
    (hs : ∀ i x y σ H T, xs[i]? = some x → ys[i]? = some y → Pv i σ H → H T = none → g (.ref T) σ (upd H T (.tup [x, y])) fun σ2 H2 => tb { D with nx := Pv (i + 1), ct := Pv (i + 1), bk := D.nx } σ2 H2)
    (hd : ∀ i σ H, i = min xs.length ys.length → Pv i σ H → D.nx σ H) :
    ∃ W : Nat → Nat → St → Hp → Prop, (∃ m, W 0 m σ H) ∧ ∀ i m σ H, W i m σ H →
      ((Itzs K t1 t2 a b).stop i H ∧ D.nx σ H) ∨ ((Itzs K t1 t2 a b).go i H ∧ ∃ N : St → Hp → Prop, (∀ σ' H', N σ' H' → ∃ m', m' < m ∧ W (i + 1) m' σ' H') ∧ ∀ x H', (Itzs K t1 t2 a b).yld i H x H' → g x σ H' fun σ2 H2 => tb { D with nx := N, ct := N, bk := D.nx } σ2 H2) := by
  refine ⟨fun i m σ H => m = min xs.length ys.length - i ∧ i ≤ min xs.length ys.length ∧ Pv i σ H, ⟨min xs.length ys.length, by simp, Nat.zero_le _, h0⟩, ?_⟩
  rintro i m σ H ⟨rfl, hi, p⟩
  obtain ⟨q1, q2⟩ := hl i σ H p
  by_cases hlt : i < min xs.length ys.length
  · have h1 : i < xs.length := by omega
    have h2 : i < ys.length := by omega
    refine .inr ⟨⟨xs, ys, xs[i], ys[i], q1, q2, by simp [h1], by simp [h2]⟩, Pv (i + 1), fun σ' H' p' => ⟨min xs.length ys.length - (i + 1), by omega, rfl, hlt, p'⟩, fun x H' y => ?_⟩
    obtain ⟨T, x', y', rfl, hT, rfl, e1, e2⟩ := y
    exact hs i x' y' σ H T (e1 xs q1) (e2 ys q2) p hT
  · have e : i = min xs.length ys.length := by omega
    refine .inl ⟨⟨xs, ys, q1, q2, by omega⟩, hd i σ H e p⟩
/-- enumerate of a list that is left as it is -/
theorem for_enum {K : PySem.W.Frag} {a : Addr} {xs : List V} {g : TG} {tb : TS} {D : Ends} {σ : St} {H : Hp} (Pv : Nat → St → Hp → Prop) (h0 : Pv 0 σ H)
    (hl : ∀ i σ H, Pv i σ H → SqL K H a xs)
    (hs : ∀ i x σ H T, xs[i]? = some x → Pv i σ H → H T = none → g (.ref T) σ (upd H T (.tup [.int (i : Nat), x])) fun σ2 H2 => tb { D with nx := Pv (i + 1), ct := Pv (i + 1), bk := D.nx } σ2 H2)
    (hd : ∀ σ H, Pv xs.length σ H → D.nx σ H) :
    ∃ W : Nat → Nat → St → Hp → Prop, (∃ m, W 0 m σ H) ∧ ∀ i m σ H, W i m σ H →
      ((Ite K a).stop i H ∧ D.nx σ H) ∨ ((Ite K a).go i H ∧ ∃ N : St → Hp → Prop, (∀ σ' H', N σ' H' → ∃ m', m' < m ∧ W (i + 1) m' σ' H') ∧ ∀ x H', (Ite K a).yld i H x H' → g x σ H' fun σ2 H2 => tb { D with nx := N, ct := N, bk := D.nx } σ2 H2) := by
  refine ⟨fun i m σ H => m = xs.length - i ∧ i ≤ xs.length ∧ Pv i σ H, ⟨xs.length, by simp, Nat.zero_le _, h0⟩, ?_⟩
  rintro i m σ H ⟨rfl, hi, p⟩
  have q := hl i σ H p
  by_cases hlt : i < xs.length
  · refine .inr ⟨⟨xs, xs[i], q, by simp [hlt]⟩, Pv (i + 1), fun σ' H' p' => ⟨xs.length - (i + 1), by omega, rfl, hlt, p'⟩, fun x H' y => ?_⟩
    obtain ⟨T, x', rfl, hT, rfl, e1⟩ := y
    exact hs i x' σ H T (e1 xs q) p hT
  · have e : i = xs.length := by omega
    subst e
    exact .inl ⟨⟨xs, q, Nat.le_refl _⟩, hd σ H p⟩
/-- a comprehension over a range with a step -/
theorem lc_rangeC {lo c : Int} {n : Nat} {g : TG} {tt : TT} {te : TE} {vs : List Nat} {σ : St} {H1 : Hp} {D : Addr} {Qd : Hp → Prop} (Pv : Nat → Hp → Prop) (h0 : Pv 0 (upd H1 D (.lst [])))
    (hs : ∀ i H, i < n → Pv i H → g (.int (lo + (i : Nat) * c)) (wipe σ vs) H fun σ2 H2 => wipe σ2 vs = wipe σ vs ∧ tt σ2 H2 fun b H3 =>
      if b = true then te σ2 H3 fun y H4 => ∃ acc, H4 D = some (.lst acc) ∧ acc.length < sizeLine ∧ Pv (i + 1) (upd H4 D (.lst (acc ++ [y]))) else Pv (i + 1) H3) (hd : ∀ H, Pv n H → Qd H) :
    ∃ W : Nat → Nat → Hp → Prop, (∃ m, W 0 m (upd H1 D (.lst []))) ∧ ∀ i m H, W i m H →
      ((Itc lo c n).stop i H ∧ Qd H) ∨ ((Itc lo c n).go i H ∧ ∃ Nx : Hp → Prop, (∀ H', Nx H' → ∃ m', m' < m ∧ W (i + 1) m' H') ∧ ∀ x H', (Itc lo c n).yld i H x H' → g x (wipe σ vs) H' fun σ2 H2 => wipe σ2 vs = wipe σ vs ∧ tt σ2 H2 fun b H3 =>
        if b = true then te σ2 H3 fun y H4 => ∃ acc, H4 D = some (.lst acc) ∧ acc.length < sizeLine ∧ Nx (upd H4 D (.lst (acc ++ [y]))) else Nx H3) := by
  refine ⟨fun i m H => m = n - i ∧ i ≤ n ∧ Pv i H, ⟨n, by simp, Nat.zero_le _, h0⟩, ?_⟩
  rintro i m H ⟨rfl, hi, p⟩
  by_cases hlt : i < n
  · refine .inr ⟨hlt, Pv (i + 1), fun H' p' => ⟨n - (i + 1), by omega, rfl, hlt, p'⟩, fun x H' y => ?_⟩
    obtain ⟨e, y⟩ := y
    subst e y
    exact hs i _ hlt p
  · have e : i = n := by omega
    subst e
    exact .inl ⟨Nat.le_refl _, hd H p⟩
section
variable {X : Cx}
/-- t + u, any tuples -/
def rCatA (K : PySem.W.Frag) : R2 := fun x y H Q => ∃ a b xs ys, x = .ref a ∧ y = .ref b ∧ SqT K H a xs ∧ SqT K H b ys ∧ xs.length + ys.length ≤ sizeLine ∧
  (xs = [] → Q (.ref b) H) ∧ (xs ≠ [] → ys = [] → Q (.ref a) H) ∧ (xs ≠ [] → ys ≠ [] → ∀ p, H p = none → Q (.ref p) (upd H p (.tup (xs ++ ys))))
theorem op_catA : OpR X (binaryOp .Add) (rCatA X.K) := by
  intro pins s σ H x y v u Q I rx ry h
  obtain ⟨a, b, xs, ys, rfl, rfl, ha, hb, hz, q0, q1, q2⟩ := h
  cases rx
  cases ry
  by_cases hx : xs = []
  · obtain ⟨its, r1, p1, _⟩ := I.tuple ha
    obtain ⟨its2, r2, p2, _⟩ := I.tuple hb
    have ei : its = [] := r1.nil_iff.mpr hx
    obtain ⟨⟨cls, dd, data, sl⟩, ho, hc, n, hd⟩ := id p1
    obtain ⟨⟨cls2, dd2, data2, sl2⟩, ho2, hc2, n2, hd2⟩ := id p2
    simp only at hc hd hc2 hd2
    subst hc hd hc2 hd2
    exact concat_meets ⟨_, ho, rfl⟩ ⟨_, ho2, rfl⟩ noFill_tuple_add seq_tuple_add PySem.F.slot_tuple_add PySem.F.entry_tuple_add (PySem.F.args_tuple_add_2 _ _)
      (tuple_addW0 a b its.toArray its2.toArray n n2 dd dd2 sl sl2 (by simp [ei])) ⟨ho, ho2, ⟨.ref b, H, I, rfl, q0 hx⟩⟩
  · exact op_catT pins s σ H (.ref a) (.ref b) _ _ Q I rfl rfl ⟨a, b, xs, ys, rfl, rfl, ha, hb, hx, hz, q1 hx, q2 hx⟩
/-- xs.extend(t), t a tuple -/
def rExtendT : V → List V → Hp → VK → Prop := fun x vs H Q => ∃ l b xs zs, x = .ref l ∧ vs = [.ref b] ∧ H l = some (.lst xs) ∧ H b = some (.tup zs) ∧ xs.length + zs.length ≤ sizeLine ∧ Q .non (upd H l (.lst (xs ++ zs)))
theorem mt_extendT : MtM X "list.extend" rExtendT := by
  intro pins s σ H x vs v us Q I rx rv h
  obtain ⟨l, b, xs, zs, rfl, rfl, hH, hB, hz, q⟩ := h
  cases rx
  obtain ⟨u, rfl, ru⟩ := rv.one
  cases ru
  obtain ⟨z, its, n, r, hl, e⟩ := I.lstM hH
  obtain ⟨its2, r2, p2, z2⟩ := I.tuple (a := b) (xs := zs) (SqT.of hB)
  obtain ⟨⟨cls2, dd2, data2, sl2⟩, e2, hc2, n2, hd2⟩ := id p2
  simp only at hc2 hd2
  subst hc2 hd2
  have hl2 := r2.length
  have hsz : its.toArray.size + its2.toArray.size ≤ sizeLine := by rw [List.size_toArray, List.size_toArray]; omega
  have hlong : ¬ (!its.toArray.isEmpty && Builtin.List.listTooLong (its.toArray.size + its2.toArray.size)) = true := by
    rw [notLongL hsz, Bool.and_false]
    exact Bool.false_ne_true
  refine call_meets F.slot_list_extend ⟨_, e, rfl⟩ F.entry_list_extend (F.args_list_extend_2 _ _)
    (Zs.extend_tup l its.toArray n b its2.toArray n2 dd2 sl2 hlong (by rw [List.size_toArray]; omega) (by omega)) ⟨e, e2, ?_⟩
  refine ⟨.non, _, I.lset (its' := its ++ its2) hH e (by simp) (r.append r2) ?_, rfl, q⟩
  rw [List.length_append]
  omega
end
end L2
set_option linter.all false
set_option Elab.async false
/-! The mathematics: what the program does with plans, over plain lists, and the document's functions. -/
namespace Tm
open Si57
/-! ### rows in order, grown at their end -/
theorem rows_snoc (k : Nat) : ∀ n, rows k (n + 1) = (rows k n).flatMap fun p => (List.range (k + 1)).map fun t => p ++ [t]
  | 0 => by simp [rows, List.flatMap_cons, List.map_eq_flatMap]
  | n + 1 => by
    have ih := rows_snoc k n
    show (List.range (k + 1)).flatMap (fun t => (rows k (n + 1)).map fun l => t :: l) = _
    conv => lhs; rw [ih]
    show _ = ((List.range (k + 1)).flatMap fun t => (rows k n).map fun l => t :: l).flatMap _
    rw [List.flatMap_assoc]
    congr 1
    funext t
    rw [List.map_flatMap, List.flatMap_map]
    congr 1
    funext p
    rw [List.map_map]
    rfl
theorem rows_mem {k : Nat} : ∀ {n : Nat} {p : List Nat}, p ∈ rows k n → p.length = n ∧ ∀ t ∈ p, t ≤ k
  | 0, p, h => by
    have e : p = [] := by simpa [rows] using h
    subst e
    exact ⟨rfl, fun t ht => by cases ht⟩
  | n + 1, p, h => by
    rw [rows, List.mem_flatMap] at h
    obtain ⟨t, ht, h⟩ := h
    obtain ⟨l, hl, rfl⟩ := List.mem_map.mp h
    obtain ⟨e, a⟩ := rows_mem hl
    refine ⟨by rw [List.length_cons, e], fun u hu => ?_⟩
    rcases List.mem_cons.mp hu with rfl | hu
    · have := List.mem_range.mp ht
      omega
    · exact a u hu
theorem rows_length (k : Nat) : ∀ n, (rows k n).length = (k + 1) ^ n
  | 0 => rfl
  | n + 1 => by
    rw [rows_snoc, List.length_flatMap]
    have : ((rows k n).map fun p => ((List.range (k + 1)).map fun t => p ++ [t]).length) = (rows k n).map fun _ => k + 1 := by
      congr 1
      funext p
      rw [List.length_map, List.length_range]
    rw [this, List.map_const', List.sum_replicate_nat, rows_length k n, Nat.pow_succ]
/-! ### the best -/
def most (w : Wood) (l : List (List Nat)) : Nat := l.foldl (fun m p => max m (w.worth p)) 0
def bests (w : Wood) (l : List (List Nat)) : List (List Nat) := l.filter fun p => w.worth p == most w l
theorem most_snoc (w : Wood) (l : List (List Nat)) (p : List Nat) : most w (l ++ [p]) = max (most w l) (w.worth p) := by
  unfold most
  rw [List.foldl_append]
  rfl
theorem most_le_aux (w : Wood) : ∀ (l : List (List Nat)) (m : Nat), m ≤ l.foldl (fun m p => max m (w.worth p)) m ∧ ∀ p ∈ l, w.worth p ≤ l.foldl (fun m p => max m (w.worth p)) m
  | [], m => ⟨Nat.le_refl _, fun p hp => by cases hp⟩
  | q :: l, m => by
    obtain ⟨a, b⟩ := most_le_aux w l (max m (w.worth q))
    refine ⟨Nat.le_trans (Nat.le_max_left _ _) a, fun p hp => ?_⟩
    rcases List.mem_cons.mp hp with rfl | hp
    · exact Nat.le_trans (Nat.le_max_right _ _) a
    · exact b p hp
theorem le_most {w : Wood} {l : List (List Nat)} {p : List Nat} (h : p ∈ l) : w.worth p ≤ most w l := (most_le_aux w l 0).2 p h
theorem bests_snoc (w : Wood) (l : List (List Nat)) (p : List Nat) :
    bests w (l ++ [p]) = if most w l < w.worth p then [p] else if w.worth p = most w l then bests w l ++ [p] else bests w l := by
  have key : ∀ m, most w l ≤ m → (l.filter fun q => w.worth q == m) = if m = most w l then bests w l else [] := by
    intro m hm
    by_cases e : m = most w l
    · subst e
      rw [if_pos rfl]
      rfl
    · rw [if_neg e, List.filter_eq_nil_iff]
      intro q hq z
      have := le_most (w := w) hq
      have : w.worth q = m := eq_of_beq z
      omega
  show ((l ++ [p]).filter fun q => w.worth q == most w (l ++ [p])) = _
  rw [List.filter_append, most_snoc, key _ (Nat.le_max_left _ _)]
  by_cases h : most w l < w.worth p
  · rw [if_pos h, if_neg (by omega), List.nil_append, List.filter_cons, if_pos (by rw [beq_iff_eq]; omega), List.filter_nil]
  · rw [if_neg h, if_pos (by omega)]
    by_cases e : w.worth p = most w l
    · rw [if_pos e, List.filter_cons, if_pos (by rw [beq_iff_eq]; omega), List.filter_nil]
    · rw [if_neg e, List.filter_cons, if_neg (by rw [beq_iff_eq]; omega), List.filter_nil, List.append_nil]
def bestOf (w : Wood) (l : List (List Nat)) : Option Best := match bests w l with
  | [] => none
  | p :: _ => some ⟨most w l, (bests w l).length, p⟩
theorem snoc_ind {α : Type} {P : List α → Prop} (h0 : P []) (hs : ∀ l x, P l → P (l ++ [x])) : ∀ l, P l := by
  intro l
  have : ∀ r : List α, P r.reverse := by
    intro r
    induction r with
    | nil => exact h0
    | cons x r ih =>
      rw [List.reverse_cons]
      exact hs _ _ ih
  have h := this l.reverse
  rwa [List.reverse_reverse] at h
theorem bests_ne {w : Wood} : ∀ {l : List (List Nat)}, l ≠ [] → bests w l ≠ [] := by
  intro l
  induction l using snoc_ind with
  | h0 => intro h; exact absurd rfl h
  | hs l p ih =>
    intro _
    rw [bests_snoc]
    split
    · exact List.cons_ne_nil _ _
    · split
      · intro z
        cases hb : bests w l with
        | nil => rw [hb] at z; cases z
        | cons a r => rw [hb] at z; cases z
      · rename_i h1 h2
        have hm : 0 < most w l := by omega
        have : l ≠ [] := by
          intro e
          subst e
          exact Nat.lt_irrefl 0 hm
        exact ih this
theorem best_eq (w : Wood) : ∀ l, w.best l = bestOf w l := by
  intro l
  induction l using snoc_ind with
  | h0 => rfl
  | hs l p ih =>
    have e : w.best (l ++ [p]) = (match w.best l with
      | none => some ⟨w.worth p, 1, p⟩
      | some x => if x.worth < w.worth p then some ⟨w.worth p, 1, p⟩ else if x.worth = w.worth p then some ⟨x.worth, x.many + 1, x.plan⟩ else some x) := by
      unfold Wood.best
      rw [List.foldl_append]
      rfl
    rw [e, ih]
    unfold bestOf
    rw [bests_snoc, most_snoc]
    cases hb : bests w l with
    | nil =>
      have hl : l = [] := Classical.byContradiction fun h => bests_ne h hb
      subst hl
      show some _ = _
      have e0 : most w [] = 0 := rfl
      rw [e0]
      by_cases h : 0 < w.worth p
      · rw [if_pos h]
        show _ = some (Best.mk (max 0 (w.worth p)) 1 p)
        rw [Nat.max_eq_right (by omega)]
      · rw [if_neg h, if_pos (by omega)]
        show _ = some (Best.mk (max 0 (w.worth p)) 1 p)
        rw [Nat.max_eq_right (by omega)]
    | cons a r =>
      show (if most w l < w.worth p then _ else _) = _
      by_cases h : most w l < w.worth p
      · rw [if_pos h, if_pos h]
        show _ = some (Best.mk (max (most w l) (w.worth p)) 1 p)
        rw [Nat.max_eq_right (by omega)]
      · rw [if_neg h, if_neg h]
        show (if most w l = w.worth p then _ else _) = _
        by_cases e2 : w.worth p = most w l
        · rw [if_pos e2.symm, if_pos e2]
          show _ = some (Best.mk (max (most w l) (w.worth p)) (a :: (r ++ [p])).length a)
          rw [Nat.max_eq_left (by omega)]
          simp
        · rw [if_neg (fun z => e2 z.symm), if_neg e2]
          show _ = some (Best.mk (max (most w l) (w.worth p)) (a :: r).length a)
          rw [Nat.max_eq_left (by omega)]
/-! ### plans in which no two that stay are too near -/
def near2 (a b : Tree) (g : Nat) : Bool := decide (far a b < g * g)
def firstNear (rs : List (Nat × Nat)) (a b : Tree) : Nat := rs.findIdx fun r => near2 a b r.1
def hasRoom (p ls : List Nat) (t : Nat) : Bool := (p.zip ls).all fun q => !(decide (q.2 < q.1) && decide (q.2 < t))
def longer (ps : List (List Nat)) (ls : List Nat) (k : Nat) : List (List Nat) := ps.flatMap fun p => ((List.range (k + 1)).filter fun t => hasRoom p ls t).map fun t => p ++ [t]
def limits (rs : List (Nat × Nat)) (ts : List Tree) (i : Nat) : List Nat := (ts.take i).map fun o => firstNear rs o (ts.getD i ⟨0, 0, []⟩)
def spacedTo (rs : List (Nat × Nat)) (ts : List Tree) : Nat → List (List Nat)
  | 0 => [[]]
  | i + 1 => longer (spacedTo rs ts i) (limits rs ts i) rs.length
/-- what the beginning of a plan has to keep -/
def Clear (w : Wood) (p : List Nat) : Prop := ∀ a b, a < b → b < p.length → ¬ (firstNear w.rounds (w.tree a) (w.tree b) < p.getD a 0 ∧ firstNear w.rounds (w.tree a) (w.tree b) < p.getD b 0)
theorem room_iff {p ls : List Nat} {t : Nat} (hl : ls.length = p.length) : hasRoom p ls t = true ↔ ∀ a, a < p.length → ¬ (ls.getD a 0 < p.getD a 0 ∧ ls.getD a 0 < t) := by
  unfold hasRoom
  rw [List.all_eq_true]
  constructor
  · intro h a ha z
    have hq : (p.getD a 0, ls.getD a 0) ∈ p.zip ls := by
      refine List.mem_iff_getElem?.mpr ⟨a, ?_⟩
      rw [List.getElem?_zip_eq_some]
      have h1 : a < ls.length := by omega
      simp [List.getD, ha, h1]
    have := h _ hq
    rw [Bool.not_eq_true', Bool.and_eq_false_iff, decide_eq_false_iff_not, decide_eq_false_iff_not] at this
    exact this.elim (fun q => q z.1) fun q => q z.2
  · intro h q hq
    obtain ⟨a, ha⟩ := List.mem_iff_getElem?.mp hq
    rw [List.getElem?_zip_eq_some] at ha
    obtain ⟨h1, h2⟩ := ha
    obtain ⟨l1, e1⟩ := List.getElem?_eq_some_iff.mp h1
    have := h a l1
    have g1 : p.getD a 0 = q.1 := by simp [List.getD, h1]
    have g2 : ls.getD a 0 = q.2 := by simp [List.getD, h2]
    rw [g1, g2] at this
    simp
    omega
theorem getD_append_l {p : List Nat} {t a : Nat} (h : a < p.length) : (p ++ [t]).getD a 0 = p.getD a 0 := by
  simp [List.getD, List.getElem?_append_left h]
theorem getD_append_r {p : List Nat} {t : Nat} : (p ++ [t]).getD p.length 0 = t := by
  simp [List.getD]
theorem limits_len {rs : List (Nat × Nat)} {ts : List Tree} {i : Nat} (h : i ≤ ts.length) : (limits rs ts i).length = i := by
  unfold limits
  rw [List.length_map, List.length_take]
  omega
theorem limits_at {w : Wood} {i a : Nat} (h : i ≤ w.trees.length) (ha : a < i) : (limits w.rounds w.trees i).getD a 0 = firstNear w.rounds (w.tree a) (w.tree i) := by
  unfold limits Wood.tree
  have : a < w.trees.length := by omega
  simp [List.getD, List.getElem?_take, ha, this]
theorem clear_snoc {w : Wood} {p : List Nat} {t : Nat} (h : p.length ≤ w.trees.length) : Clear w (p ++ [t]) ↔ Clear w p ∧ hasRoom p (limits w.rounds w.trees p.length) t = true := by
  rw [room_iff (limits_len h)]
  constructor
  · intro c
    refine ⟨fun a b hab hb => ?_, fun a ha => ?_⟩
    · have := c a b hab (by rw [List.length_append]; omega)
      rw [getD_append_l (by omega), getD_append_l hb] at this
      exact this
    · have := c a p.length ha (by rw [List.length_append]; exact Nat.lt_succ_self _)
      rw [getD_append_l ha, getD_append_r] at this
      rw [limits_at h ha]
      exact this
  · rintro ⟨c, r⟩ a b hab hb
    rw [List.length_append] at hb
    have hb : b < p.length + 1 := hb
    by_cases e : b = p.length
    · subst e
      rw [getD_append_l hab, getD_append_r]
      have := r a hab
      rw [limits_at h hab] at this
      exact this
    · rw [getD_append_l (by omega), getD_append_l (by omega)]
      exact c a b hab (by omega)
open Classical in
theorem filter_snoc {c : List Nat → Prop} {room : List Nat → Nat → Bool} {k n : Nat} (h : ∀ p ∈ rows k n, ∀ t, c (p ++ [t]) ↔ c p ∧ room p t = true) :
    (rows k (n + 1)).filter (fun p => decide (c p)) = ((rows k n).filter (fun p => decide (c p))).flatMap fun p => ((List.range (k + 1)).filter fun t => room p t).map fun t => p ++ [t] := by
  rw [rows_snoc, List.filter_flatMap]
  generalize rows k n = l at h
  induction l with
  | nil => rfl
  | cons p l ih =>
    rw [List.flatMap_cons, ih (fun q hq => h q (List.mem_cons_of_mem _ hq)), List.filter_cons]
    have hp := h p (List.mem_cons_self ..)
    have e : ∀ t, decide (c (p ++ [t])) = (decide (c p) && room p t) := fun t => by
      rw [Bool.eq_iff_iff, decide_eq_true_iff, Bool.and_eq_true, decide_eq_true_iff]
      exact hp t
    rw [List.filter_map]
    by_cases cp : c p
    · rw [if_pos (by rw [decide_eq_true_iff]; exact cp), List.flatMap_cons]
      congr 2
      congr 1
      funext t
      show decide (c (p ++ [t])) = room p t
      rw [e t, decide_eq_true cp, Bool.true_and]
    · rw [if_neg (by rw [decide_eq_true_iff]; exact cp)]
      have : (List.range (k + 1)).filter ((fun p => decide (c p)) ∘ fun t => p ++ [t]) = [] := by
        rw [List.filter_eq_nil_iff]
        intro t _ z
        have z : decide (c (p ++ [t])) = true := z
        rw [e t, decide_eq_false cp, Bool.false_and] at z
        cases z
      rw [this]
      rfl
open Classical in
theorem spaced_eq (w : Wood) : ∀ i, i ≤ w.trees.length → spacedTo w.rounds w.trees i = (rows w.rounds.length i).filter fun p => decide (Clear w p)
  | 0, _ => by
    have : Clear w [] := fun a b _ hb => absurd hb (Nat.not_lt_zero _)
    show [[]] = ([[]] : List (List Nat)).filter _
    rw [List.filter_cons, if_pos (by rw [decide_eq_true_iff]; exact this), List.filter_nil]
  | i + 1, h => by
    have ih := spaced_eq w i (by omega)
    rw [filter_snoc (c := Clear w) (room := fun p t => hasRoom p (limits w.rounds w.trees i) t) (fun p hp t => by
      have e := (rows_mem hp).1
      have := clear_snoc (w := w) (p := p) (t := t) (by omega)
      rw [e] at this
      exact this)]
    show longer (spacedTo w.rounds w.trees i) _ _ = _
    rw [ih]
    rfl
/-! ### enough stay -/
def stay (p : List Nat) (j : Nat) : Nat := (p.filter fun t => decide (j < t)).length
def enough (rs : List (Nat × Nat)) (p : List Nat) : Bool := (List.range rs.length).all fun j => decide ((rs.getD j (0, 0)).2 ≤ stay p j)
theorem range_getD : ∀ l : List Nat, (List.range l.length).map (fun i => l.getD i 0) = l := by
  intro l
  refine List.ext_getElem (by simp) fun i h1 h2 => ?_
  simp [List.getD, h2]
theorem stays_len (l : List Nat) (j : Nat) : (stays l j).length = stay l j := by
  unfold stays stay
  conv => rhs; rw [← range_getD l, List.filter_map, List.length_map]
  rfl
theorem mem_pairs {n a b : Nat} : (a, b) ∈ pairs n ↔ a < b ∧ b < n := by
  unfold pairs
  simp only [List.mem_flatMap, List.mem_range, List.mem_map, List.mem_filter, Prod.mk.injEq, decide_eq_true_iff]
  constructor
  · rintro ⟨x, hx, y, ⟨hy, hxy⟩, rfl, rfl⟩
    exact ⟨hxy, hy⟩
  · rintro ⟨h1, h2⟩
    exact ⟨a, by omega, b, ⟨h2, h1⟩, rfl, rfl⟩
theorem gap_at {w : Wood} {j : Nat} (h : j < w.rounds.length) : w.rounds[j] = (w.gap j, w.least j) := by
  unfold Wood.gap Wood.least
  simp [List.getD, h]
theorem near_eq (w : Wood) (j a b : Nat) : w.near j (a, b) = near2 (w.tree a) (w.tree b) (w.gap j) := rfl
theorem first_le {w : Wood} {a b : Tree} {j : Nat} (hj : j < w.rounds.length) (h : near2 a b (w.gap j) = true) : firstNear w.rounds a b ≤ j := by
  unfold firstNear
  refine Classical.byContradiction fun z => ?_
  have z : j < w.rounds.findIdx fun r => near2 a b r.1 := by omega
  have := List.not_of_lt_findIdx z
  rw [gap_at hj, h] at this
  cases this
theorem first_near {w : Wood} {a b : Tree} (h : firstNear w.rounds a b < w.rounds.length) : near2 a b (w.gap (firstNear w.rounds a b)) = true := by
  have := List.findIdx_getElem (p := fun r : Nat × Nat => near2 a b r.1) (xs := w.rounds) (w := h)
  have e := gap_at (w := w) (j := firstNear w.rounds a b) h
  unfold firstNear at e
  rw [e] at this
  exact this
theorem bad_none {w : Wood} {l : List Nat} {j : Nat} : w.bad l j = none ↔ (∀ a b, a < b → b < l.length → ¬ (j < l.getD a 0 ∧ j < l.getD b 0 ∧ w.near j (a, b) = true)) ∧ w.least j ≤ stay l j := by
  unfold Wood.bad
  rw [stays_len]
  cases e : (pairs l.length).find? fun p => decide (j < l.getD p.1 0) && (decide (j < l.getD p.2 0) && w.near j p) with
  | some p =>
    obtain ⟨a, b⟩ := p
    have h1 := List.find?_some e
    have h2 := mem_pairs.mp (List.mem_of_find?_eq_some e)
    simp at h1
    constructor
    · intro z; cases z
    · rintro ⟨c, _⟩
      exact absurd h1 (c a b h2.1 h2.2)
  | none =>
    have h1 := List.find?_eq_none.mp e
    have c : ∀ a b, a < b → b < l.length → ¬ (j < l.getD a 0 ∧ j < l.getD b 0 ∧ w.near j (a, b) = true) := fun a b hab hb z => by
      have := h1 (a, b) (mem_pairs.mpr ⟨hab, hb⟩)
      apply this
      simp only [Bool.and_eq_true, decide_eq_true_iff]
      exact z
    show (if stay l j < w.least j then _ else _) = _ ↔ _
    by_cases h : stay l j < w.least j
    · rw [if_pos h]
      constructor
      · intro z; cases z
      · rintro ⟨_, z⟩; omega
    · rw [if_neg h]
      exact ⟨fun _ => ⟨c, by omega⟩, fun _ => rfl⟩
theorem wrong_none {w : Wood} {l : List Nat} : w.wrong l = none ↔ ∀ j, j < w.rounds.length → w.bad l j = none := by
  unfold Wood.wrong
  rw [List.findSome?_eq_none_iff]
  exact ⟨fun h j hj => h j (List.mem_range.mpr hj), fun h j hj => h j (List.mem_range.mp hj)⟩
theorem right_iff {w : Wood} {p : List Nat} (h1 : p.length = w.trees.length) (h2 : ∀ t ∈ p, t ≤ w.rounds.length) : w.right p = true ↔ Clear w p ∧ enough w.rounds p = true := by
  have ht : w.told p = true := by
    unfold Wood.told
    rw [Bool.and_eq_true, beq_iff_eq, List.all_eq_true]
    exact ⟨h1, fun t ht => by rw [decide_eq_true_iff]; exact h2 t ht⟩
  have hle : ∀ a, a < p.length → p.getD a 0 ≤ w.rounds.length := fun a ha => h2 _ (by simp [List.getD, ha])
  unfold Wood.right
  rw [ht, Bool.true_and, Option.isNone_iff_eq_none, wrong_none]
  unfold enough
  rw [List.all_eq_true]
  constructor
  · intro c
    refine ⟨fun a b hab hb z => ?_, fun j hj => ?_⟩
    · have hL : firstNear w.rounds (w.tree a) (w.tree b) < w.rounds.length := Nat.lt_of_lt_of_le z.1 (hle a (by omega))
      exact (bad_none.mp (c _ hL)).1 a b hab hb ⟨z.1, z.2, by rw [near_eq]; exact first_near hL⟩
    · rw [decide_eq_true_iff]
      exact (bad_none.mp (c j (List.mem_range.mp hj))).2
  · rintro ⟨c, e⟩ j hj
    refine bad_none.mpr ⟨fun a b hab hb z => ?_, ?_⟩
    · have hL := first_le (w := w) hj (by rw [← near_eq]; exact z.2.2)
      exact c a b hab hb ⟨by omega, by omega⟩
    · have := e j (List.mem_range.mpr hj)
      rw [decide_eq_true_iff] at this
      exact this
def lawful (rs : List (Nat × Nat)) (ts : List Tree) : List (List Nat) := (spacedTo rs ts ts.length).filter fun p => enough rs p
open Classical in
theorem lawful_eq (w : Wood) : lawful w.rounds w.trees = w.plans := by
  unfold lawful Wood.plans
  rw [spaced_eq w _ (Nat.le_refl _), List.filter_filter]
  refine List.filter_congr fun p hp => ?_
  obtain ⟨e1, e2⟩ := rows_mem hp
  rw [Bool.eq_iff_iff, Bool.and_eq_true, decide_eq_true_iff, right_iff e1 e2]
  exact ⟨fun z => ⟨z.2, z.1⟩, fun z => ⟨z.2, z.1⟩⟩
theorem spaced_le (w : Wood) (i : Nat) (h : i ≤ w.trees.length) : (spacedTo w.rounds w.trees i).length ≤ (w.rounds.length + 1) ^ i := by
  rw [spaced_eq w i h, ← rows_length]
  exact List.length_filter_le _ _
theorem spaced_mem {w : Wood} {i : Nat} (h : i ≤ w.trees.length) {p : List Nat} (hp : p ∈ spacedTo w.rounds w.trees i) : p.length = i ∧ ∀ t ∈ p, t ≤ w.rounds.length := by
  rw [spaced_eq w i h] at hp
  exact rows_mem (List.mem_filter.mp hp).1
/-! ### what a plan is worth -/
def worthZ (ts : List Tree) (p : List Nat) : Nat := ((ts.zip p).map fun q => q.1.values.getD q.2 0).sum
theorem worth_eq {w : Wood} {p : List Nat} (h : p.length = w.trees.length) : worthZ w.trees p = w.worth p := by
  unfold worthZ Wood.worth Wood.tree
  congr 1
  refine List.ext_getElem (by simp; omega) fun i h1 h2 => ?_
  have a1 : i < w.trees.length := by simp at h2; omega
  have a2 : i < p.length := by simp at h2; exact h2
  simp [List.getD, a1, a2]
/-! ### how far apart -/
theorem apart_sq (x y : Nat) : ((x : Int) - y) * ((x : Int) - y) = ((apart x y * apart x y : Nat) : Int) := by
  unfold apart
  by_cases h : x ≤ y
  · have e : (x : Int) - y = -((y - x : Nat) : Int) := by omega
    have e2 : x - y + (y - x) = y - x := by omega
    rw [e, e2, Int.neg_mul_neg, Int.natCast_mul]
  · have e : (x : Int) - y = ((x - y : Nat) : Int) := by omega
    have e2 : x - y + (y - x) = x - y := by omega
    rw [e, e2, Int.natCast_mul]
theorem near_int (a b : Tree) (g : Nat) : decide (((a.x : Int) - b.x) * ((a.x : Int) - b.x) + ((a.y : Int) - b.y) * ((a.y : Int) - b.y) < (g : Int) * g) = near2 a b g := by
  unfold near2 far
  rw [apart_sq, apart_sq]
  congr 1
  rw [eq_iff_iff]
  rw [← Int.natCast_mul, ← Int.natCast_add]
  exact Int.ofNat_lt
/-! ### pairs too near -/
def treeAt (ts : List Tree) (i : Nat) : Tree := ts.getD i ⟨0, 0, []⟩
def rowN (ts : List Tree) (g a j : Nat) : List (Nat × Nat) := ((List.range j).filter fun b => near2 (treeAt ts a) (treeAt ts (a + 1 + b)) g).map fun b => (a, a + 1 + b)
def prsTo (ts : List Tree) (g i : Nat) : List (Nat × Nat) := (List.range i).flatMap fun a => rowN ts g a (ts.length - (a + 1))
theorem rowN_succ (ts : List Tree) (g a j : Nat) : rowN ts g a (j + 1) = rowN ts g a j ++ (if near2 (treeAt ts a) (treeAt ts (a + 1 + j)) g = true then [(a, a + 1 + j)] else []) := by
  unfold rowN
  rw [List.range_succ, List.filter_append, List.map_append, List.filter_cons]
  split <;> rfl
theorem prsTo_succ (ts : List Tree) (g i : Nat) : prsTo ts g (i + 1) = prsTo ts g i ++ rowN ts g i (ts.length - (i + 1)) := by
  unfold prsTo
  rw [List.range_succ, List.flatMap_append, List.flatMap_cons, List.flatMap_nil, List.append_nil]
theorem rowN_len (ts : List Tree) (g a j : Nat) : (rowN ts g a j).length ≤ j := by
  unfold rowN
  rw [List.length_map]
  exact Nat.le_trans (List.length_filter_le _ _) (by simp)
theorem prsTo_len (ts : List Tree) (g : Nat) : ∀ i, (prsTo ts g i).length ≤ i * ts.length
  | 0 => by simp [prsTo]
  | i + 1 => by
    rw [prsTo_succ, List.length_append, Nat.succ_mul]
    have := prsTo_len ts g i
    have := rowN_len ts g i (ts.length - (i + 1))
    omega
theorem above_eq (a : Nat) : ∀ n, (List.range n).filter (fun b => decide (a < b)) = (List.range (n - (a + 1))).map fun b => a + 1 + b
  | 0 => by simp
  | n + 1 => by
    rw [List.range_succ, List.filter_append, above_eq a n, List.filter_cons, List.filter_nil]
    by_cases h : a < n
    · rw [if_pos (by simpa using h)]
      have e : n + 1 - (a + 1) = (n - (a + 1)) + 1 := by omega
      rw [e, List.range_succ, List.map_append]
      congr 1
      show [n] = [a + 1 + (n - (a + 1))]
      congr 1
      omega
    · rw [if_neg (by simpa using h), List.append_nil]
      have e : n - (a + 1) = 0 := by omega
      have e' : n + 1 - (a + 1) = 0 := by omega
      rw [e, e']
theorem prs_eq (w : Wood) (j : Nat) : prsTo w.trees (w.gap j) w.trees.length = (pairs w.trees.length).filter (w.near j) := by
  unfold prsTo pairs
  rw [List.filter_flatMap]
  congr 1
  funext a
  rw [above_eq, List.map_map, List.filter_map]
  rfl
/-! ### longer plans, one by one -/
def longRow (p ls : List Nat) (j : Nat) : List (List Nat) := ((List.range j).filter fun t => hasRoom p ls t).map fun t => p ++ [t]
theorem longRow_succ (p ls : List Nat) (j : Nat) : longRow p ls (j + 1) = longRow p ls j ++ (if hasRoom p ls j = true then [p ++ [j]] else []) := by
  unfold longRow
  rw [List.range_succ, List.filter_append, List.map_append, List.filter_cons]
  split <;> rfl
theorem longRow_len (p ls : List Nat) (j : Nat) : (longRow p ls j).length ≤ j := by
  unfold longRow
  rw [List.length_map]
  exact Nat.le_trans (List.length_filter_le _ _) (by simp)
theorem longer_snoc (ps : List (List Nat)) (p ls : List Nat) (k : Nat) : longer (ps ++ [p]) ls k = longer ps ls k ++ longRow p ls (k + 1) := by
  unfold longer longRow
  rw [List.flatMap_append, List.flatMap_cons, List.flatMap_nil, List.append_nil]
theorem longer_len (ls : List Nat) (k : Nat) : ∀ ps : List (List Nat), (longer ps ls k).length ≤ ps.length * (k + 1)
  | [] => by simp [longer]
  | p :: ps => by
    have ih := longer_len ls k ps
    have h : longer (p :: ps) ls k = longRow p ls (k + 1) ++ longer ps ls k := by
      unfold longer longRow
      rw [List.flatMap_cons]
    have := longRow_len p ls (k + 1)
    rw [h, List.length_append, List.length_cons, Nat.succ_mul]
    omega
theorem longer_mem {ps : List (List Nat)} {ls : List Nat} {k n : Nat} (h : ∀ p ∈ ps, p.length = n) : ∀ q ∈ longer ps ls k, q.length = n + 1 := by
  intro q hq
  unfold longer at hq
  obtain ⟨p, hp, hq⟩ := List.mem_flatMap.mp hq
  obtain ⟨t, _, rfl⟩ := List.mem_map.mp hq
  rw [List.length_append, h p hp]
  rfl
theorem spaced_bound {rs : List (Nat × Nat)} {ts : List Tree} {i : Nat} (h1 : rs.length ≤ 3) (h2 : i ≤ 7) (h : i ≤ ts.length) : (spacedTo rs ts i).length ≤ 16384 := by
  have := spaced_le ⟨rs, ts⟩ i h
  refine Nat.le_trans this ?_
  show (rs.length + 1) ^ i ≤ 16384
  refine Nat.le_trans (Nat.pow_le_pow_left (show rs.length + 1 ≤ 4 by omega) i) ?_
  exact Nat.le_trans (Nat.pow_le_pow_right (by decide) h2) (by decide)
theorem spaced_len {rs : List (Nat × Nat)} {ts : List Tree} {i : Nat} (h : i ≤ ts.length) {p : List Nat} (hp : p ∈ spacedTo rs ts i) : p.length = i := (spaced_mem (w := ⟨rs, ts⟩) h hp).1
theorem sum_snoc (l : List Nat) (z : Nat) : (l ++ [z]).sum = l.sum + z := by
  rw [List.sum_append]
  simp
theorem worthZ_take {ts : List Tree} {p : List Nat} {i : Nat} {q : Tree × Nat} (h : (ts.zip p)[i]? = some q) : (((ts.zip p).take (i + 1)).map fun q => q.1.values.getD q.2 0).sum = (((ts.zip p).take i).map fun q => q.1.values.getD q.2 0).sum + q.1.values.getD q.2 0 := by
  rw [List.take_succ, h, List.map_append]
  exact sum_snoc _ _
end Tm
set_option linter.all false
set_option Elab.async false
/-! The list of calls, call by call; the wood behind them. -/
namespace Tm
open Si57
/-! ### calls as one list -/
/-- a call of one row -/
def One (c : List (List Int)) : Prop := ∃ z zs, c = [z :: zs]
theorem put_cons (z : Int) (zs : List Int) (cs : List (List (List Int))) : PyWide.put ([z :: zs] :: cs) = z :: (zs.length : Int) :: (zs ++ 0 :: PyWide.put cs) := by
  show (z :: (PyFlat.putRow zs ++ ((0 : Nat) : Int) :: PyFlat.putRows [])) ++ PyWide.put cs = _
  show z :: (((zs.length : Int) :: zs) ++ [0]) ++ PyWide.put cs = _
  simp
theorem put_append (cs ds : List (List (List Int))) : PyWide.put (cs ++ ds) = PyWide.put cs ++ PyWide.put ds := by
  induction cs with
  | nil => rfl
  | cons c cs ih =>
    show PyWide.put1 c ++ PyWide.put (cs ++ ds) = PyWide.put1 c ++ PyWide.put cs ++ PyWide.put ds
    rw [ih, List.append_assoc]
/-- where the calls cs end -/
def endOf (cs : List (List (List Int))) : Nat := (PyWide.put cs).length
theorem endOf_snoc (cs : List (List (List Int))) (z : Int) (zs : List Int) : endOf (cs ++ [[z :: zs]]) = endOf cs + 2 + zs.length + 1 := by
  unfold endOf
  rw [put_append, List.length_append, put_cons]
  show _ + (zs ++ 0 :: PyWide.put []).length.succ.succ = _
  rw [List.length_append]
  show _ + (zs.length + 1 + 2) = _
  omega
theorem at_call {cs ds : List (List (List Int))} {z : Int} {zs : List Int} : (PyWide.put (cs ++ [z :: zs] :: ds))[endOf cs]? = some z := by
  unfold endOf
  rw [put_append, List.getElem?_append_right (Nat.le_refl _), Nat.sub_self, put_cons]
  rfl
theorem at_count {cs ds : List (List (List Int))} {z : Int} {zs : List Int} : (PyWide.put (cs ++ [z :: zs] :: ds))[endOf cs + 1]? = some (zs.length : Int) := by
  unfold endOf
  rw [put_append, List.getElem?_append_right (by omega), put_cons, Nat.add_sub_cancel_left]
  rfl
theorem at_numbers {cs ds : List (List (List Int))} {z : Int} {zs : List Int} : ((PyWide.put (cs ++ [z :: zs] :: ds)).drop (endOf cs + 2)).take zs.length = zs := by
  unfold endOf
  rw [put_append, List.drop_append, List.drop_of_length_le (by omega), Nat.add_sub_cancel_left, put_cons, List.nil_append]
  show (zs ++ 0 :: PyWide.put ds).take zs.length = zs
  rw [List.take_append_of_le_length (Nat.le_refl _), List.take_length]
theorem end_lt {cs ds : List (List (List Int))} {z : Int} {zs : List Int} : endOf cs + 2 + zs.length < (PyWide.put (cs ++ [z :: zs] :: ds)).length := by
  unfold endOf
  rw [put_append, List.length_append, put_cons]
  show _ < _ + (zs ++ 0 :: PyWide.put ds).length.succ.succ
  rw [List.length_append, List.length_cons]
  omega
/-! ### the machine, call by call -/
def after (s : Wood) (cs : List (List (List Int))) : Wood := cs.foldl (fun s c => (Si57Neutral.step s c).1) s
theorem after_snoc (s : Wood) (cs : List (List (List Int))) (c : List (List Int)) : after s (cs ++ [c]) = (Si57Neutral.step (after s cs) c).1 := by
  unfold after
  rw [List.foldl_append]
  rfl
def outs (s : Wood) (cs : List (List (List Int))) : List Int := PyFlat.told (PyFlat.played Si57Neutral.step s cs)
theorem outs_snoc : ∀ (cs : List (List (List Int))) (s : Wood) (c : List (List Int)), outs s (cs ++ [c]) = outs s cs ++ (((Si57Neutral.step (after s cs) c).2.length : Int) :: (Si57Neutral.step (after s cs) c).2)
  | [], s, c => by simp [outs, PyFlat.told, PyFlat.played, after]
  | d :: cs, s, c => by
    have ih := outs_snoc cs (Si57Neutral.step s d).1 c
    show (((Si57Neutral.step s d).2.length : Int) :: (Si57Neutral.step s d).2) ++ outs (Si57Neutral.step s d).1 (cs ++ [c]) = (((Si57Neutral.step s d).2.length : Int) :: (Si57Neutral.step s d).2) ++ outs (Si57Neutral.step s d).1 cs ++ _
    rw [ih, ← List.append_assoc]
    rfl
theorem outs_len : ∀ (cs : List (List (List Int))) (s : Wood) (n : Nat), Si57Neutral.short s n cs = true → (outs s cs).length ≤ n + cs.length
  | [], s, n, _ => by simp [outs, PyFlat.told, PyFlat.played]
  | d :: cs, s, n, h => by
    have h : (decide ((Si57Neutral.step s d).2.length ≤ n) && Si57Neutral.short (Si57Neutral.step s d).1 (n - (Si57Neutral.step s d).2.length) cs) = true := h
    rw [Bool.and_eq_true, decide_eq_true_iff] at h
    have ih := outs_len cs _ _ h.2
    show ((((Si57Neutral.step s d).2.length : Int) :: (Si57Neutral.step s d).2) ++ outs (Si57Neutral.step s d).1 cs).length ≤ n + (cs.length + 1)
    rw [List.length_append, List.length_cons]
    omega
theorem outs_mono (cs ds : List (List (List Int))) : ∀ s : Wood, (outs s cs).length ≤ (outs s (cs ++ ds)).length := by
  induction cs with
  | nil => intro s; simp [outs, PyFlat.told, PyFlat.played]
  | cons d cs ih =>
    intro s
    have := ih (Si57Neutral.step s d).1
    show ((((Si57Neutral.step s d).2.length : Int) :: (Si57Neutral.step s d).2) ++ outs (Si57Neutral.step s d).1 cs).length ≤ ((((Si57Neutral.step s d).2.length : Int) :: (Si57Neutral.step s d).2) ++ outs (Si57Neutral.step s d).1 (cs ++ ds)).length
    rw [List.length_append, List.length_append]
    omega
/-! ### what is asked -/
structure Asked (l : List Int) (cs : List (List (List Int))) : Prop where
  eq : l = PyWide.put cs
  one : ∀ c ∈ cs, ∃ z zs q, c = [z :: zs] ∧ 0 ≤ z ∧ z < 4294967296 ∧ (∀ y ∈ zs, 0 ≤ y ∧ y < 4294967296) ∧ Si57Neutral.callOf (z :: zs) = some q
  many : cs.length ≤ 60
  short : Si57Neutral.short Si57Neutral.start 999999 cs = true
theorem asked_of {l : List Int} (h : PySi57.answers_asked l = true) : ∃ cs, Asked l cs ∧ PySi57.answers l = outs Si57Neutral.start cs := by
  unfold PySi57.answers_asked at h
  unfold PySi57.answers
  cases e : PySi57.calls l with
  | none =>
    rw [e] at h
    cases h
  | some cs =>
    rw [e] at h
    have h : (PyFlat.atMost 60 cs && Si57Neutral.asked cs) = true := h
    unfold Si57Neutral.asked at h
    simp only [Bool.and_eq_true] at h
    obtain ⟨h1, h2, h3, h4, h5, h6⟩ := h
    obtain ⟨p1, p2⟩ := PyWide.put_calls _ _ _ e
    refine ⟨cs, ⟨p1, fun c hc => ?_, of_decide_eq_true h1, h6⟩, rfl⟩
    have a := List.all_eq_true.mp h2 c hc
    unfold Si57Neutral.asked1 at a
    simp only [Bool.and_eq_true] at a
    obtain ⟨a1, a2, a3⟩ := a
    obtain ⟨p, ns, xs, rfl⟩ := p2 c hc
    have ex : xs = [] := by
      have : (xs.length + 1 == 1) = true := a1
      rw [beq_iff_eq] at this
      exact List.length_eq_zero_iff.mp (by omega)
    subst ex
    have a2 : ((p :: ns).all fun z => Si57Neutral.natural z 32) = true := a2
    have nat : ∀ y ∈ p :: ns, 0 ≤ y ∧ y < 4294967296 := fun y hy => by
      have := List.all_eq_true.mp a2 y hy
      unfold Si57Neutral.natural at this
      rw [Bool.and_eq_true, decide_eq_true_iff, decide_eq_true_iff] at this
      exact this
    have a3 : (Si57Neutral.callOf (p :: ns)).isSome = true := a3
    obtain ⟨q, hq⟩ := Option.isSome_iff_exists.mp a3
    exact ⟨p, ns, q, rfl, (nat p (List.mem_cons_self ..)).1, (nat p (List.mem_cons_self ..)).2, fun y hy => nat y (List.mem_cons_of_mem _ hy), hq⟩
/-! ### what holds of a wood -/
structure WdOk (w : Wood) : Prop where
  r1 : 1 ≤ w.rounds.length
  r3 : w.rounds.length ≤ 3
  rd : ∀ r ∈ w.rounds, r.1 ≤ 2000 ∧ r.2 ≤ 7
  t7 : w.trees.length ≤ 7
  tr : ∀ t ∈ w.trees, t.x ≤ 1000 ∧ t.y ≤ 1000 ∧ t.values.length = w.rounds.length + 1 ∧ ∀ v ∈ t.values, v ≤ 1000000
theorem ok_init : WdOk Si57.init := ⟨by decide, by decide, (fun r hr => (List.mem_singleton.mp hr) ▸ ⟨by decide, by decide⟩), by decide, (fun t ht => by cases ht)⟩
theorem ok_step {w : Wood} (h : WdOk w) (q : Call) : WdOk (Si57.step w q).1 := by
  cases q with
  | begins r =>
    show WdOk (if r = [] ∨ ROUNDS < r.length ∨ (r.all fun x => decide (x.1 ≤ 2 * FAR) && decide (x.2 ≤ TREES)) = false then (w, ok (-1)) else (⟨r, []⟩, ok r.length)).1
    split
    · exact h
    · rename_i c
      have c1 : r ≠ [] := fun z => c (.inl z)
      have c2 : ¬ ROUNDS < r.length := fun z => c (.inr (.inl z))
      have c3 : (r.all fun x => decide (x.1 ≤ 2 * FAR) && decide (x.2 ≤ TREES)) = true := by
        cases e : r.all fun x => decide (x.1 ≤ 2 * FAR) && decide (x.2 ≤ TREES) with
        | true => rfl
        | false => exact absurd (.inr (.inr e)) c
      have l0 : r.length ≠ 0 := fun z => c1 (List.length_eq_zero_iff.mp z)
      unfold ROUNDS at c2
      refine ⟨?_, ?_, fun x hx => ?_, Nat.zero_le _, fun t ht => by cases ht⟩
      · show 1 ≤ r.length; omega
      · show r.length ≤ 3; omega
      · have := List.all_eq_true.mp c3 x hx
        rw [Bool.and_eq_true, decide_eq_true_iff, decide_eq_true_iff] at this
        exact this
  | tree t =>
    show WdOk (if FAR < t.x ∨ FAR < t.y ∨ t.values.length ≠ w.rounds.length + 1 ∨ (t.values.all fun v => decide (v ≤ MOST)) = false then (w, ok (-1)) else if TREES ≤ w.trees.length then (w, ok (-5)) else ({ w with trees := w.trees ++ [t] }, ok w.trees.length)).1
    split
    · exact h
    · rename_i c
      split
      · exact h
      · rename_i d
        have c1 : ¬ FAR < t.x := fun z => c (.inl z)
        have c2 : ¬ FAR < t.y := fun z => c (.inr (.inl z))
        have c3 : t.values.length = w.rounds.length + 1 := Classical.byContradiction fun z => c (.inr (.inr (.inl z)))
        have c4 : (t.values.all fun v => decide (v ≤ MOST)) = true := by
          cases e : t.values.all fun v => decide (v ≤ MOST) with
          | true => rfl
          | false => exact absurd (.inr (.inr (.inr e))) c
        unfold FAR at c1 c2
        unfold TREES at d
        refine ⟨h.r1, h.r3, h.rd, ?_, fun u hu => ?_⟩
        · show (w.trees ++ [t]).length ≤ 7
          rw [List.length_append, List.length_singleton]
          omega
        · rcases List.mem_append.mp hu with hu | hu
          · exact h.tr u hu
          · have e : u = t := by simpa using hu
            subst e
            refine ⟨by omega, by omega, c3, fun v hv => ?_⟩
            have := List.all_eq_true.mp c4 v hv
            rw [decide_eq_true_iff] at this
            exact this
  | near j =>
    show WdOk (if w.rounds.length ≤ j then (w, ok (-2)) else _).1
    split <;> exact h
  | best => exact h
  | check l =>
    show WdOk (if w.told l = false then (w, ok (-1)) else _).1
    split <;> exact h
  | keep i =>
    show WdOk (if w.trees.length ≤ i then (w, ok (-2)) else _).1
    split <;> exact h
  | when_ i =>
    show WdOk (if w.trees.length ≤ i then (w, ok (-2)) else _).1
    split <;> exact h
theorem ok_after {cs : List (List (List Int))} {s : Wood} (h : WdOk s) : WdOk (after s cs) := by
  induction cs generalizing s with
  | nil => exact h
  | cons c cs ih =>
    refine ih (s := (Si57Neutral.step s c).1) ?_
    unfold Si57Neutral.step
    split
    · exact h
    · exact ok_step h _
/-! ### the best plans, by how they are counted -/
theorem times_eq (w : Wood) (i : Nat) : w.times i (most w w.plans) = (List.range (w.rounds.length + 1)).map fun t => ((bests w w.plans).filter fun l => l.getD i 0 == t).length := by
  unfold Wood.times bests
  congr 1
  funext t
  rw [List.filter_filter]
  congr 2
  funext l
  exact Bool.and_comm _ _
theorem plans_len {w : Wood} (h : WdOk w) : w.plans.length ≤ 16384 := by
  rw [← lawful_eq]
  unfold lawful
  exact Nat.le_trans (List.length_filter_le _ _) (spaced_bound h.r3 h.t7 (Nat.le_refl _))
theorem plans_mem {w : Wood} {p : List Nat} (h : p ∈ w.plans) : p.length = w.trees.length ∧ ∀ t ∈ p, t ≤ w.rounds.length := by
  unfold Wood.plans at h
  exact rows_mem (List.mem_filter.mp h).1
end Tm
set_option Elab.async false
set_option linter.all false
set_option maxRecDepth 100000
set_option maxHeartbeats 2000000
namespace Tm
open Si57
/-! ### check -/
def stand (p : List Nat) (j : Nat) (q : Nat × Nat) : Bool := decide (j < p.getD q.1 0) && decide (j < p.getD q.2 0)
def faultB (ts : List Tree) (r : Nat × Nat) (j : Nat) (p : List Nat) : List Nat := match (prsTo ts r.1 ts.length).find? (stand p j) with
  | some q => [q.1, q.2]
  | none => if stay p j < r.2 then [stay p j] else []
theorem find_filter {α : Type} (f g h : α → Bool) (e : ∀ a, h a = (g a && f a)) : ∀ l : List α, (l.filter f).find? g = l.find? h
  | [] => rfl
  | a :: l => by
    rw [List.filter_cons, List.find?_cons, e a]
    cases hf : f a with
    | true =>
      rw [if_pos rfl, List.find?_cons, Bool.and_true]
      cases g a with
      | true => rfl
      | false => exact find_filter f g h e l
    | false =>
      rw [if_neg (by decide), Bool.and_false]
      exact find_filter f g h e l
theorem bad_eq {w : Wood} {p : List Nat} {j : Nat} (h : p.length = w.trees.length) : w.bad p j = if faultB w.trees (w.gap j, w.least j) j p = [] then none else some (j :: faultB w.trees (w.gap j, w.least j) j p) := by
  unfold Wood.bad faultB
  rw [prs_eq, h, find_filter (w.near j) (stand p j) (fun q => decide (j < p.getD q.1 0) && (decide (j < p.getD q.2 0) && w.near j q)) (fun q => by unfold stand; rw [Bool.and_assoc]), stays_len]
  cases (pairs w.trees.length).find? fun q => decide (j < p.getD q.1 0) && (decide (j < p.getD q.2 0) && w.near j q) with
  | some q => rfl
  | none =>
    show (if stay p j < w.least j then some [j, stay p j] else none) = if (if stay p j < w.least j then [stay p j] else []) = [] then none else some (j :: (if stay p j < w.least j then [stay p j] else []))
    by_cases c : stay p j < w.least j
    · rw [if_pos c, if_pos c, if_neg (by intro z; cases z)]
    · rw [if_neg c, if_neg c, if_pos rfl]
theorem some_at {α : Type} {f : Nat → Option α} {x : α} {i : Nat} (h0 : ∀ j, j < i → f j = none) (h1 : f i = some x) : ∀ n, i < n → (List.range n).findSome? f = some x
  | 0, h => absurd h (Nat.not_lt_zero _)
  | n + 1, h => by
    rw [List.range_succ, List.findSome?_append]
    by_cases e : i < n
    · rw [some_at h0 h1 n e]
      rfl
    · have e : i = n := by omega
      subst e
      have : (List.range i).findSome? f = none := List.findSome?_eq_none_iff.mpr fun j hj => h0 j (List.mem_range.mp hj)
      rw [this, List.findSome?_cons, h1]
      rfl
def faultF (w : Wood) (p : List Nat) : List Nat := (w.wrong p).getD []
theorem faultF_at {w : Wood} {p : List Nat} {i : Nat} (h : p.length = w.trees.length) (hi : i < w.rounds.length) (h0 : ∀ j, j < i → faultB w.trees (w.gap j, w.least j) j p = []) (h1 : faultB w.trees (w.gap i, w.least i) i p ≠ []) :
    w.wrong p = some (i :: faultB w.trees (w.gap i, w.least i) i p) := by
  unfold Wood.wrong
  refine some_at (fun j hj => ?_) ?_ _ hi
  · rw [bad_eq h, if_pos (h0 j hj)]
  · rw [bad_eq h, if_neg h1]
theorem faultF_no {w : Wood} {p : List Nat} (h : p.length = w.trees.length) (h0 : ∀ j, j < w.rounds.length → faultB w.trees (w.gap j, w.least j) j p = []) : w.wrong p = none := by
  rw [wrong_none]
  intro j hj
  rw [bad_eq h, if_pos (h0 j hj)]
theorem wrong_cons {w : Wood} {p x : List Nat} (h : w.wrong p = some x) (hp : p.length = w.trees.length) : x ≠ [] := by
  unfold Wood.wrong at h
  obtain ⟨j, _, hj⟩ := List.exists_of_findSome?_eq_some h
  rw [bad_eq hp] at hj
  by_cases c : faultB w.trees (w.gap j, w.least j) j p = []
  · rw [if_pos c] at hj; cases hj
  · rw [if_neg c] at hj
    cases hj
    intro z
    cases z
theorem told_iff {w : Wood} {l : List Nat} : w.told l = true ↔ l.length = w.trees.length ∧ ∀ t ∈ l, t ≤ w.rounds.length := by
  unfold Wood.told
  rw [Bool.and_eq_true, List.all_eq_true, beq_iff_eq]
  constructor
  · rintro ⟨a, b⟩
    exact ⟨a, fun t ht => of_decide_eq_true (b t ht)⟩
  · rintro ⟨a, b⟩
    exact ⟨a, fun t ht => decide_eq_true (b t ht)⟩
theorem faultB_len (ts : List Tree) (r : Nat × Nat) (j : Nat) (p : List Nat) : (faultB ts r j p).length ≤ 2 := by
  unfold faultB
  split
  · exact Nat.le_refl _
  · split
    · show 1 ≤ 2; omega
    · show 0 ≤ 2; omega
theorem wrong_len {w : Wood} {p x : List Nat} (h : w.wrong p = some x) (hp : p.length = w.trees.length) : x.length ≤ 3 := by
  unfold Wood.wrong at h
  obtain ⟨j, _, hj⟩ := List.exists_of_findSome?_eq_some h
  rw [bad_eq hp] at hj
  by_cases c : faultB w.trees (w.gap j, w.least j) j p = []
  · rw [if_pos c] at hj; cases hj
  · rw [if_neg c] at hj
    cases hj
    have := faultB_len w.trees (w.gap j, w.least j) j p
    show _ + 1 ≤ 3
    omega
theorem prs_mem {ts : List Tree} {g : Nat} {q : Nat × Nat} (h : q ∈ prsTo ts g ts.length) : q.1 < ts.length ∧ q.2 < ts.length := by
  unfold prsTo at h
  obtain ⟨a, ha, hq⟩ := List.mem_flatMap.mp h
  have ha := List.mem_range.mp ha
  unfold rowN at hq
  obtain ⟨b, hb, rfl⟩ := List.mem_map.mp hq
  have hb := List.mem_range.mp (List.mem_filter.mp hb).1
  exact ⟨ha, by show a + 1 + b < ts.length; omega⟩
/-! ### keep, when -/
theorem keep_sub {w : Wood} {i : Nat} {p : List Nat} (h : p ∈ w.keeping i) : p ∈ w.plans := (List.mem_filter.mp h).1
end Tm
set_option Elab.async false
set_option linter.all false
set_option maxRecDepth 100000
set_option maxHeartbeats 2000000
namespace Tt
open PySem PySem.Spec PyProof.Rows L2
abbrev STree := Si57.Tree
abbrev SWood := Si57.Wood
/-! ### a def that is there, with its promise -/
structure Can (P : Program) (w : World) (K : PySem.W.Frag) (mg : Str → Option Value) (base : Heap) (k : Nat) (x : Str) (ps : List Str) (sp : Sp) : Prop where
  ex : ∃ (f : Addr) (fd : FuncData), mg x = some (.ref f) ∧ PySem.W.keepIn K (.ref f) = true ∧ Binds K fd ps [] ∧ FnOk P w K mg base CX0 k f fd ps sp
theorem pe_can {X : Cx} {k : Nat} {x : Str} {ps : List Str} {sp : Sp} {e : Expr} {es : List Expr} {t : TA} {p pos : Pos} (C : Can X.prog X.w X.K X.mg X.base k x ps sp) (hr : Room k X.A) (hg : Gl X x) (ha : PA X (e :: es) t)
    (hdb : (x == ("__debug__" : Str)) = false := by decide) (he : starEach (e :: es) X.env = (false, eval e X.env) :: starEach es X.env := by rfl) (hpl : (backTo pos (starEach es X.env)).any (·.1) = false := by rfl) :
    PE X (.Call (.Name x p) (e :: es) [] pos) (tCall sp [] E0 t) := by
  intro pins s σ H Q I h
  obtain ⟨f, fd, m, kp, b, F⟩ := C.ex
  exact pe_call F hr hg m kp b .nil pass0 ha hdb he hpl pins s σ H Q I h
/-- a class that is there, with its __init__'s promise -/
structure CanMk (P : Program) (w : World) (K : PySem.W.Frag) (mg : Str → Option Value) (base : Heap) (k : Nat) (x : Str) (C : Addr) (ps : List Str) (sp : Sp) : Prop where
  ex : ∃ (f : Addr) (fd : FuncData), mg x = some (.ref C) ∧ Mk K C f ∧ Binds K fd ps [] ∧ FnOk P w K mg base CX0 k f fd ps sp
theorem pe_canMk {X : Cx} {k : Nat} {x : Str} {C : Addr} {ps : List Str} {sp : Sp} {e : Expr} {es : List Expr} {t : TA} {p pos : Pos} (M : CanMk X.prog X.w X.K X.mg X.base k x C ps sp) (hr : Room (k + 1) X.A) (hg : Gl X x) (ha : PA X (e :: es) t)
    (hdb : (x == ("__debug__" : Str)) = false := by decide) (he : starEach (e :: es) X.env = (false, eval e X.env) :: starEach es X.env := by rfl) (hpl : (backTo pos (starEach es X.env)).any (·.1) = false := by rfl) :
    PE X (.Call (.Name x p) (e :: es) [] pos) (tMake C sp [] E0 t) := by
  intro pins s σ H Q I h
  obtain ⟨f, fd, m, mk, b, F⟩ := M.ex
  exact pe_make mk F hr hg m b .nil pass0 ha hdb he hpl pins s σ H Q I h
theorem pe_canMk0 {X : Cx} {k : Nat} {x : Str} {C : Addr} {ps : List Str} {sp : Sp} {p pos : Pos} (M : CanMk X.prog X.w X.K X.mg X.base k x C ps sp) (hr : Room (k + 1) X.A) (hg : Gl X x)
    (hdb : (x == ("__debug__" : Str)) = false := by decide) : PE X (.Call (.Name x p) [] [] pos) (tMake C sp [] E0 tNil) := by
  intro pins s σ H Q I h
  obtain ⟨f, fd, m, mk, b, F⟩ := M.ex
  exact pe_make0 mk F hr hg m b .nil pass0 hdb pins s σ H Q I h
/-- a method that is there -/
structure CanM (P : Program) (w : World) (K : PySem.W.Frag) (mg : Str → Option Value) (base : Heap) (k : Nat) (C : Addr) (m : Str) (ps : List Str) (sp : Sp) : Prop where
  ex : ∃ (f : Addr) (fd : FuncData), Meth K C m f ∧ Binds K fd ps [] ∧ FnOk P w K mg base CX0 k f fd ps sp
theorem pe_canM {X : Cx} {k : Nat} {C : Addr} {m : Str} {ps : List Str} {sp : Sp} {o e : Expr} {es : List Expr} {ta : TE} {t : TA} {apos pos : Pos} {pl : Sem Bool} (M : CanM X.prog X.w X.K X.mg X.base k C m ps sp) (he : PE X o ta) (c : Cls X.K C) (hr : Room k X.A) (ha : PA X (e :: es) t)
    (hst : starEach (e :: es) X.env = (false, eval e X.env) :: starEach es X.env := by rfl) (hpl : (backTo pos (starEach es X.env)).any (·.1) = false := by rfl)
    (ht : eval (.Call (.Attribute o m apos) (e :: es) [] pos) X.env = (do
      let ov ← eval o X.env
      standAt apos.atName
      let (f, first) ← holding [ov] (getMethod ov m pl)
      callWith pos f first (backTo pos (starEach (e :: es) X.env)) (backToKw pos (keywordEach [] X.env))) := by rfl) :
    PE X (.Call (.Attribute o m apos) (e :: es) [] pos) (tMeth C m sp [] E0 ta t) := by
  intro pins s σ H Q I h
  obtain ⟨f, fd, mm, b, F⟩ := M.ex
  exact pe_meth he c mm F hr b .nil pass0 ha hst hpl ht pins s σ H Q I h
theorem pe_canM0 {X : Cx} {k : Nat} {C : Addr} {m : Str} {ps : List Str} {sp : Sp} {o : Expr} {ta : TE} {apos pos : Pos} {pl : Sem Bool} (M : CanM X.prog X.w X.K X.mg X.base k C m ps sp) (he : PE X o ta) (c : Cls X.K C) (hr : Room k X.A)
    (ht : eval (.Call (.Attribute o m apos) [] [] pos) X.env = (do
      let ov ← eval o X.env
      standAt apos.atName
      let (f, first) ← holding [ov] (getMethod ov m pl)
      callWith pos f first (backTo pos (starEach [] X.env)) (backToKw pos (keywordEach [] X.env))) := by rfl) :
    PE X (.Call (.Attribute o m apos) [] [] pos) (tMeth C m sp [] E0 ta tNil) := by
  intro pins s σ H Q I h
  obtain ⟨f, fd, mm, b, F⟩ := M.ex
  exact pe_meth0 he c mm F hr b .nil pass0 ht pins s σ H Q I h
/-- what the top says of a def: its address and text -/
structure HasF (K : PySem.W.Frag) (mg : Str → Option Value) (x qual : Str) (st : Stmt) (ps : List Str) : Prop where
  ex : ∃ (f : Addr) (fd : FuncData), mg x = some (.ref f) ∧ Fun K x qual st f fd ∧ Binds K fd ps []
structure HasM (K : PySem.W.Frag) (C : Addr) (x qual : Str) (st : Stmt) (ps : List Str) : Prop where
  ex : ∃ (f : Addr) (fd : FuncData), Meth K C x f ∧ Fun K x qual st f fd ∧ Binds K fd ps []
structure HasC (K : PySem.W.Frag) (mg : Str → Option Value) (c : Str) (C : Addr) (qual : Str) (st : Stmt) (ps : List Str) : Prop where
  ex : ∃ (f : Addr) (fd : FuncData), mg c = some (.ref C) ∧ Mk K C f ∧ Fun K "__init__" qual st f fd ∧ Binds K fd ps []
section
variable {P : Program} {w : World} {K : PySem.W.Frag} {mg : Str → Option Value} {base : Heap}
theorem HasF.can {x qual : Str} {st : Stmt} {ps N : List Str} {k : Nat} {sp : Sp} (h : HasF K mg x qual st ps) (S : FnScope N ps (defScope st)) (len : ∀ vs H Q E, sp vs H Q E → vs.length = ps.length)
    (hbody : ∀ (f : Addr) (cdv : Value) (A : Around) (outer : List Env) (s : Shared) (H : Hp) (vs : List V) (Q : VK) (E : XK), Room k (A.deeper (envOfC qual (defScope st) s.heap.objs.size f cdv)) → sp vs H Q E →
      ∃ t, PSs (cxOf CX0 P w K mg base N qual (defScope st) f cdv A outer s H E).nox (defBody st) t ∧ t { nx := fun _ H' => Q .non H', rt := Q } (start N vs) H) : Can P w K mg base (k + 1) x ps sp := by
  obtain ⟨f, fd, m, F, b⟩ := h.ex
  exact ⟨f, fd, m, F.kp, b, F.ok S len (hbody f)⟩
theorem HasM.can {C : Addr} {x qual : Str} {st : Stmt} {ps N : List Str} {k : Nat} {sp : Sp} (h : HasM K C x qual st ps) (S : FnScope N ps (defScope st)) (len : ∀ vs H Q E, sp vs H Q E → vs.length = ps.length)
    (hbody : ∀ (f : Addr) (cdv : Value) (A : Around) (outer : List Env) (s : Shared) (H : Hp) (vs : List V) (Q : VK) (E : XK), Room k (A.deeper (envOfC qual (defScope st) s.heap.objs.size f cdv)) → sp vs H Q E →
      ∃ t, PSs (cxOf CX0 P w K mg base N qual (defScope st) f cdv A outer s H E).nox (defBody st) t ∧ t { nx := fun _ H' => Q .non H', rt := Q } (start N vs) H) : CanM P w K mg base (k + 1) C x ps sp := by
  obtain ⟨f, fd, m, F, b⟩ := h.ex
  exact ⟨f, fd, m, b, F.ok S len (hbody f)⟩
theorem HasC.can {c qual : Str} {C : Addr} {st : Stmt} {ps N : List Str} {k : Nat} {sp : Sp} (h : HasC K mg c C qual st ps) (S : FnScope N ps (defScope st)) (len : ∀ vs H Q E, sp vs H Q E → vs.length = ps.length)
    (hbody : ∀ (f : Addr) (cdv : Value) (A : Around) (outer : List Env) (s : Shared) (H : Hp) (vs : List V) (Q : VK) (E : XK), Room k (A.deeper (envOfC qual (defScope st) s.heap.objs.size f cdv)) → sp vs H Q E →
      ∃ t, PSs (cxOf CX0 P w K mg base N qual (defScope st) f cdv A outer s H E).nox (defBody st) t ∧ t { nx := fun _ H' => Q .non H', rt := Q } (start N vs) H) : CanMk P w K mg base (k + 1) c C ps sp := by
  obtain ⟨f, fd, m, mk, F, b⟩ := h.ex
  exact ⟨f, fd, m, mk, b, F.ok S len (hbody f)⟩
end
/-! ### the text by places -/
def top (i : Nat) : Stmt := PySem.Challenge.pw_treethinning_s01_answers.main.body.getD i (.Pass ⟨0, 0, 0, 0⟩)
abbrev sThI : Stmt := inClass (top 1) 0
abbrev sTrI : Stmt := inClass (top 2) 0
abbrev sTN : Stmt := top 3
abbrev sNP : Stmt := top 4
abbrev sFN : Stmt := top 5
abbrev sHR : Stmt := top 6
abbrev sLP : Stmt := top 7
abbrev sSP : Stmt := top 8
abbrev sHS : Stmt := top 9
abbrev sES : Stmt := top 10
abbrev sFB : Stmt := top 11
abbrev sFF : Stmt := top 12
abbrev sLA : Stmt := top 13
abbrev sPW : Stmt := top 14
abbrev sBP : Stmt := top 15
abbrev sPT : Stmt := top 16
/-! ### the data -/
abbrev nv (n : Nat) : V := .int (n : Int)
def nvs (l : List Nat) : List V := l.map nv
theorem nvs_length (l : List Nat) : (nvs l).length = l.length := List.length_map ..
theorem nvs_get {l : List Nat} {i : Nat} {v : V} (h : (nvs l)[i]? = some v) : ∃ n, l[i]? = some n ∧ v = nv n := by
  unfold nvs at h
  rw [List.getElem?_map] at h
  cases e : l[i]? with
  | none => rw [e] at h; cases h
  | some n => rw [e] at h; exact ⟨n, rfl, (Option.some.inj h).symm⟩
theorem nvs_at {l : List Nat} {i n : Nat} (h : l[i]? = some n) : (nvs l)[i]? = some (nv n) := by
  unfold nvs
  rw [List.getElem?_map, h]
  rfl
/-- a Thinning's attributes; a Tree's -/
def thF (g n : Nat) : List (Str × V) := putF "needed" (nv n) (putF "gap" (nv g) [])
def trF (x y : Nat) (l : Addr) : List (Str × V) := putF "worths" (.ref l) (putF "second" (nv y) (putF "first" (nv x) []))
theorem thF_gap (g n : Nat) : (thF g n).lookup ("gap" : Str) = some (nv g) := by
  unfold thF
  rw [lookup_putF, if_neg (by decide +kernel), lookup_putF, if_pos rfl]
theorem thF_needed (g n : Nat) : (thF g n).lookup ("needed" : Str) = some (nv n) := by
  unfold thF
  rw [lookup_putF, if_pos rfl]
theorem trF_first (x y : Nat) (l : Addr) : (trF x y l).lookup ("first" : Str) = some (nv x) := by
  unfold trF
  rw [lookup_putF, if_neg (by decide +kernel), lookup_putF, if_neg (by decide +kernel), lookup_putF, if_pos rfl]
theorem trF_second (x y : Nat) (l : Addr) : (trF x y l).lookup ("second" : Str) = some (nv y) := by
  unfold trF
  rw [lookup_putF, if_neg (by decide +kernel), lookup_putF, if_pos rfl]
theorem trF_worths (x y : Nat) (l : Addr) : (trF x y l).lookup ("worths" : Str) = some (.ref l) := by
  unfold trF
  rw [lookup_putF, if_pos rfl]
/-- a Thinning, a Tree stands at a -/
def ThAt (C : Addr) (H : Hp) (a : Addr) (r : Nat × Nat) : Prop := ∃ dx, H a = some (.ins C dx (thF r.1 r.2))
def TrAt (C : Addr) (H : Hp) (a : Addr) (t : STree) : Prop := ∃ dx l, H a = some (.ins C dx (trF t.x t.y l)) ∧ H l = some (.lst (nvs t.values))
theorem ThAt.same {C : Addr} {H H' : Hp} {a : Addr} {r : Nat × Nat} (h : ThAt C H a r) (s : Same H H') : ThAt C H' a r := by
  obtain ⟨dx, e⟩ := h
  exact ⟨dx, s _ _ e⟩
theorem TrAt.same {C : Addr} {H H' : Hp} {a : Addr} {t : STree} (h : TrAt C H a t) (s : Same H H') : TrAt C H' a t := by
  obtain ⟨dx, l, e, e2⟩ := h
  exact ⟨dx, l, s _ _ e, s _ _ e2⟩
/-- the objects at as are rs, one by one -/
def All2 {α : Type} (F : Addr → α → Prop) (as : List Addr) (rs : List α) : Prop := as.length = rs.length ∧ ∀ (i : Nat) (a : Addr) (r : α), as[i]? = some a → rs[i]? = some r → F a r
theorem All2.imp {α : Type} {F G : Addr → α → Prop} {as : List Addr} {rs : List α} (h : All2 F as rs) (k : ∀ a r, F a r → G a r) : All2 G as rs := ⟨h.1, fun i a r x y => k a r (h.2 i a r x y)⟩
theorem All2.get {α : Type} {F : Addr → α → Prop} {as : List Addr} {rs : List α} {i : Nat} {a : Addr} (h : All2 F as rs) (e : as[i]? = some a) : ∃ r, rs[i]? = some r ∧ F a r := by
  have hi : i < as.length := (List.getElem?_eq_some_iff.mp e).1
  have hr : i < rs.length := by rw [← h.1]; exact hi
  exact ⟨rs[i], List.getElem?_eq_getElem hr, h.2 i a _ e (List.getElem?_eq_getElem hr)⟩
theorem All2.getR {α : Type} {F : Addr → α → Prop} {as : List Addr} {rs : List α} {i : Nat} {r : α} (h : All2 F as rs) (e : rs[i]? = some r) : ∃ a, as[i]? = some a ∧ F a r := by
  have hi : i < rs.length := (List.getElem?_eq_some_iff.mp e).1
  have hr : i < as.length := by rw [h.1]; exact hi
  exact ⟨as[i], List.getElem?_eq_getElem hr, h.2 i _ r (List.getElem?_eq_getElem hr) e⟩
theorem All2.nil {α : Type} {F : Addr → α → Prop} : All2 F [] ([] : List α) := ⟨rfl, fun i a r h => by simp at h⟩
theorem All2.snoc {α : Type} {F : Addr → α → Prop} {as : List Addr} {rs : List α} {a : Addr} {r : α} (h : All2 F as rs) (k : F a r) : All2 F (as ++ [a]) (rs ++ [r]) := by
  refine ⟨by rw [List.length_append, List.length_append, h.1]; rfl, fun i b s e1 e2 => ?_⟩
  by_cases hi : i < as.length
  · rw [List.getElem?_append_left hi] at e1
    rw [List.getElem?_append_left (by rw [← h.1]; exact hi)] at e2
    exact h.2 i b s e1 e2
  · rw [List.getElem?_append_right (by omega)] at e1
    rw [List.getElem?_append_right (by rw [← h.1]; omega)] at e2
    have hz : i - as.length = 0 := by
      have := (List.getElem?_eq_some_iff.mp e1).1
      simp at this
      omega
    rw [hz] at e1
    rw [← h.1, hz] at e2
    have q1 : a = b := by simpa using e1
    have q2 : r = s := by simpa using e2
    subst q1 q2
    exact k
theorem All2.take {α : Type} {F : Addr → α → Prop} {as : List Addr} {rs : List α} (n : Nat) (h : All2 F as rs) : All2 F (as.take n) (rs.take n) := by
  refine ⟨by rw [List.length_take, List.length_take, h.1], fun i a r e1 e2 => ?_⟩
  rw [List.getElem?_take] at e1 e2
  by_cases hi : i < n
  · rw [if_pos hi] at e1 e2
    exact h.2 i a r e1 e2
  · rw [if_neg hi] at e1
    cases e1
/-- a list of Thinnings, of Trees at l -/
def ThsAt (C : Addr) (H : Hp) (l : Addr) (rs : List (Nat × Nat)) : Prop := ∃ as : List Addr, H l = some (.lst (as.map V.ref)) ∧ All2 (ThAt C H) as rs
def TrsAt (C : Addr) (H : Hp) (l : Addr) (ts : List STree) : Prop := ∃ as : List Addr, H l = some (.lst (as.map V.ref)) ∧ All2 (TrAt C H) as ts
theorem ThsAt.same {C : Addr} {H H' : Hp} {l : Addr} {rs : List (Nat × Nat)} (h : ThsAt C H l rs) (s : Same H H') : ThsAt C H' l rs := by
  obtain ⟨as, e, q⟩ := h
  exact ⟨as, s _ _ e, q.imp fun a r z => z.same s⟩
theorem TrsAt.same {C : Addr} {H H' : Hp} {l : Addr} {ts : List STree} (h : TrsAt C H l ts) (s : Same H H') : TrsAt C H' l ts := by
  obtain ⟨as, e, q⟩ := h
  exact ⟨as, s _ _ e, q.imp fun a r z => z.same s⟩
/-- a list of tuples -/
def TupsAt {α : Type} (enc : α → List V) (H : Hp) (l : Addr) (xs : List α) : Prop := ∃ as : List Addr, H l = some (.lst (as.map V.ref)) ∧ All2 (fun a x => H a = some (.tup (enc x))) as xs
theorem TupsAt.same {α : Type} {enc : α → List V} {H H' : Hp} {l : Addr} {ps : List α} (h : TupsAt enc H l ps) (s : Same H H') : TupsAt enc H' l ps := by
  obtain ⟨as, e, q⟩ := h
  exact ⟨as, s _ _ e, q.imp fun a r z => s _ _ z⟩
theorem TupsAt.nil {α : Type} {enc : α → List V} {H : Hp} {l : Addr} (h : H l = some (.lst [])) : TupsAt enc H l ([] : List α) := ⟨[], h, All2.nil⟩
theorem TupsAt.push {α : Type} {enc : α → List V} {H : Hp} {l T : Addr} {xs : List α} {x : α} {as : List Addr} (h : H l = some (.lst (as.map V.ref))) (q : All2 (fun a x => H a = some (.tup (enc x))) as xs) (hT : H T = some (.tup (enc x))) :
    TupsAt enc (upd H l (.lst (as.map V.ref ++ [.ref T]))) l (xs ++ [x]) := by
  have ne : ∀ a y, H a = some (.tup y) → a ≠ l := fun a y e z => by
    subst z
    rw [e] at h
    cases h
  refine ⟨as ++ [T], ?_, All2.snoc (q.imp fun a r z => ?_) ?_⟩
  · rw [upd_same, List.map_append]
    rfl
  · rw [upd_ne (ne _ _ z)]
    exact z
  · rw [upd_ne (ne _ _ hT)]
    exact hT
/-- plans; pairs of trees -/
abbrev PlsAt (H : Hp) (l : Addr) (ps : List (List Nat)) : Prop := TupsAt nvs H l ps
def prV (p : Nat × Nat) : List V := [nv p.1, nv p.2]
abbrev PrsAt (H : Hp) (l : Addr) (ps : List (Nat × Nat)) : Prop := TupsAt prV H l ps
theorem ref_get {as : List Addr} {i : Nat} {v : V} (h : (as.map V.ref)[i]? = some v) : ∃ a, as[i]? = some a ∧ v = .ref a := by
  rw [List.getElem?_map] at h
  cases e : as[i]? with
  | none => rw [e] at h; cases h
  | some n => rw [e] at h; exact ⟨n, rfl, (Option.some.inj h).symm⟩
theorem ref_at {as : List Addr} {i : Nat} {a : Addr} (h : as[i]? = some a) : (as.map V.ref)[i]? = some (.ref a) := by
  rw [List.getElem?_map, h]
  rfl
theorem same_new {H : Hp} {a : Addr} {o : HO} (h : H a = none) : Same H (upd H a o) := fun b u e => by
  rw [upd_ne (ne_of_none e h)]
  exact e
/-- as the document lets them be -/
def TrOk (t : STree) : Prop := t.x ≤ 1000 ∧ t.y ≤ 1000
def RdOk (r : Nat × Nat) : Prop := r.1 ≤ 2000
theorem big {n : Nat} (h : n ≤ 1000000) : n < sizeLine := Nat.lt_of_le_of_lt h (by decide)
theorem bigg {n : Nat} (h : n ≤ 3000000) : n < sizeLine := Nat.lt_of_le_of_lt h (by decide)
theorem big' {n : Nat} (h : n ≤ 1000000) : n ≤ sizeLine := Nat.le_of_lt (big h)
/-! ### what the text has -/
structure Txt (K : PySem.W.Frag) (mg : Str → Option Value) (c1 c2 c3 : Addr) : Prop where
  k1 : Cls K c1
  n1g : NoAttr K c1 "gap"
  n1n : NoAttr K c1 "needed"
  k2 : Cls K c2
  n2f : NoAttr K c2 "first"
  n2s : NoAttr K c2 "second"
  n2w : NoAttr K c2 "worths"
  k3 : Cls K c3
  n3t : NoAttr K c3 "thinnings"
  n3r : NoAttr K c3 "trees"
  len : mg "len" = none
  range : mg "range" = none
  enum : mg "enumerate" = none
  zip : mg "zip" = none
  lst : mg "list" = none
end Tt
set_option Elab.async false
set_option linter.all false
set_option maxRecDepth 100000
set_option maxHeartbeats 2000000
namespace Tt
open PySem PySem.Spec PyProof.Rows L2
section
variable {P : Program} {w : World} {K : PySem.W.Frag} {mg : Str → Option Value} {base : Heap} {c1 c2 c3 : Addr}
/-! ### Thinning.__init__, Tree.__init__ -/
def spThI (C : Addr) : Sp := fun vs H Q _ => ∃ (p dx : Addr) (g n : Nat), vs = [.ref p, nv g, nv n] ∧ H p = some (.ins C dx []) ∧ Q .non (upd H p (.ins C dx (thF g n)))
theorem scThI : FnScope ["self", "gap", "needed"] ["self", "gap", "needed"] (defScope sThI) := ⟨rfl, rfl, rfl, by decide +kernel, rfl, by decide +kernel, by decide +kernel⟩
theorem can_ThI (T : Txt K mg c1 c2 c3) (h : HasC K mg "Thinning" c1 "Thinning.__init__" sThI ["self", "gap", "needed"]) : CanMk P w K mg base 1 "Thinning" c1 ["self", "gap", "needed"] (spThI c1) := by
  refine h.can scThI (fun vs H Q E h => ?_) (fun f cdv A outer s H vs Q E hr h => ?_)
  · obtain ⟨p, dx, g, n, rfl, _⟩ := h
    rfl
  · obtain ⟨p, dx, g, n, rfl, hp, k⟩ := h
    refine ⟨_, pss_cons (ps_fld (pv 0) (pv 1) rfl) (pss_one (ps_fld (pv 0) (pv 2) rfl)), ?_⟩
    refine ⟨_, rfl, _, rfl, p, c1, dx, [], rfl, hp, T.k1, T.n1g, (by show 0 < 1000; decide), ?_⟩
    refine ⟨_, rfl, _, rfl, p, c1, dx, _, rfl, upd_same, T.k1, T.n1n, (by show 1 < 1000; decide), ?_⟩
    show Q .non (upd (upd H p _) p _)
    rw [upd_upd]
    exact k
def spTrI (C : Addr) : Sp := fun vs H Q _ => ∃ (p dx l : Addr) (x y : Nat), vs = [.ref p, nv x, nv y, .ref l] ∧ H p = some (.ins C dx []) ∧ Q .non (upd H p (.ins C dx (trF x y l)))
theorem scTrI : FnScope ["self", "first", "second", "worths"] ["self", "first", "second", "worths"] (defScope sTrI) := ⟨rfl, rfl, rfl, by decide +kernel, rfl, by decide +kernel, by decide +kernel⟩
theorem can_TrI (T : Txt K mg c1 c2 c3) (h : HasC K mg "Tree" c2 "Tree.__init__" sTrI ["self", "first", "second", "worths"]) : CanMk P w K mg base 1 "Tree" c2 ["self", "first", "second", "worths"] (spTrI c2) := by
  refine h.can scTrI (fun vs H Q E h => ?_) (fun f cdv A outer s H vs Q E hr h => ?_)
  · obtain ⟨p, dx, l, x, y, rfl, _⟩ := h
    rfl
  · obtain ⟨p, dx, l, x, y, rfl, hp, k⟩ := h
    refine ⟨_, pss_cons (ps_fld (pv 0) (pv 1) rfl) (pss_cons (ps_fld (pv 0) (pv 2) rfl) (pss_one (ps_fld (pv 0) (pv 3) rfl))), ?_⟩
    refine ⟨_, rfl, _, rfl, p, c2, dx, [], rfl, hp, T.k2, T.n2f, (by show 0 < 1000; decide), ?_⟩
    refine ⟨_, rfl, _, rfl, p, c2, dx, _, rfl, upd_same, T.k2, T.n2s, (by show 1 < 1000; decide), ?_⟩
    refine ⟨_, rfl, _, rfl, p, c2, dx, _, rfl, upd_same, T.k2, T.n2w, (by show 2 < 1000; decide), ?_⟩
    show Q .non (upd (upd (upd H p _) p _) p _)
    rw [upd_upd, upd_upd]
    exact k
/-! ### too_near -/
def spTN (C : Addr) : Sp := fun vs H Q _ => ∃ (a b : Addr) (ta tb : STree) (g : Nat), vs = [.ref a, .ref b, nv g] ∧ TrAt C H a ta ∧ TrAt C H b tb ∧ TrOk ta ∧ TrOk tb ∧ g ≤ 2000 ∧ Q (.bl (Tm.near2 ta tb g)) H
theorem scTN : FnScope ["tree", "other", "gap", "across", "along"] ["tree", "other", "gap"] (defScope sTN) := ⟨rfl, rfl, rfl, by decide +kernel, rfl, by decide +kernel, by decide +kernel⟩
theorem can_TN (T : Txt K mg c1 c2 c3) (h : HasF K mg "too_near" "too_near" sTN ["tree", "other", "gap"]) : Can P w K mg base 1 "too_near" ["tree", "other", "gap"] (spTN c2) := by
  refine h.can scTN (fun vs H Q E h => ?_) (fun f cdv A outer s H vs Q E hr h => ?_)
  · obtain ⟨a, b, ta, tb, g, rfl, _⟩ := h
    rfl
  · obtain ⟨a, b, ta, tb, g, rfl, ⟨dx, la, ha, _⟩, ⟨dy, lb, hb, _⟩, oa, ob, hg, k⟩ := h
    refine ⟨_, pss_cons (ps_set (i := 3) scTN.nd rfl (Or.inl rfl) (pe_op op_sub (pe_fld (pv 0) rfl) (pe_fld (pv 1) rfl)))
      (pss_cons (ps_set (i := 4) scTN.nd rfl (Or.inl rfl) (pe_op op_sub (pe_fld (pv 0) rfl) (pe_fld (pv 1) rfl)))
      (pss_one (ps_ret (pe_cmpR op_lt (pe_op op_add (pe_op op_mul (pv 3) (pv 3)) (pe_op op_mul (pv 4) (pv 4))) (pe_op op_mul (pv 2) (pv 2)) (nomark _))))), ?_⟩
    refine ⟨_, rfl, a, c2, dx, _, _, rfl, ha, T.k2, T.n2f, trF_first _ _ _, _, rfl, b, c2, dy, _, _, rfl, hb, T.k2, T.n2f, trF_first _ _ _, _, _, rfl, rfl, ?_⟩
    refine ⟨_, rfl, a, c2, dx, _, _, rfl, ha, T.k2, T.n2s, trF_second _ _ _, _, rfl, b, c2, dy, _, _, rfl, hb, T.k2, T.n2s, trF_second _ _ _, _, _, rfl, rfl, ?_⟩
    obtain ⟨o1, o2⟩ := oa
    obtain ⟨o3, o4⟩ := ob
    refine ⟨_, rfl, _, rfl, _, _, rfl, rfl, .inl ⟨by omega, by omega⟩, _, rfl, _, rfl, _, _, rfl, rfl, .inl ⟨by omega, by omega⟩, _, _, rfl, rfl, _, rfl, _, rfl, _, _, rfl, rfl, .inl ⟨by omega, by omega⟩, _, _, rfl, rfl, ?_⟩
    show Q (.bl (decide _)) H
    rw [Tm.near_int]
    exact k
end
end Tt
set_option Elab.async false
set_option linter.all false
set_option maxRecDepth 100000
set_option maxHeartbeats 2000000
namespace Tt
open PySem PySem.Spec PyProof.Rows L2
theorem getD_of {l : List STree} {i : Nat} {t : STree} (h : l[i]? = some t) : Tm.treeAt l i = t := by
  unfold Tm.treeAt
  rw [List.getD_eq_getElem?_getD, h]
  rfl
theorem mem_of_at {α : Type} {l : List α} {i : Nat} {t : α} (h : l[i]? = some t) : t ∈ l := List.mem_of_getElem? h
section
variable {P : Program} {w : World} {K : PySem.W.Frag} {mg : Str → Option Value} {base : Heap} {c1 c2 c3 : Addr}
/-! ### near_pairs -/
def spNP (C : Addr) : Sp := fun vs H Q _ => ∃ (lt : Addr) (ts : List STree) (g : Nat), vs = [.ref lt, nv g] ∧ TrsAt C H lt ts ∧ ts.length ≤ 7 ∧ (∀ t ∈ ts, TrOk t) ∧ g ≤ 2000 ∧
  ∀ (H' : Hp) (l : Addr), Same H H' → PrsAt H' l (Tm.prsTo ts g ts.length) → Q (.ref l) H'
theorem scNP : FnScope ["trees", "gap", "pairs", "low", "high"] ["trees", "gap"] (defScope sNP) := ⟨rfl, rfl, rfl, by decide +kernel, rfl, by decide +kernel, by decide +kernel⟩
theorem can_NP (T : Txt K mg c1 c2 c3) (h : HasF K mg "near_pairs" "near_pairs" sNP ["trees", "gap"]) (CTN : Can P w K mg base 1 "too_near" ["tree", "other", "gap"] (spTN c2)) : Can P w K mg base 2 "near_pairs" ["trees", "gap"] (spNP c2) := by
  refine h.can scNP (fun vs H Q E h => ?_) (fun f cdv A outer s H vs Q E hr h => ?_)
  · obtain ⟨lt, ts, g, rfl, _⟩ := h
    rfl
  · obtain ⟨lt, ts, g, rfl, ⟨as, hlt, hall⟩, h7, hok, hg, k⟩ := h
    have hlen : (as.map V.ref).length = ts.length := by rw [List.length_map]; exact hall.1
    refine ⟨_, pss_cons (ps_set (i := 2) scNP.nd rfl (Or.inl rfl) (pe_lst pa_nil))
      (pss_cons (ps_for PassesOwn.never rfl (pi_range1 rfl T.range (pa_cons (pe_callB call_len_seq (by rfl) T.len PySem.boot_len (pa_cons (pv 0) pa_nil)) pa_nil)) (pg_name (i := 3) scNP.nd rfl (Or.inl rfl))
        (pss_one (ps_for PassesOwn.never rfl (pi_range2 rfl T.range (pa_cons (pe_op op_add (pv 3) pe_int) (pa_cons (pe_callB call_len_seq (by rfl) T.len PySem.boot_len (pa_cons (pv 0) pa_nil)) pa_nil))) (pg_name (i := 4) scNP.nd rfl (Or.inl rfl))
          (pss_one (ps_if (pt_val (pe_can CTN hr rfl (pa_cons (pe_ix ix_list (pv 0) (pv 3) (fun _ _ => rfl)) (pa_cons (pe_ix ix_list (pv 0) (pv 4) (fun _ _ => rfl)) (pa_cons (pv 1) pa_nil)))))
            (pss_one (ps_expr (pe_bm PySem.F.plainAttrs_list PySem.F.slot_list_append PySem.F.type_list_append mt_append (pv 2) (pa_cons (pe_tup (pa_cons (pv 3) (pa_cons (pv 4) pa_nil))) pa_nil)))) pss_nil)))))
      (pss_one (ps_ret (pv 2)))), ?_⟩
    refine ⟨Nat.zero_le _, fun q hq => ?_⟩
    have s0 : Same H (upd H q (.lst [])) := same_new hq
    refine ⟨_, rfl, lt, _, rfl, .inl (SqL.of (s0 _ _ hlt)), _, rfl, by rw [hlen]; omega, by rw [hlen]; omega, ?_⟩
    rw [hlen, Int.toNat_natCast]
    refine for_range (n := ts.length) (fun i σ H' => ∃ v3 v4 : Option V, σ = [some (.ref lt), some (nv g), some (.ref q), v3, v4] ∧ Same H H' ∧ PrsAt H' q (Tm.prsTo ts g i))
      ⟨none, none, rfl, s0, TupsAt.nil upd_same⟩ ?_ ?_
    · rintro i σ H1 hi ⟨v3, v4, rfl, s1, B⟩
      obtain ⟨ti, hti⟩ : ∃ t, ts[i]? = some t := ⟨_, List.getElem?_eq_getElem hi⟩
      obtain ⟨ai, hai, Tai⟩ := hall.getR hti
      refine ⟨_, rfl, _, _, rfl, rfl, _, rfl, lt, _, rfl, .inl (SqL.of (s1 _ _ hlt)), _, _, rfl, by rw [hlen]; omega, ?_⟩
      rw [hlen]
      have en : ((ts.length : Int) - (0 + (i : Int) + 1)).toNat = ts.length - (i + 1) := by omega
      rw [en]
      refine for_range (n := ts.length - (i + 1)) (fun j σ H' => ∃ v4 : Option V, σ = [some (.ref lt), some (nv g), some (.ref q), some (.int (0 + (i : Int))), v4] ∧ Same H H' ∧ PrsAt H' q (Tm.prsTo ts g i ++ Tm.rowN ts g i j))
        ⟨v4, rfl, s1, by rw [show Tm.rowN ts g i 0 = [] from rfl, List.append_nil]; exact B⟩ ?_ ?_
      · rintro j σ H2 hj ⟨v4, rfl, s2, B2⟩
        have hij : i + 1 + j < ts.length := by omega
        obtain ⟨tj, htj⟩ : ∃ t, ts[i + 1 + j]? = some t := ⟨_, List.getElem?_eq_getElem hij⟩
        obtain ⟨aj, haj, Taj⟩ := hall.getR htj
        have e1 : Tm.treeAt ts i = ti := getD_of hti
        have e2 : Tm.treeAt ts (i + 1 + j) = tj := getD_of htj
        refine ⟨_, rfl, _, rfl, lt, _, _, _, rfl, rfl, SqL.of (s2 _ _ hlt), at_of (j := i) (by omega) (ref_at hai), _, rfl, _, rfl, lt, _, _, _, rfl, rfl, SqL.of (s2 _ _ hlt), at_of (j := i + 1 + j) (by omega) (ref_at haj), _, rfl,
          ai, aj, ti, tj, g, rfl, Tai.same s2, Taj.same s2, hok _ (mem_of_at hti), hok _ (mem_of_at htj), hg, _, rfl, ?_⟩
        refine ite2 (fun c => ?_) fun c => ?_
        · obtain ⟨bs, hb, hB⟩ := B2
          refine ⟨_, rfl, .inl ⟨rfl, _, SqL.of hb⟩, _, rfl, _, rfl, by show 2 ≤ sizeLine; decide, fun t ht => ?_⟩
          have nqt : q ≠ t := ne_of_none hb ht
          refine ⟨q, _, _, rfl, rfl, by rw [upd_ne nqt]; exact hb, ?_, ?_⟩
          · rw [List.length_map, hB.1, List.length_append]
            have a1 := Tm.prsTo_len ts g i
            have a2 := Tm.rowN_len ts g i j
            have a3 : i * ts.length ≤ 7 * 7 := Nat.mul_le_mul (by omega) h7
            exact big (by omega)
          · refine ⟨_, rfl, fun b o e => ?_, ?_⟩
            · rw [upd_ne (ne_of_none e hq), upd_ne (ne_of_none (s2 _ _ e) ht)]
              exact s2 _ _ e
            · rw [Tm.rowN_succ, e1, e2, if_pos c, ← List.append_assoc]
              refine TupsAt.push (H := upd H2 t _) (T := t) (by rw [upd_ne nqt]; exact hb) (hB.imp fun a r z => by rw [upd_ne (ne_of_none z ht)]; exact z) ?_
              rw [upd_same]
              show some (HO.tup [V.int (0 + (i : Int)), V.int (0 + (i : Int) + 1 + (j : Int))]) = some (HO.tup [V.int (i : Int), V.int ((i + 1 + j : Nat) : Int)])
              congr 4
              · omega
              · congr 1
                omega
        · refine ⟨_, rfl, s2, ?_⟩
          rw [Tm.rowN_succ, e1, e2, if_neg c, List.append_nil]
          exact B2
      · rintro σ H2 ⟨v4, rfl, s2, B2⟩
        refine ⟨_, _, rfl, s2, ?_⟩
        rw [Tm.prsTo_succ]
        exact B2
    · rintro σ H1 ⟨v3, v4, rfl, s1, B⟩
      exact ⟨_, rfl, k _ _ s1 B⟩
end
end Tt
set_option Elab.async false
set_option linter.all false
set_option maxRecDepth 100000
set_option maxHeartbeats 2000000
namespace Tt
open PySem PySem.Spec PyProof.Rows L2
theorem take_snoc {α : Type} {l : List α} {i : Nat} {x : α} (h : l[i]? = some x) : l.take (i + 1) = l.take i ++ [x] := by
  rw [List.take_succ, h]
  rfl
section
variable {P : Program} {w : World} {K : PySem.W.Frag} {mg : Str → Option Value} {base : Heap} {c1 c2 c3 : Addr}
/-! ### first_too_near -/
def spFN (c1 c2 : Addr) : Sp := fun vs H Q _ => ∃ (lh a b : Addr) (rs : List (Nat × Nat)) (ta tb : STree), vs = [.ref lh, .ref a, .ref b] ∧ ThsAt c1 H lh rs ∧ TrAt c2 H a ta ∧ TrAt c2 H b tb ∧ TrOk ta ∧ TrOk tb ∧ (∀ r ∈ rs, RdOk r) ∧
  ∀ H' : Hp, Same H H' → Q (nv (Tm.firstNear rs ta tb)) H'
theorem scFN : FnScope ["thinnings", "tree", "other", "number", "thinning"] ["thinnings", "tree", "other"] (defScope sFN) := ⟨rfl, rfl, rfl, by decide +kernel, rfl, by decide +kernel, by decide +kernel⟩
theorem can_FN (T : Txt K mg c1 c2 c3) (h : HasF K mg "first_too_near" "first_too_near" sFN ["thinnings", "tree", "other"]) (CTN : Can P w K mg base 1 "too_near" ["tree", "other", "gap"] (spTN c2)) : Can P w K mg base 2 "first_too_near" ["thinnings", "tree", "other"] (spFN c1 c2) := by
  refine h.can scFN (fun vs H Q E h => ?_) (fun f cdv A outer s H vs Q E hr h => ?_)
  · obtain ⟨lh, a, b, rs, ta, tb, rfl, _⟩ := h
    rfl
  · obtain ⟨lh, a, b, rs, ta, tb, rfl, ⟨as, hlh, hall⟩, Ta, Tb, oa, ob, hrs, k⟩ := h
    have hlen : (as.map V.ref).length = rs.length := by rw [List.length_map]; exact hall.1
    refine ⟨_, pss_cons (ps_for PassesOwn.never rfl (pi_enum rfl T.enum (pa_cons (pv 0) pa_nil)) (pg_tup rfl (pgs_cons (pg_name (i := 3) scFN.nd rfl (Or.inl rfl)) (pgs_cons (pg_name (i := 4) scFN.nd rfl (Or.inl rfl)) pgs_nil)))
        (pss_one (ps_if (pt_val (pe_can CTN hr rfl (pa_cons (pv 1) (pa_cons (pv 2) (pa_cons (pe_fld (pv 4) rfl) pa_nil))))) (pss_one (ps_ret (pv 3))) pss_nil)))
      (pss_one (ps_ret (pe_callB call_len_seq (by rfl) T.len PySem.boot_len (pa_cons (pv 0) pa_nil)))), ?_⟩
    refine ⟨_, rfl, lh, _, rfl, SqL.of hlh, for_enum (K := K) (xs := as.map V.ref) (fun i σ H' => ∃ v3 v4 : Option V, σ = [some (.ref lh), some (.ref a), some (.ref b), v3, v4] ∧ Same H H' ∧ ∀ (j : Nat) (r : Nat × Nat), j < i → rs[j]? = some r → Tm.near2 ta tb r.1 = false)
      ⟨none, none, rfl, Same.refl H, fun j r hj => absurd hj (Nat.not_lt_zero _)⟩ (fun i σ H' ⟨_, _, _, s1, _⟩ => SqL.of (s1 _ _ hlh)) ?_ ?_⟩
    · rintro i x σ H1 U hx ⟨v3, v4, rfl, s1, hno⟩ hU
      obtain ⟨ai, hai, rfl⟩ := ref_get hx
      obtain ⟨r, hr', dx, hth⟩ := hall.get hai
      have s2 : Same H (upd H1 U (.tup [.int (i : Int), .ref ai])) := s1.trans (same_new hU)
      refine ⟨U, _, rfl, SqT.of upd_same, rfl, _, _, rfl, _, _, rfl, rfl, ?_⟩
      refine ⟨_, rfl, _, rfl, _, rfl, ai, c1, dx, _, _, rfl, s2 _ _ hth, T.k1, T.n1g, thF_gap _ _, a, b, ta, tb, r.1, rfl, Ta.same s2, Tb.same s2, oa, ob, hrs r (mem_of_at hr'), _, rfl, ?_⟩
      refine ite2 (fun c => ?_) fun c => ?_
      · refine ⟨_, rfl, ?_⟩
        have e : Tm.firstNear rs ta tb = i := by
          unfold Tm.firstNear
          obtain ⟨hi, er⟩ := List.getElem?_eq_some_iff.mp hr'
          rw [List.findIdx_eq hi]
          refine ⟨by rw [er]; exact c, fun j hj => hno j _ hj (List.getElem?_eq_getElem _)⟩
        have := k _ s2
        rw [e] at this
        exact this
      · refine ⟨_, _, rfl, s2, fun j r' hj hr'' => ?_⟩
        by_cases e : j = i
        · subst e
          rw [hr'] at hr''
          cases hr''
          exact Bool.eq_false_iff.mpr c
        · exact hno j r' (by omega) hr''
    · rintro σ H1 ⟨v3, v4, rfl, s1, hno⟩
      refine ⟨_, rfl, lh, _, rfl, .inl (SqL.of (s1 _ _ hlh)), ?_⟩
      rw [hlen] at hno ⊢
      have e : Tm.firstNear rs ta tb = rs.length := by
        unfold Tm.firstNear
        rw [List.findIdx_eq_length]
        intro r hr'
        obtain ⟨j, hj⟩ := List.mem_iff_getElem?.mp hr'
        exact hno j r (List.getElem?_eq_some_iff.mp hj).1 hj
      have := k _ s1
      rw [e] at this
      exact this
/-! ### has_room -/
def spHR : Sp := fun vs H Q _ => ∃ (a l : Addr) (p ls : List Nat) (t : Nat), vs = [.ref a, nv t, .ref l] ∧ H a = some (.tup (nvs p)) ∧ H l = some (.lst (nvs ls)) ∧ ∀ H' : Hp, Same H H' → Q (.bl (Tm.hasRoom p ls t)) H'
theorem scHR : FnScope ["plan", "time", "limits", "planned", "limit"] ["plan", "time", "limits"] (defScope sHR) := ⟨rfl, rfl, rfl, by decide +kernel, rfl, by decide +kernel, by decide +kernel⟩
theorem can_HR (T : Txt K mg c1 c2 c3) (h : HasF K mg "has_room" "has_room" sHR ["plan", "time", "limits"]) : Can P w K mg base 1 "has_room" ["plan", "time", "limits"] spHR := by
  refine h.can scHR (fun vs H Q E h => ?_) (fun f cdv A outer s H vs Q E hr h => ?_)
  · obtain ⟨a, l, p, ls, t, rfl, _⟩ := h
    rfl
  · obtain ⟨a, l, p, ls, t, rfl, ha, hl, k⟩ := h
    refine ⟨_, pss_cons (ps_for PassesOwn.never rfl (pi_zs true false rfl T.zip (pa_cons (pv 0) (pa_cons (pv 2) pa_nil))) (pg_tup rfl (pgs_cons (pg_name (i := 3) scHR.nd rfl (Or.inl rfl)) (pgs_cons (pg_name (i := 4) scHR.nd rfl (Or.inl rfl)) pgs_nil)))
        (pss_one (ps_if (PW.pt (pw_and (pt_cmpR op_gt (pv 3) (pv 4) (nomark _)) (pw_and1 (pt_cmpR op_gt (pv 1) (pv 4) (nomark _))))) (pss_one (ps_ret pe_bl)) pss_nil)))
      (pss_one (ps_ret pe_bl)), ?_⟩
    refine ⟨_, rfl, _, rfl, a, l, _, _, rfl, SqT.of ha, SqL.of hl, for_zs (K := K) (t1 := true) (t2 := false) (xs := nvs p) (ys := nvs ls)
      (fun i σ H' => ∃ v3 v4 : Option V, σ = [some (.ref a), some (nv t), some (.ref l), v3, v4] ∧ Same H H' ∧ (((p.zip ls).take i).all fun q => !(decide (q.2 < q.1) && decide (q.2 < t))) = true)
      ⟨none, none, rfl, Same.refl H, rfl⟩ (fun i σ H' ⟨_, _, _, s1, _⟩ => ⟨SqT.of (s1 _ _ ha), SqL.of (s1 _ _ hl)⟩) ?_ ?_⟩
    · rintro i x y σ H1 U hx hy ⟨v3, v4, rfl, s1, hno⟩ hU
      obtain ⟨n, hn, rfl⟩ := nvs_get hx
      obtain ⟨m, hm, rfl⟩ := nvs_get hy
      have hz : (p.zip ls)[i]? = some (n, m) := by rw [List.getElem?_zip_eq_some]; exact ⟨hn, hm⟩
      have s2 : Same H (upd H1 U (.tup [nv n, nv m])) := s1.trans (same_new hU)
      refine ⟨U, _, rfl, SqT.of upd_same, rfl, _, _, rfl, _, _, rfl, rfl, ?_⟩
      have bad : m < n → m < t → Tm.hasRoom p ls t = false := fun c1 c2 => by
        rw [Bool.eq_false_iff]
        intro z
        unfold Tm.hasRoom at z
        have := List.all_eq_true.mp z (n, m) (mem_of_at hz)
        rw [Bool.not_eq_true', Bool.and_eq_false_iff, decide_eq_false_iff_not, decide_eq_false_iff_not] at this
        omega
      have good : ¬ (m < n ∧ m < t) → (((p.zip ls).take (i + 1)).all fun q => !(decide (q.2 < q.1) && decide (q.2 < t))) = true := fun c => by
        rw [take_snoc hz, List.all_append, hno, Bool.true_and]
        show ((!(decide (m < n) && decide (m < t))) && true) = true
        rw [Bool.and_true, Bool.not_eq_true', Bool.and_eq_false_iff, decide_eq_false_iff_not, decide_eq_false_iff_not]
        omega
      refine ⟨_, rfl, _, rfl, _, _, rfl, rfl, _, rfl, ?_⟩
      refine ite2 (fun c => ?_) fun c => ?_
      · have c := of_decide_eq_true c
        refine ⟨_, rfl, _, rfl, _, _, rfl, rfl, _, rfl, ?_⟩
        refine ite2 (fun c' => ?_) fun c' => ?_
        · have c' := of_decide_eq_true c'
          have := k _ s2
          rw [bad (by omega) (by omega)] at this
          exact this
        · have c' := of_decide_eq_false (Bool.eq_false_iff.mpr c')
          exact ⟨_, _, rfl, s2, good (by omega)⟩
      · have c := of_decide_eq_false (Bool.eq_false_iff.mpr c)
        exact iteF ⟨_, _, rfl, s2, good (by omega)⟩
    · rintro i σ H1 hi ⟨v3, v4, rfl, s1, hno⟩
      have e : Tm.hasRoom p ls t = true := by
        unfold Tm.hasRoom
        rw [List.take_of_length_le (by rw [List.length_zip, hi, nvs_length, nvs_length]; exact Nat.le_refl _)] at hno
        exact hno
      have := k _ s1
      rw [e] at this
      exact this
end
end Tt
set_option Elab.async false
set_option linter.all false
set_option maxRecDepth 100000
set_option maxHeartbeats 2000000
namespace Tt
open PySem PySem.Spec PyProof.Rows L2
theorem nvs_snoc (p : List Nat) (t : Nat) : nvs (p ++ [t]) = nvs p ++ [nv t] := by
  unfold nvs
  rw [List.map_append]
  rfl
theorem nvs_nil {p : List Nat} : nvs p = [] ↔ p = [] := by
  unfold nvs
  exact List.map_eq_nil_iff
section
variable {P : Program} {w : World} {K : PySem.W.Frag} {mg : Str → Option Value} {base : Heap} {c1 c2 c3 : Addr}
/-! ### longer_plans -/
def spLP : Sp := fun vs H Q _ => ∃ (lp ll : Addr) (ps : List (List Nat)) (ls : List Nat) (k : Nat), vs = [.ref lp, .ref ll, nv k] ∧ PlsAt H lp ps ∧ H ll = some (.lst (nvs ls)) ∧ ps.length * (k + 1) ≤ 999000 ∧ (∀ p ∈ ps, p.length ≤ 1000) ∧ k ≤ 900 ∧
  ∀ (H' : Hp) (l : Addr), Same H H' → PlsAt H' l (Tm.longer ps ls k) → Q (.ref l) H'
theorem scLP : FnScope ["plans", "limits", "last_time", "longer", "plan", "time"] ["plans", "limits", "last_time"] (defScope sLP) := ⟨rfl, rfl, rfl, by decide +kernel, rfl, by decide +kernel, by decide +kernel⟩
theorem can_LP (T : Txt K mg c1 c2 c3) (h : HasF K mg "longer_plans" "longer_plans" sLP ["plans", "limits", "last_time"]) (CHR : Can P w K mg base 1 "has_room" ["plan", "time", "limits"] spHR) : Can P w K mg base 2 "longer_plans" ["plans", "limits", "last_time"] spLP := by
  refine h.can scLP (fun vs H Q E h => ?_) (fun f cdv A outer s H vs Q E hr h => ?_)
  · obtain ⟨lp, ll, ps, ls, k, rfl, _⟩ := h
    rfl
  · obtain ⟨lp, ll, ps, ls, k, rfl, ⟨as, hlp, hall⟩, hll, hbnd, hpl, hk, cont⟩ := h
    have hlen : (as.map V.ref).length = ps.length := by rw [List.length_map]; exact hall.1
    refine ⟨_, pss_cons (ps_set (i := 3) scLP.nd rfl (Or.inl rfl) (pe_lst pa_nil))
      (pss_cons (ps_for PassesOwn.never rfl (pi_list (pv 0)) (pg_name (i := 4) scLP.nd rfl (Or.inl rfl))
        (pss_one (ps_for PassesOwn.never rfl (pi_range1 rfl T.range (pa_cons (pe_op op_add (pv 2) pe_int) pa_nil)) (pg_name (i := 5) scLP.nd rfl (Or.inl rfl))
          (pss_one (ps_if (pt_val (pe_can CHR hr rfl (pa_cons (pv 4) (pa_cons (pv 5) (pa_cons (pv 1) pa_nil)))))
            (pss_one (ps_expr (pe_bm PySem.F.plainAttrs_list PySem.F.slot_list_append PySem.F.type_list_append mt_append (pv 3) (pa_cons (pe_op op_catA (pv 4) (pe_tup (pa_cons (pv 5) pa_nil))) pa_nil)))) pss_nil)))))
      (pss_one (ps_ret (pv 3)))), ?_⟩
    refine ⟨Nat.zero_le _, fun q hq => ?_⟩
    have s0 : Same H (upd H q (.lst [])) := same_new hq
    refine ⟨_, rfl, lp, rfl, ⟨_, SqL.of (s0 _ _ hlp)⟩, for_list (K := K) (a := lp) (xs := as.map V.ref)
      (fun i σ H' => ∃ v4 v5 : Option V, σ = [some (.ref lp), some (.ref ll), some (nv k), some (.ref q), v4, v5] ∧ Same H H' ∧ PlsAt H' q (Tm.longer (ps.take i) ls k))
      ⟨none, none, rfl, s0, TupsAt.nil upd_same⟩ (fun i σ H' _ ⟨_, _, _, s1, _⟩ => SqL.of (s1 _ _ hlp)) ?_ ?_⟩
    · rintro i y σ H1 hi ⟨v4, v5, rfl, s1, B⟩
      obtain ⟨a, ha, rfl⟩ := ref_get hi
      obtain ⟨p, hp, Ta⟩ := hall.get ha
      refine ⟨_, rfl, _, _, rfl, rfl, _, rfl, by omega, by omega, ?_⟩
      have en : ((k : Int) + 1).toNat = k + 1 := by omega
      rw [en]
      refine for_range (n := k + 1) (fun j σ H' => ∃ v5 : Option V, σ = [some (.ref lp), some (.ref ll), some (nv k), some (.ref q), some (.ref a), v5] ∧ Same H H' ∧ PlsAt H' q (Tm.longer (ps.take i) ls k ++ Tm.longRow p ls j))
        ⟨v5, rfl, s1, by rw [show Tm.longRow p ls 0 = [] from rfl, List.append_nil]; exact B⟩ ?_ ?_
      · rintro j σ H2 hj ⟨v5, rfl, s2, B2⟩
        have ej : (0 : Int) + (j : Int) = ((j : Nat) : Int) := by omega
        rw [ej]
        refine ⟨_, rfl, _, rfl, _, rfl, a, ll, p, ls, j, rfl, s2 _ _ Ta, s2 _ _ hll, fun H3 s3 => ⟨_, rfl, ?_⟩⟩
        have s23 := s2.trans s3
        refine ite2 (fun c => ?_) fun c => ?_
        · obtain ⟨bs, hb, hB⟩ := B2.same s3
          have fin : ∀ (H4 : Hp) (W : Addr), Same H3 H4 → H4 W = some (.tup (nvs (p ++ [j]))) → rAppend (.ref q) [.ref W] H4 (fun _ H5 => ∃ v5 : Option V, [some (V.ref lp), some (.ref ll), some (nv k), some (.ref q), some (.ref a), some (nv j)] = [some (V.ref lp), some (.ref ll), some (nv k), some (.ref q), some (.ref a), v5] ∧ Same H H5 ∧ PlsAt H5 q (Tm.longer (ps.take i) ls k ++ Tm.longRow p ls (j + 1))) := by
            intro H4 W s4 hW
            refine ⟨q, _, _, rfl, rfl, s4 _ _ hb, ?_, _, rfl, fun b o e => ?_, ?_⟩
            · rw [List.length_map, hB.1, List.length_append]
              have a1 := Tm.longer_len ls k (ps.take i)
              have a2 := Tm.longRow_len p ls j
              have a3 : (ps.take i).length * (k + 1) ≤ ps.length * (k + 1) := Nat.mul_le_mul_right _ (by rw [List.length_take]; exact Nat.min_le_right _ _)
              exact big (by omega)
            · rw [upd_ne (ne_of_none e hq)]
              exact s4 _ _ (s23 _ _ e)
            · rw [Tm.longRow_succ, if_pos c, ← List.append_assoc]
              exact TupsAt.push (s4 _ _ hb) (hB.imp fun a r z => s4 _ _ z) hW
          refine ⟨_, rfl, .inl ⟨rfl, _, SqL.of hb⟩, _, rfl, _, rfl, by show 1 ≤ sizeLine; decide, fun U hU => ?_⟩
          have sU : Same H3 (upd H3 U (.tup [nv j])) := same_new hU
          have hpT := sU _ _ (s23 _ _ Ta)
          refine ⟨a, U, _, _, rfl, rfl, SqT.of hpT, SqT.of upd_same, ?_, fun e => ?_, fun _ e => (List.cons_ne_nil _ _ e).elim, fun _ _ W hW => ?_⟩
          · rw [nvs_length]
            have := hpl p (mem_of_at hp)
            exact big' (by show p.length + 1 ≤ 1000000; omega)
          · refine fin _ U sU ?_
            rw [upd_same, nvs_snoc, e]
            rfl
          · refine fin _ W (sU.trans (same_new hW)) ?_
            rw [upd_same, nvs_snoc]
        · refine ⟨_, rfl, s23, ?_⟩
          rw [Tm.longRow_succ, if_neg c, List.append_nil]
          exact B2.same s3
      · rintro σ H2 ⟨v5, rfl, s2, B2⟩
        refine ⟨_, _, rfl, s2, ?_⟩
        rw [take_snoc hp, Tm.longer_snoc]
        exact B2
    · rintro σ H1 ⟨v4, v5, rfl, s1, B⟩
      rw [hlen, List.take_length] at B
      exact ⟨_, rfl, cont _ _ s1 B⟩
end
end Tt
set_option Elab.async false
set_option linter.all false
set_option maxRecDepth 100000
set_option maxHeartbeats 2000000
namespace Tt
open PySem PySem.Spec PyProof.Rows L2
theorem yesT {σ : L2.St} {H : Hp} {F G : Hp → Prop} (h : F H) : tYes σ H (fun b H3 => if b = true then F H3 else G H3) := by
  show (if true = true then F H else G H)
  rw [if_pos rfl]
  exact h
theorem cut_take (xs : List V) (n : Nat) : cutV xs none (some (n : Int)) = xs.take n := by
  unfold cutV
  rw [HT.sIx_none, HT.sIx_nat, List.drop_zero, Nat.sub_zero, ← List.take_take, List.take_length]
theorem cut_drop (xs : List V) (n : Nat) : cutV xs (some (n : Int)) none = xs.drop n := by
  unfold cutV
  rw [HT.sIx_none, HT.sIx_nat]
  by_cases h : n ≤ xs.length
  · rw [Nat.min_eq_left h, List.take_of_length_le (by rw [List.length_drop]; exact Nat.le_refl _)]
  · rw [Nat.min_eq_right (by omega), List.drop_of_length_le (Nat.le_refl _), List.drop_of_length_le (by omega), List.take_nil]
section
variable {P : Program} {w : World} {K : PySem.W.Frag} {mg : Str → Option Value} {base : Heap} {c1 c2 c3 : Addr}
/-! ### spaced_plans -/
def spSP (c1 c2 : Addr) : Sp := fun vs H Q _ => ∃ (lh lt : Addr) (rs : List (Nat × Nat)) (ts : List STree), vs = [.ref lh, .ref lt] ∧ ThsAt c1 H lh rs ∧ TrsAt c2 H lt ts ∧ rs.length ≤ 3 ∧ ts.length ≤ 7 ∧ (∀ r ∈ rs, RdOk r) ∧ (∀ t ∈ ts, TrOk t) ∧
  ∀ (H' : Hp) (l : Addr), Same H H' → PlsAt H' l (Tm.spacedTo rs ts ts.length) → Q (.ref l) H'
theorem scSP : FnScope ["thinnings", "trees", "plans", "number", "tree", "limits", "other"] ["thinnings", "trees"] (defScope sSP) := ⟨rfl, rfl, rfl, by decide +kernel, rfl, by decide +kernel, by decide +kernel⟩
theorem can_SP (T : Txt K mg c1 c2 c3) (h : HasF K mg "spaced_plans" "spaced_plans" sSP ["thinnings", "trees"]) (CFN : Can P w K mg base 2 "first_too_near" ["thinnings", "tree", "other"] (spFN c1 c2))
    (CLP : Can P w K mg base 2 "longer_plans" ["plans", "limits", "last_time"] spLP) : Can P w K mg base 3 "spaced_plans" ["thinnings", "trees"] (spSP c1 c2) := by
  refine h.can scSP (fun vs H Q E h => ?_) (fun f cdv A outer s H vs Q E hr h => ?_)
  · obtain ⟨lh, lt, rs, ts, rfl, _⟩ := h
    rfl
  · obtain ⟨lh, lt, rs, ts, rfl, Hh, ⟨as, hlt, hall⟩, h3, h7, hrs, hts, cont⟩ := h
    have hlen : (as.map V.ref).length = ts.length := by rw [List.length_map]; exact hall.1
    refine ⟨_, pss_cons (ps_set (i := 2) scSP.nd rfl (Or.inl rfl) (pe_lst (pa_cons (pe_tup pa_nil) pa_nil)))
      (pss_cons (ps_for PassesOwn.never rfl (pi_enum rfl T.enum (pa_cons (pv 1) pa_nil)) (pg_tup rfl (pgs_cons (pg_name (i := 3) scSP.nd rfl (Or.inl rfl)) (pgs_cons (pg_name (i := 4) scSP.nd rfl (Or.inr rfl)) pgs_nil)))
        (pss_cons (ps_setLc (i := 5) (own := [("other", 6)]) rfl scSP.nd rfl rfl (sw_true rfl rfl rfl rfl) (pi_list (pe_slice sl_list (pv 1) po_none (po_some (pv 3)))) (blkOk_by (N := ["thinnings", "trees", "plans", "number", "tree", "limits", "other"]) (sc := defScope sSP) (by decide +kernel))
            (fun s H C cl fp => pg_name (i := 6) scSP.nd rfl (Or.inl rfl)) (fun s H C cl fp => pts_nil) (fun s H C cl fp => pe_can CFN hr rfl (pa_cons (pv 0) (pa_cons (pv 6) (pa_cons (pv 4) pa_nil)))))
        (pss_one (ps_set (i := 2) scSP.nd rfl (Or.inl rfl) (pe_can CLP hr rfl (pa_cons (pv 2) (pa_cons (pv 5) (pa_cons (pe_callB call_len_seq (by rfl) T.len PySem.boot_len (pa_cons (pv 0) pa_nil)) pa_nil))))))))
      (pss_one (ps_ret (pv 2)))), ?_⟩
    refine ⟨by show 0 ≤ sizeLine; decide, fun e he => ⟨by show 1 ≤ sizeLine; decide, fun q hq => ?_⟩⟩
    have se : Same H (upd H e (.tup [])) := same_new he
    have sq : Same (upd H e (.tup [])) (upd (upd H e (.tup [])) q (.lst [.ref e])) := same_new hq
    have s0 := se.trans sq
    refine ⟨_, rfl, lt, _, rfl, SqL.of (s0 _ _ hlt), for_enum (K := K) (xs := as.map V.ref)
      (fun i σ H' => ∃ (l : Addr) (v3 v4 v5 v6 : Option V), σ = [some (.ref lh), some (.ref lt), some (.ref l), v3, v4, v5, v6] ∧ Same H H' ∧ PlsAt H' l (Tm.spacedTo rs ts i))
      ⟨q, none, none, none, none, rfl, s0, ⟨[e], upd_same, ⟨rfl, fun i a r h1 h2 => ?_⟩⟩⟩ (fun i σ H' ⟨_, _, _, _, _, _, s1, _⟩ => SqL.of (s1 _ _ hlt)) ?_ ?_⟩
    · match i, h1, h2 with
      | 0, h1, h2 =>
        have e1 : e = a := by simpa using h1
        have e2 : ([] : List Nat) = r := by simpa [Tm.spacedTo] using h2
        subst e1 e2
        exact sq _ _ upd_same
      | i + 1, h1, _ => simp at h1
    · rintro i x σ H1 U hx ⟨l, v3, v4, v5, v6, rfl, s1, B⟩ hU
      obtain ⟨ai, hai, rfl⟩ := ref_get hx
      obtain ⟨ti, hti, Tai⟩ := hall.get hai
      have hi : i < ts.length := (List.getElem?_eq_some_iff.mp hti).1
      have s2 : Same H (upd H1 U (.tup [.int (i : Int), .ref ai])) := s1.trans (same_new hU)
      have B2 := B.same (same_new (o := .tup [.int (i : Int), .ref ai]) hU)
      refine ⟨U, _, rfl, SqT.of upd_same, rfl, _, _, rfl, _, _, rfl, rfl, ?_⟩
      revert s2 B2
      generalize upd H1 U (.tup [.int (i : Int), .ref ai]) = H2
      intro s2 B2
      refine ⟨_, rfl, _, rfl, _, rfl, lt, _, rfl, SqL.of (s2 _ _ hlt), fun p hp => ⟨p, rfl, ⟨_, SqL.of upd_same⟩, fun D hD => ?_⟩⟩
      have sp3 : Same H2 (upd H2 p (.lst (cutV (as.map V.ref) none (some (i : Int))))) := same_new hp
      have hp3 : (upd H2 p (.lst (cutV (as.map V.ref) none (some (i : Int))))) p = some (.lst ((as.take i).map V.ref)) := by
        rw [upd_same, cut_take, List.map_take]
      revert sp3 hp3 hD
      generalize upd H2 p (.lst (cutV (as.map V.ref) none (some (i : Int)))) = H3
      intro hD sp3 hp3
      have sD : Same H3 (upd H3 D (.lst [])) := same_new hD
      have s23 := s2.trans sp3
      have hallT := hall.take i
      have hTl : ((as.take i).map V.ref).length = i := by rw [List.length_map, List.length_take, hall.1]; omega
      refine lc_list (K := K) (a := p) (xs := (as.take i).map V.ref) (fun j H' => Same H3 H' ∧ H' D = some (.lst (nvs ((Tm.limits rs ts i).take j)))) ⟨sD, upd_same⟩ (fun j H' _ ⟨sa, _⟩ => SqL.of (sa _ _ hp3)) ?_ ?_
      · rintro j x H4 hx ⟨s4, hD4⟩
        obtain ⟨aj, haj, rfl⟩ := ref_get hx
        obtain ⟨tj, htj, Taj⟩ := hallT.get haj
        have s24 := s23.trans s4
        refine ⟨rfl, yesT ?_⟩
        refine ⟨_, rfl, _, rfl, _, rfl, lh, aj, ai, rs, tj, ti, rfl, Hh.same s24, Taj.same s24, Tai.same s24, hts _ (List.mem_of_mem_take (mem_of_at htj)), hts _ (mem_of_at hti), hrs, fun H5 s5 => ?_⟩
        refine ⟨_, s5 _ _ hD4, ?_, fun b o e => ?_, ?_⟩
        · rw [nvs_length, List.length_take, Tm.limits_len (by omega)]
          exact big (by omega)
        · rw [upd_ne (ne_of_none e hD)]
          exact s5 _ _ (s4 _ _ e)
        · rw [upd_same]
          have hL : (Tm.limits rs ts i)[j]? = some (Tm.firstNear rs tj ti) := by
            unfold Tm.limits
            rw [List.getElem?_map, htj, List.getD_eq_getElem?_getD, hti]
            rfl
          rw [take_snoc hL, nvs_snoc]
      · rintro H4 ⟨s4, hD4⟩
        rw [hTl, List.take_of_length_le (by rw [Tm.limits_len (by omega)]; exact Nat.le_refl _)] at hD4
        have s24 := s23.trans s4
        obtain ⟨as2, hlh, hall2⟩ := Hh.same s24
        have hth : (as2.map V.ref).length = rs.length := by rw [List.length_map]; exact hall2.1
        refine ⟨_, rfl, _, rfl, _, rfl, lh, _, rfl, .inl (SqL.of hlh), l, D, Tm.spacedTo rs ts i, Tm.limits rs ts i, rs.length, by rw [hth]; rfl, B2.same (sp3.trans s4), hD4, ?_, fun q hq => ?_, by omega, fun H5 l5 s5 B5 => ?_⟩
        · have := Tm.spaced_bound (rs := rs) (ts := ts) (i := i) h3 (by omega) (by omega)
          have := Nat.mul_le_mul this (show rs.length + 1 ≤ 4 by omega)
          omega
        · rw [Tm.spaced_len (by omega) hq]
          omega
        · exact ⟨l5, _, _, _, _, rfl, s24.trans s5, B5⟩
    · rintro σ H1 ⟨l, v3, v4, v5, v6, rfl, s1, B⟩
      rw [hlen] at B
      exact ⟨_, rfl, cont _ _ s1 B⟩
end
end Tt
set_option Elab.async false
set_option linter.all false
set_option maxRecDepth 100000
set_option maxHeartbeats 2000000
namespace Tt
open PySem PySem.Spec PyProof.Rows L2
section
variable {P : Program} {w : World} {K : PySem.W.Frag} {mg : Str → Option Value} {base : Heap} {c1 c2 c3 : Addr}
/-! ### how_many_stay -/
def spHS : Sp := fun vs H Q _ => ∃ (a : Addr) (p : List Nat) (j : Nat), vs = [.ref a, nv j] ∧ H a = some (.tup (nvs p)) ∧ p.length ≤ 1000 ∧ ∀ H' : Hp, Same H H' → Q (nv (Tm.stay p j)) H'
theorem scHS : FnScope ["plan", "number", "time"] ["plan", "number"] (defScope sHS) := ⟨rfl, rfl, rfl, by decide +kernel, rfl, by decide +kernel, by decide +kernel⟩
theorem can_HS (T : Txt K mg c1 c2 c3) (h : HasF K mg "how_many_stay" "how_many_stay" sHS ["plan", "number"]) : Can P w K mg base 1 "how_many_stay" ["plan", "number"] spHS := by
  refine h.can scHS (fun vs H Q E h => ?_) (fun f cdv A outer s H vs Q E hr h => ?_)
  · obtain ⟨a, p, j, rfl, _⟩ := h
    rfl
  · obtain ⟨a, p, j, rfl, ha, hp, k⟩ := h
    refine ⟨_, pss_one (ps_ret (pe_callB call_len_seq (by rfl) T.len PySem.boot_len (pa_cons (pe_lc (own := [("time", 2)]) rfl scHS.nd (pi_tup (pv 0)) (blkOk_by (N := ["plan", "number", "time"]) (sc := defScope sHS) (by decide +kernel))
      (fun s H C cl fp => pg_name (i := 2) scHS.nd rfl (Or.inl rfl)) (fun s H C cl fp => pts_one (pt_cmpR op_gt (pv 2) (pv 1) (nomark _))) (fun s H C cl fp => pv 2)) pa_nil))), ?_⟩
    refine ⟨_, rfl, a, rfl, ⟨_, SqT.of ha⟩, fun D hD => ?_⟩
    refine lc_tup (K := K) (a := a) (xs := nvs p) (fun i H' => Same H H' ∧ H' D = some (.lst (nvs ((p.take i).filter fun t => decide (j < t))))) ⟨same_new hD, upd_same⟩ (fun i H' _ ⟨s1, _⟩ => SqT.of (s1 _ _ ha)) ?_ ?_
    · rintro i x H1 hx ⟨s1, hD1⟩
      obtain ⟨t, ht, rfl⟩ := nvs_get hx
      refine ⟨rfl, ?_⟩
      refine ⟨_, rfl, _, rfl, _, _, rfl, rfl, _, rfl, ?_⟩
      refine ite2 (fun c => ?_) fun c => ?_
      · have c := of_decide_eq_true c
        refine ⟨_, rfl, _, hD1, ?_, fun b o e => ?_, ?_⟩
        · rw [nvs_length]
          have h1 := List.length_filter_le (fun t => decide (j < t)) (p.take i)
          have h2 : (p.take i).length ≤ p.length := by rw [List.length_take]; exact Nat.min_le_right _ _
          exact big (by omega)
        · rw [upd_ne (ne_of_none e hD)]
          exact s1 _ _ e
        · rw [upd_same, take_snoc ht, List.filter_append, List.filter_cons, if_pos (by rw [decide_eq_true_iff]; omega), List.filter_nil, nvs_snoc]
      · have c := of_decide_eq_false (Bool.eq_false_iff.mpr c)
        refine ⟨s1, ?_⟩
        rw [take_snoc ht, List.filter_append, List.filter_cons, if_neg (by rw [decide_eq_true_iff]; omega), List.filter_nil, List.append_nil]
        exact hD1
    · rintro H1 ⟨s1, hD1⟩
      rw [nvs_length, List.take_length] at hD1
      refine ⟨D, _, rfl, .inl (SqL.of hD1), ?_⟩
      have := k _ s1
      rw [nvs_length]
      exact this
/-! ### enough_stay -/
def spES (c1 : Addr) : Sp := fun vs H Q _ => ∃ (lh a : Addr) (rs : List (Nat × Nat)) (p : List Nat), vs = [.ref lh, .ref a] ∧ ThsAt c1 H lh rs ∧ H a = some (.tup (nvs p)) ∧ p.length ≤ 1000 ∧ ∀ H' : Hp, Same H H' → Q (.bl (Tm.enough rs p)) H'
theorem scES : FnScope ["thinnings", "plan", "number", "thinning"] ["thinnings", "plan"] (defScope sES) := ⟨rfl, rfl, rfl, by decide +kernel, rfl, by decide +kernel, by decide +kernel⟩
theorem can_ES (T : Txt K mg c1 c2 c3) (h : HasF K mg "enough_stay" "enough_stay" sES ["thinnings", "plan"]) (CHS : Can P w K mg base 1 "how_many_stay" ["plan", "number"] spHS) : Can P w K mg base 2 "enough_stay" ["thinnings", "plan"] (spES c1) := by
  refine h.can scES (fun vs H Q E h => ?_) (fun f cdv A outer s H vs Q E hr h => ?_)
  · obtain ⟨lh, a, rs, p, rfl, _⟩ := h
    rfl
  · obtain ⟨lh, a, rs, p, rfl, ⟨as, hlh, hall⟩, ha, hp, k⟩ := h
    have hlen : (as.map V.ref).length = rs.length := by rw [List.length_map]; exact hall.1
    refine ⟨_, pss_cons (ps_for PassesOwn.never rfl (pi_enum rfl T.enum (pa_cons (pv 0) pa_nil)) (pg_tup rfl (pgs_cons (pg_name (i := 2) scES.nd rfl (Or.inl rfl)) (pgs_cons (pg_name (i := 3) scES.nd rfl (Or.inl rfl)) pgs_nil)))
        (pss_one (ps_if (pt_cmpR op_lt (pe_can CHS hr rfl (pa_cons (pv 1) (pa_cons (pv 2) pa_nil))) (pe_fld (pv 3) rfl) (nomark _)) (pss_one (ps_ret pe_bl)) pss_nil)))
      (pss_one (ps_ret pe_bl)), ?_⟩
    refine ⟨_, rfl, lh, _, rfl, SqL.of hlh, for_enum (K := K) (xs := as.map V.ref) (fun i σ H' => ∃ v2 v3 : Option V, σ = [some (.ref lh), some (.ref a), v2, v3] ∧ Same H H' ∧ ∀ j, j < i → (rs.getD j (0, 0)).2 ≤ Tm.stay p j)
      ⟨none, none, rfl, Same.refl H, fun j hj => absurd hj (Nat.not_lt_zero _)⟩ (fun i σ H' ⟨_, _, _, s1, _⟩ => SqL.of (s1 _ _ hlh)) ?_ ?_⟩
    · rintro i x σ H1 U hx ⟨v2, v3, rfl, s1, hno⟩ hU
      obtain ⟨ai, hai, rfl⟩ := ref_get hx
      obtain ⟨r, hr', dx, hth⟩ := hall.get hai
      have hi : i < rs.length := (List.getElem?_eq_some_iff.mp hr').1
      have er : rs.getD i (0, 0) = r := by rw [List.getD_eq_getElem?_getD, hr']; rfl
      have s2 : Same H (upd H1 U (.tup [.int (i : Int), .ref ai])) := s1.trans (same_new hU)
      refine ⟨U, _, rfl, SqT.of upd_same, rfl, _, _, rfl, _, _, rfl, rfl, ?_⟩
      refine ⟨_, rfl, _, rfl, a, p, i, rfl, s2 _ _ ha, hp, fun H3 s3 => ?_⟩
      have s23 := s2.trans s3
      refine ⟨_, rfl, ai, c1, dx, _, _, rfl, s23 _ _ hth, T.k1, T.n1n, thF_needed _ _, _, _, rfl, rfl, _, rfl, ?_⟩
      refine ite2 (fun c => ?_) fun c => ?_
      · have c := of_decide_eq_true c
        have e : Tm.enough rs p = false := by
          rw [Bool.eq_false_iff]
          intro z
          unfold Tm.enough at z
          have := List.all_eq_true.mp z i (List.mem_range.mpr hi)
          rw [decide_eq_true_iff, er] at this
          omega
        have := k _ s23
        rw [e] at this
        exact this
      · have c := of_decide_eq_false (Bool.eq_false_iff.mpr c)
        refine ⟨_, _, rfl, s23, fun j hj => ?_⟩
        by_cases e : j = i
        · subst e
          rw [er]
          omega
        · exact hno j (by omega)
    · rintro σ H1 ⟨v2, v3, rfl, s1, hno⟩
      rw [hlen] at hno
      have e : Tm.enough rs p = true := by
        unfold Tm.enough
        rw [List.all_eq_true]
        intro j hj
        rw [decide_eq_true_iff]
        exact hno j (List.mem_range.mp hj)
      have := k _ s1
      rw [e] at this
      exact this
/-! ### lawful_plans -/
def spLA (c1 c2 : Addr) : Sp := fun vs H Q _ => ∃ (lh lt : Addr) (rs : List (Nat × Nat)) (ts : List STree), vs = [.ref lh, .ref lt] ∧ ThsAt c1 H lh rs ∧ TrsAt c2 H lt ts ∧ rs.length ≤ 3 ∧ ts.length ≤ 7 ∧ (∀ r ∈ rs, RdOk r) ∧ (∀ t ∈ ts, TrOk t) ∧
  ∀ (H' : Hp) (l : Addr), Same H H' → PlsAt H' l (Tm.lawful rs ts) → Q (.ref l) H'
theorem scLA : FnScope ["thinnings", "trees", "plan"] ["thinnings", "trees"] (defScope sLA) := ⟨rfl, rfl, rfl, by decide +kernel, rfl, by decide +kernel, by decide +kernel⟩
theorem can_LA (T : Txt K mg c1 c2 c3) (h : HasF K mg "lawful_plans" "lawful_plans" sLA ["thinnings", "trees"]) (CSP : Can P w K mg base 3 "spaced_plans" ["thinnings", "trees"] (spSP c1 c2))
    (CES : Can P w K mg base 2 "enough_stay" ["thinnings", "plan"] (spES c1)) : Can P w K mg base 4 "lawful_plans" ["thinnings", "trees"] (spLA c1 c2) := by
  refine h.can scLA (fun vs H Q E h => ?_) (fun f cdv A outer s H vs Q E hr h => ?_)
  · obtain ⟨lh, lt, rs, ts, rfl, _⟩ := h
    rfl
  · obtain ⟨lh, lt, rs, ts, rfl, Hh, Ht, h3, h7, hrs, hts, cont⟩ := h
    refine ⟨_, pss_one (ps_ret (pe_lc (own := [("plan", 2)]) rfl scLA.nd (pi_list (pe_can CSP hr rfl (pa_cons (pv 0) (pa_cons (pv 1) pa_nil)))) (blkOk_by (N := ["thinnings", "trees", "plan"]) (sc := defScope sLA) (by decide +kernel))
      (fun s H C cl fp => pg_name (i := 2) scLA.nd rfl (Or.inl rfl)) (fun s H C cl fp => pts_one (pt_val (pe_can CES (hr.mono (by decide)) rfl (pa_cons (pv 0) (pa_cons (pv 2) pa_nil))))) (fun s H C cl fp => pv 2))), ?_⟩
    refine ⟨_, rfl, _, rfl, lh, lt, rs, ts, rfl, Hh, Ht, h3, h7, hrs, hts, fun H1 l s1 B => ?_⟩
    obtain ⟨as, hl, hall⟩ := B
    have hlen : (as.map V.ref).length = (Tm.spacedTo rs ts ts.length).length := by rw [List.length_map]; exact hall.1
    refine ⟨l, rfl, ⟨_, SqL.of hl⟩, fun D hD => ?_⟩
    refine lc_list (K := K) (a := l) (xs := as.map V.ref) (fun i H' => Same H1 H' ∧ PlsAt H' D (((Tm.spacedTo rs ts ts.length).take i).filter fun p => Tm.enough rs p)) ⟨same_new hD, TupsAt.nil upd_same⟩ (fun i H' _ ⟨s2, _⟩ => SqL.of (s2 _ _ hl)) ?_ ?_
    · rintro i x H2 hx ⟨s2, B2⟩
      obtain ⟨a, ha, rfl⟩ := ref_get hx
      obtain ⟨p, hp, Ta⟩ := hall.get ha
      have hpl : p.length = ts.length := Tm.spaced_len (Nat.le_refl _) (mem_of_at hp)
      refine ⟨rfl, ?_⟩
      refine ⟨_, rfl, _, rfl, lh, a, rs, p, rfl, Hh.same (s1.trans s2), s2 _ _ Ta, by omega, fun H3 s3 => ⟨_, rfl, ?_⟩⟩
      refine ite2 (fun c => ?_) fun c => ?_
      · obtain ⟨bs, hb, hB⟩ := B2.same s3
        refine ⟨_, rfl, _, hb, ?_, fun b o e => ?_, ?_⟩
        · rw [List.length_map, hB.1]
          have h1 := List.length_filter_le (fun p => Tm.enough rs p) ((Tm.spacedTo rs ts ts.length).take i)
          have h2 : ((Tm.spacedTo rs ts ts.length).take i).length ≤ (Tm.spacedTo rs ts ts.length).length := by rw [List.length_take]; exact Nat.min_le_right _ _
          have h4 := Tm.spaced_bound (rs := rs) (ts := ts) h3 h7 (Nat.le_refl _)
          exact big (by omega)
        · rw [upd_ne (ne_of_none e hD)]
          exact s3 _ _ (s2 _ _ e)
        · rw [take_snoc hp, List.filter_append, List.filter_cons, if_pos c, List.filter_nil]
          exact TupsAt.push hb hB (s3 _ _ (s2 _ _ Ta))
      · refine ⟨s2.trans s3, ?_⟩
        rw [take_snoc hp, List.filter_append, List.filter_cons, if_neg c, List.filter_nil, List.append_nil]
        exact B2.same s3
    · rintro H2 ⟨s2, B2⟩
      rw [hlen, List.take_length] at B2
      exact cont _ _ (s1.trans s2) B2
end
end Tt
set_option Elab.async false
set_option linter.all false
set_option maxRecDepth 100000
set_option maxHeartbeats 2000000
namespace Tt
open PySem PySem.Spec PyProof.Rows L2
/-- every tree has a worth at the time that the plan tells of it -/
def PlOk (ts : List STree) (p : List Nat) : Prop := p.length = ts.length ∧ ∀ (i : Nat) (t : STree) (n : Nat), ts[i]? = some t → p[i]? = some n → n < t.values.length
section
variable {P : Program} {w : World} {K : PySem.W.Frag} {mg : Str → Option Value} {base : Heap} {c1 c2 c3 : Addr}
/-! ### plan_worth -/
def spPW (c2 : Addr) : Sp := fun vs H Q _ => ∃ (lt a : Addr) (ts : List STree) (p : List Nat), vs = [.ref lt, .ref a] ∧ TrsAt c2 H lt ts ∧ H a = some (.tup (nvs p)) ∧ PlOk ts p ∧ ∀ H' : Hp, Same H H' → Q (nv (Tm.worthZ ts p)) H'
theorem scPW : FnScope ["trees", "plan", "total", "tree", "time"] ["trees", "plan"] (defScope sPW) := ⟨rfl, rfl, rfl, by decide +kernel, rfl, by decide +kernel, by decide +kernel⟩
theorem can_PW (T : Txt K mg c1 c2 c3) (h : HasF K mg "plan_worth" "plan_worth" sPW ["trees", "plan"]) : Can P w K mg base 1 "plan_worth" ["trees", "plan"] (spPW c2) := by
  refine h.can scPW (fun vs H Q E h => ?_) (fun f cdv A outer s H vs Q E hr h => ?_)
  · obtain ⟨lt, a, ts, p, rfl, _⟩ := h
    rfl
  · obtain ⟨lt, a, ts, p, rfl, ⟨as, hlt, hall⟩, ha, ⟨hpl, hval⟩, k⟩ := h
    have hlen : (as.map V.ref).length = ts.length := by rw [List.length_map]; exact hall.1
    refine ⟨_, pss_cons (ps_set (i := 2) scPW.nd rfl (Or.inl rfl) pe_int)
      (pss_cons (ps_for PassesOwn.never rfl (pi_zs false true rfl T.zip (pa_cons (pv 0) (pa_cons (pv 1) pa_nil))) (pg_tup rfl (pgs_cons (pg_name (i := 3) scPW.nd rfl (Or.inl rfl)) (pgs_cons (pg_name (i := 4) scPW.nd rfl (Or.inl rfl)) pgs_nil)))
        (pss_one (ps_aug (i := 2) scPW.nd rfl (Or.inl rfl) (pe_ix ix_list (pe_fld (pv 3) rfl) (pv 4) (fun _ _ => rfl)) ip_add)))
      (pss_one (ps_ret (pv 2)))), ?_⟩
    refine ⟨_, rfl, _, rfl, lt, a, _, _, rfl, SqL.of hlt, SqT.of ha, for_zs (K := K) (t1 := false) (t2 := true) (xs := as.map V.ref) (ys := nvs p)
      (fun i σ H' => ∃ v3 v4 : Option V, σ = [some (.ref lt), some (.ref a), some (nv (((ts.zip p).take i).map fun q => q.1.values.getD q.2 0).sum), v3, v4] ∧ Same H H')
      ⟨none, none, rfl, Same.refl H⟩ (fun i σ H' ⟨_, _, _, s1⟩ => ⟨SqL.of (s1 _ _ hlt), SqT.of (s1 _ _ ha)⟩) ?_ ?_⟩
    · rintro i x y σ H1 U hx hy ⟨v3, v4, rfl, s1⟩ hU
      obtain ⟨ai, hai, rfl⟩ := ref_get hx
      obtain ⟨n, hn, rfl⟩ := nvs_get hy
      obtain ⟨t, ht, dx, l, hti, hl⟩ := hall.get hai
      have hz : (ts.zip p)[i]? = some (t, n) := by rw [List.getElem?_zip_eq_some]; exact ⟨ht, hn⟩
      have hlt' := hval i t n ht hn
      have s2 : Same H (upd H1 U (.tup [.ref ai, nv n])) := s1.trans (same_new hU)
      refine ⟨U, _, rfl, SqT.of upd_same, rfl, _, _, rfl, _, _, rfl, rfl, ?_⟩
      refine ⟨_, rfl, _, rfl, ai, c2, dx, _, _, rfl, s2 _ _ hti, T.k2, T.n2w, trF_worths _ _ _, _, rfl, l, _, _, _, rfl, rfl, SqL.of (s2 _ _ hl), at_of (j := n) rfl (nvs_at (List.getElem?_eq_getElem hlt')), _, _, rfl, rfl, ?_⟩
      refine ⟨some (.ref ai), some (nv n), ?_, s2⟩
      rw [Tm.worthZ_take hz]
      have e : t.values.getD n 0 = t.values[n] := by rw [List.getD_eq_getElem?_getD, List.getElem?_eq_getElem hlt']; rfl
      show [some (V.ref lt), some (V.ref a), some (V.int (_ + _)), some (V.ref ai), some (nv n)] = _
      rw [e]
      rfl
    · rintro i σ H1 hi ⟨v3, v4, rfl, s1⟩
      refine ⟨_, rfl, ?_⟩
      rw [hlen, nvs_length] at hi
      rw [List.take_of_length_le (by rw [List.length_zip, hi]; exact Nat.le_refl _)]
      exact k _ s1
/-! ### best_plans -/
def spBP (c2 : Addr) : Sp := fun vs H Q _ => ∃ (lt lp : Addr) (rs : List (Nat × Nat)) (ts : List STree) (ps : List (List Nat)), vs = [.ref lt, .ref lp] ∧ TrsAt c2 H lt ts ∧ PlsAt H lp ps ∧ ps.length ≤ 999000 ∧ (∀ p ∈ ps, PlOk ts p) ∧
  ∀ (H' : Hp) (l : Addr), Same H H' → PlsAt H' l (Tm.bests ⟨rs, ts⟩ ps) → Q (.ref l) H'
theorem scBP : FnScope ["trees", "plans", "most", "best", "plan", "worth"] ["trees", "plans"] (defScope sBP) := ⟨rfl, rfl, rfl, by decide +kernel, rfl, by decide +kernel, by decide +kernel⟩
theorem can_BP (T : Txt K mg c1 c2 c3) (h : HasF K mg "best_plans" "best_plans" sBP ["trees", "plans"]) (CPW : Can P w K mg base 1 "plan_worth" ["trees", "plan"] (spPW c2)) : Can P w K mg base 2 "best_plans" ["trees", "plans"] (spBP c2) := by
  refine h.can scBP (fun vs H Q E h => ?_) (fun f cdv A outer s H vs Q E hr h => ?_)
  · obtain ⟨lt, lp, rs, ts, ps, rfl, _⟩ := h
    rfl
  · obtain ⟨lt, lp, rs, ts, ps, rfl, Ht, ⟨as, hlp, hall⟩, hbnd, hpok, cont⟩ := h
    have hlen : (as.map V.ref).length = ps.length := by rw [List.length_map]; exact hall.1
    refine ⟨_, pss_cons (ps_set (i := 2) scBP.nd rfl (Or.inl rfl) pe_int) (pss_cons (ps_set (i := 3) scBP.nd rfl (Or.inl rfl) (pe_lst pa_nil))
      (pss_cons (ps_for PassesOwn.never rfl (pi_list (pv 1)) (pg_name (i := 4) scBP.nd rfl (Or.inl rfl))
        (pss_cons (ps_set (i := 5) scBP.nd rfl (Or.inl rfl) (pe_can CPW hr rfl (pa_cons (pv 0) (pa_cons (pv 4) pa_nil))))
        (pss_cons (ps_if (pt_cmpR op_gt (pv 5) (pv 2) (nomark _)) (pss_cons (ps_set (i := 2) scBP.nd rfl (Or.inl rfl) (pv 5)) (pss_one (ps_set (i := 3) scBP.nd rfl (Or.inl rfl) (pe_lst pa_nil)))) pss_nil)
        (pss_one (ps_if (pt_cmpR op_eq (pv 5) (pv 2) (nomark _)) (pss_one (ps_expr (pe_bm PySem.F.plainAttrs_list PySem.F.slot_list_append PySem.F.type_list_append mt_append (pv 3) (pa_cons (pv 4) pa_nil)))) pss_nil)))))
      (pss_one (ps_ret (pv 3))))), ?_⟩
    refine ⟨Nat.zero_le _, fun q hq => ?_⟩
    have s0 : Same H (upd H q (.lst [])) := same_new hq
    refine ⟨_, rfl, lp, rfl, ⟨_, SqL.of (s0 _ _ hlp)⟩, for_list (K := K) (a := lp) (xs := as.map V.ref)
      (fun i σ H' => ∃ (l : Addr) (v4 v5 : Option V), σ = [some (.ref lt), some (.ref lp), some (nv (Tm.most ⟨rs, ts⟩ (ps.take i))), some (.ref l), v4, v5] ∧ Same H H' ∧ H l = none ∧ PlsAt H' l (Tm.bests ⟨rs, ts⟩ (ps.take i)))
      ⟨q, none, none, rfl, s0, hq, TupsAt.nil upd_same⟩ (fun i σ H' _ ⟨_, _, _, _, s1, _⟩ => SqL.of (s1 _ _ hlp)) ?_ ?_⟩
    · rintro i y σ H1 hi ⟨l, v4, v5, rfl, s1, hl, B⟩
      obtain ⟨a, ha, rfl⟩ := ref_get hi
      obtain ⟨p, hp, Ta⟩ := hall.get ha
      have pok := hpok p (mem_of_at hp)
      refine ⟨_, rfl, _, rfl, lt, a, ts, p, rfl, Ht.same s1, s1 _ _ Ta, pok, fun H2 s2 => ?_⟩
      have s12 := s1.trans s2
      have ew : Tm.worthZ ts p = Si57.Wood.worth ⟨rs, ts⟩ p := Tm.worth_eq (w := ⟨rs, ts⟩) pok.1
      have fin : ∀ (H3 : Hp) (l3 : Addr) (xs : List (List Nat)), Same H H3 → H l3 = none → PlsAt H3 l3 xs → xs.length ≤ 999000 → H3 a = some (.tup (nvs p)) →
          ∃ bs : List Addr, H3 l3 = some (.lst (bs.map V.ref)) ∧ (bs.map V.ref).length < sizeLine ∧ Same H (upd H3 l3 (.lst (bs.map V.ref ++ [.ref a]))) ∧ PlsAt (upd H3 l3 (.lst (bs.map V.ref ++ [.ref a]))) l3 (xs ++ [p]) := by
        intro H3 l3 xs s3 hl3 B3 hx hp3
        obtain ⟨bs, hb, hB⟩ := B3
        refine ⟨bs, hb, ?_, fun b o e => ?_, TupsAt.push hb hB hp3⟩
        · rw [List.length_map, hB.1]
          exact big (by omega)
        · rw [upd_ne (ne_of_none e hl3)]
          exact s3 _ _ e
      have em : Tm.most ⟨rs, ts⟩ (ps.take (i + 1)) = max (Tm.most ⟨rs, ts⟩ (ps.take i)) (Si57.Wood.worth ⟨rs, ts⟩ p) := by rw [take_snoc hp, Tm.most_snoc]
      have eb := Tm.bests_snoc ⟨rs, ts⟩ (ps.take i) p
      rw [← take_snoc hp] at eb
      have hbl : (Tm.bests ⟨rs, ts⟩ (ps.take i)).length ≤ 999000 := by
        have h1 : (Tm.bests ⟨rs, ts⟩ (ps.take i)).length ≤ (ps.take i).length := List.length_filter_le _ _
        have h2 : (ps.take i).length ≤ ps.length := by rw [List.length_take]; exact Nat.min_le_right _ _
        omega
      rw [ew]
      refine ⟨_, rfl, _, rfl, _, _, rfl, rfl, _, rfl, ?_⟩
      refine ite2 (fun c => ?_) fun c => ?_
      · have c := of_decide_eq_true c
        have c' : Tm.most ⟨rs, ts⟩ (ps.take i) < Si57.Wood.worth ⟨rs, ts⟩ p := by omega
        refine ⟨_, rfl, Nat.zero_le _, fun q2 hq2 => ?_⟩
        refine ⟨_, rfl, _, rfl, rfl, _, rfl, ?_⟩
        refine ite2 (fun d => ?_) fun d => absurd (decide_eq_true rfl) d
        have sq2 : Same H (upd H2 q2 (.lst [])) := s12.trans (same_new hq2)
        obtain ⟨bs, hb, hbl2, sn, Bn⟩ := fin _ q2 [] sq2 (s12.free hq2) (TupsAt.nil upd_same) (Nat.zero_le _) (sq2 _ _ Ta)
        refine ⟨_, rfl, .inl ⟨rfl, _, SqL.of hb⟩, _, rfl, q2, _, _, rfl, rfl, hb, hbl2, q2, some (.ref a), some (nv (Si57.Wood.worth ⟨rs, ts⟩ p)), ?_, sn, s12.free hq2, ?_⟩
        · rw [em, Nat.max_eq_right (by omega)]
          rfl
        · rw [eb, if_pos c']
          exact Bn
      · have c := of_decide_eq_false (Bool.eq_false_iff.mpr c)
        have c' : ¬ Tm.most ⟨rs, ts⟩ (ps.take i) < Si57.Wood.worth ⟨rs, ts⟩ p := by omega
        refine ⟨_, rfl, _, rfl, rfl, _, rfl, ?_⟩
        refine ite2 (fun d => ?_) fun d => ?_
        · have d := of_decide_eq_true d
          have d' : Si57.Wood.worth ⟨rs, ts⟩ p = Tm.most ⟨rs, ts⟩ (ps.take i) := by
            injection d with d
            omega
          obtain ⟨bs, hb, hbl2, sn, Bn⟩ := fin H2 l _ s12 hl (B.same s2) hbl (s12 _ _ Ta)
          refine ⟨_, rfl, .inl ⟨rfl, _, SqL.of hb⟩, _, rfl, l, _, _, rfl, rfl, hb, hbl2, l, some (.ref a), some (nv (Si57.Wood.worth ⟨rs, ts⟩ p)), ?_, sn, hl, ?_⟩
          · rw [em, Nat.max_eq_left (by omega)]
            rfl
          · rw [eb, if_neg c', if_pos d']
            exact Bn
        · have d := of_decide_eq_false (Bool.eq_false_iff.mpr d)
          have d' : ¬ Si57.Wood.worth ⟨rs, ts⟩ p = Tm.most ⟨rs, ts⟩ (ps.take i) := fun z => d (by rw [z])
          refine ⟨l, some (.ref a), some (nv (Si57.Wood.worth ⟨rs, ts⟩ p)), ?_, s12, hl, ?_⟩
          · rw [em, Nat.max_eq_left (by omega)]
            rfl
          · rw [eb, if_neg c', if_neg d']
            exact B.same s2
    · rintro σ H1 ⟨l, v4, v5, rfl, s1, hl, B⟩
      rw [hlen, List.take_length] at B
      exact ⟨_, rfl, cont _ _ s1 B⟩
end
end Tt
set_option Elab.async false
set_option linter.all false
set_option maxRecDepth 100000
set_option maxHeartbeats 2000000
namespace Tt
open PySem PySem.Spec PyProof.Rows L2
section
variable {P : Program} {w : World} {K : PySem.W.Frag} {mg : Str → Option Value} {base : Heap} {c1 c2 c3 : Addr}
/-! ### how_many_stay of a list -/
def spHSL : Sp := fun vs H Q _ => ∃ (a : Addr) (p : List Nat) (j : Nat), vs = [.ref a, nv j] ∧ H a = some (.lst (nvs p)) ∧ p.length ≤ 1000 ∧ ∀ H' : Hp, Same H H' → Q (nv (Tm.stay p j)) H'
theorem can_HSL (T : Txt K mg c1 c2 c3) (h : HasF K mg "how_many_stay" "how_many_stay" sHS ["plan", "number"]) : Can P w K mg base 1 "how_many_stay" ["plan", "number"] spHSL := by
  refine h.can scHS (fun vs H Q E h => ?_) (fun f cdv A outer s H vs Q E hr h => ?_)
  · obtain ⟨a, p, j, rfl, _⟩ := h
    rfl
  · obtain ⟨a, p, j, rfl, ha, hp, k⟩ := h
    refine ⟨_, pss_one (ps_ret (pe_callB call_len_seq (by rfl) T.len PySem.boot_len (pa_cons (pe_lc (own := [("time", 2)]) rfl scHS.nd (pi_list (pv 0)) (blkOk_by (N := ["plan", "number", "time"]) (sc := defScope sHS) (by decide +kernel))
      (fun s H C cl fp => pg_name (i := 2) scHS.nd rfl (Or.inl rfl)) (fun s H C cl fp => pts_one (pt_cmpR op_gt (pv 2) (pv 1) (nomark _))) (fun s H C cl fp => pv 2)) pa_nil))), ?_⟩
    refine ⟨_, rfl, a, rfl, ⟨_, SqL.of ha⟩, fun D hD => ?_⟩
    refine lc_list (K := K) (a := a) (xs := nvs p) (fun i H' => Same H H' ∧ H' D = some (.lst (nvs ((p.take i).filter fun t => decide (j < t))))) ⟨same_new hD, upd_same⟩ (fun i H' _ ⟨s1, _⟩ => SqL.of (s1 _ _ ha)) ?_ ?_
    · rintro i x H1 hx ⟨s1, hD1⟩
      obtain ⟨t, ht, rfl⟩ := nvs_get hx
      refine ⟨rfl, ?_⟩
      refine ⟨_, rfl, _, rfl, _, _, rfl, rfl, _, rfl, ?_⟩
      refine ite2 (fun c => ?_) fun c => ?_
      · have c := of_decide_eq_true c
        refine ⟨_, rfl, _, hD1, ?_, fun b o e => ?_, ?_⟩
        · rw [nvs_length]
          have h1 := List.length_filter_le (fun t => decide (j < t)) (p.take i)
          have h2 : (p.take i).length ≤ p.length := by rw [List.length_take]; exact Nat.min_le_right _ _
          exact big (by omega)
        · rw [upd_ne (ne_of_none e hD)]
          exact s1 _ _ e
        · rw [upd_same, take_snoc ht, List.filter_append, List.filter_cons, if_pos (by rw [decide_eq_true_iff]; omega), List.filter_nil, nvs_snoc]
      · have c := of_decide_eq_false (Bool.eq_false_iff.mpr c)
        refine ⟨s1, ?_⟩
        rw [take_snoc ht, List.filter_append, List.filter_cons, if_neg (by rw [decide_eq_true_iff]; omega), List.filter_nil, List.append_nil]
        exact hD1
    · rintro H1 ⟨s1, hD1⟩
      rw [nvs_length, List.take_length] at hD1
      refine ⟨D, _, rfl, .inl (SqL.of hD1), ?_⟩
      have := k _ s1
      rw [nvs_length]
      exact this
/-! ### plan_worth of a list -/
def spPWL (c2 : Addr) : Sp := fun vs H Q _ => ∃ (lt a : Addr) (ts : List STree) (p : List Nat), vs = [.ref lt, .ref a] ∧ TrsAt c2 H lt ts ∧ H a = some (.lst (nvs p)) ∧ PlOk ts p ∧ ∀ H' : Hp, Same H H' → Q (nv (Tm.worthZ ts p)) H'
theorem can_PWL (T : Txt K mg c1 c2 c3) (h : HasF K mg "plan_worth" "plan_worth" sPW ["trees", "plan"]) : Can P w K mg base 1 "plan_worth" ["trees", "plan"] (spPWL c2) := by
  refine h.can scPW (fun vs H Q E h => ?_) (fun f cdv A outer s H vs Q E hr h => ?_)
  · obtain ⟨lt, a, ts, p, rfl, _⟩ := h
    rfl
  · obtain ⟨lt, a, ts, p, rfl, ⟨as, hlt, hall⟩, ha, ⟨hpl, hval⟩, k⟩ := h
    have hlen : (as.map V.ref).length = ts.length := by rw [List.length_map]; exact hall.1
    refine ⟨_, pss_cons (ps_set (i := 2) scPW.nd rfl (Or.inl rfl) pe_int)
      (pss_cons (ps_for PassesOwn.never rfl (pi_zs false false rfl T.zip (pa_cons (pv 0) (pa_cons (pv 1) pa_nil))) (pg_tup rfl (pgs_cons (pg_name (i := 3) scPW.nd rfl (Or.inl rfl)) (pgs_cons (pg_name (i := 4) scPW.nd rfl (Or.inl rfl)) pgs_nil)))
        (pss_one (ps_aug (i := 2) scPW.nd rfl (Or.inl rfl) (pe_ix ix_list (pe_fld (pv 3) rfl) (pv 4) (fun _ _ => rfl)) ip_add)))
      (pss_one (ps_ret (pv 2)))), ?_⟩
    refine ⟨_, rfl, _, rfl, lt, a, _, _, rfl, SqL.of hlt, SqL.of ha, for_zs (K := K) (t1 := false) (t2 := false) (xs := as.map V.ref) (ys := nvs p)
      (fun i σ H' => ∃ v3 v4 : Option V, σ = [some (.ref lt), some (.ref a), some (nv (((ts.zip p).take i).map fun q => q.1.values.getD q.2 0).sum), v3, v4] ∧ Same H H')
      ⟨none, none, rfl, Same.refl H⟩ (fun i σ H' ⟨_, _, _, s1⟩ => ⟨SqL.of (s1 _ _ hlt), SqL.of (s1 _ _ ha)⟩) ?_ ?_⟩
    · rintro i x y σ H1 U hx hy ⟨v3, v4, rfl, s1⟩ hU
      obtain ⟨ai, hai, rfl⟩ := ref_get hx
      obtain ⟨n, hn, rfl⟩ := nvs_get hy
      obtain ⟨t, ht, dx, l, hti, hl⟩ := hall.get hai
      have hz : (ts.zip p)[i]? = some (t, n) := by rw [List.getElem?_zip_eq_some]; exact ⟨ht, hn⟩
      have hlt' := hval i t n ht hn
      have s2 : Same H (upd H1 U (.tup [.ref ai, nv n])) := s1.trans (same_new hU)
      refine ⟨U, _, rfl, SqT.of upd_same, rfl, _, _, rfl, _, _, rfl, rfl, ?_⟩
      refine ⟨_, rfl, _, rfl, ai, c2, dx, _, _, rfl, s2 _ _ hti, T.k2, T.n2w, trF_worths _ _ _, _, rfl, l, _, _, _, rfl, rfl, SqL.of (s2 _ _ hl), at_of (j := n) rfl (nvs_at (List.getElem?_eq_getElem hlt')), _, _, rfl, rfl, ?_⟩
      refine ⟨some (.ref ai), some (nv n), ?_, s2⟩
      rw [Tm.worthZ_take hz]
      have e : t.values.getD n 0 = t.values[n] := by rw [List.getD_eq_getElem?_getD, List.getElem?_eq_getElem hlt']; rfl
      show [some (V.ref lt), some (V.ref a), some (V.int (_ + _)), some (V.ref ai), some (nv n)] = _
      rw [e]
      rfl
    · rintro i σ H1 hi ⟨v3, v4, rfl, s1⟩
      refine ⟨_, rfl, ?_⟩
      rw [hlen, nvs_length] at hi
      rw [List.take_of_length_le (by rw [List.length_zip, hi]; exact Nat.le_refl _)]
      exact k _ s1
/-! ### fault_behind -/
theorem nat_at {p : List Nat} {i : Nat} (h : i < p.length) : p[i]? = some (p.getD i 0) := by
  rw [List.getD_eq_getElem?_getD, List.getElem?_eq_getElem h]
  rfl
def spFB (c1 c2 : Addr) : Sp := fun vs H Q _ => ∃ (a lt lp : Addr) (r : Nat × Nat) (j : Nat) (ts : List STree) (p : List Nat), vs = [.ref a, nv j, .ref lt, .ref lp] ∧ ThAt c1 H a r ∧ TrsAt c2 H lt ts ∧ ts.length ≤ 7 ∧ (∀ t ∈ ts, TrOk t) ∧ r.1 ≤ 2000 ∧ H lp = some (.lst (nvs p)) ∧ p.length = ts.length ∧
  ∀ (H' : Hp) (q : Addr), Same H H' → H' q = some (.lst (nvs (Tm.faultB ts r j p))) → Q (.ref q) H'
theorem scFB : FnScope ["thinning", "number", "trees", "plan", "low", "high", "stay"] ["thinning", "number", "trees", "plan"] (defScope sFB) := ⟨rfl, rfl, rfl, by decide +kernel, rfl, by decide +kernel, by decide +kernel⟩
theorem can_FB (T : Txt K mg c1 c2 c3) (h : HasF K mg "fault_behind" "fault_behind" sFB ["thinning", "number", "trees", "plan"]) (CNP : Can P w K mg base 2 "near_pairs" ["trees", "gap"] (spNP c2)) (CHS : Can P w K mg base 1 "how_many_stay" ["plan", "number"] spHSL) :
    Can P w K mg base 3 "fault_behind" ["thinning", "number", "trees", "plan"] (spFB c1 c2) := by
  refine h.can scFB (fun vs H Q E h => ?_) (fun f cdv A outer s H vs Q E hr h => ?_)
  · obtain ⟨a, lt, lp, r, j, ts, p, rfl, _⟩ := h
    rfl
  · obtain ⟨a, lt, lp, r, j, ts, p, rfl, ⟨dx, ha⟩, Ht, h7, hok, hg, hlp, hpl, k⟩ := h
    refine ⟨_, pss_cons (ps_for PassesOwn.never rfl (pi_list (pe_can CNP hr rfl (pa_cons (pv 2) (pa_cons (pe_fld (pv 0) rfl) pa_nil)))) (pg_tup rfl (pgs_cons (pg_name (i := 4) scFB.nd rfl (Or.inl rfl)) (pgs_cons (pg_name (i := 5) scFB.nd rfl (Or.inl rfl)) pgs_nil)))
        (pss_one (ps_if (PW.pt (pw_and (pt_cmpR op_gt (pe_ix ix_list (pv 3) (pv 4) (fun _ _ => rfl)) (pv 1) (nomark _)) (pw_and1 (pt_cmpR op_gt (pe_ix ix_list (pv 3) (pv 5) (fun _ _ => rfl)) (pv 1) (nomark _)))))
          (pss_one (ps_ret (pe_lst (pa_cons (pv 4) (pa_cons (pv 5) pa_nil))))) pss_nil)))
      (pss_cons (ps_set (i := 6) scFB.nd rfl (Or.inl rfl) (pe_can CHS (hr.mono (by decide)) rfl (pa_cons (pv 3) (pa_cons (pv 1) pa_nil))))
      (pss_cons (ps_if (pt_cmpR op_lt (pv 6) (pe_fld (pv 0) rfl) (nomark _)) (pss_one (ps_ret (pe_lst (pa_cons (pv 6) pa_nil)))) pss_nil)
      (pss_one (ps_ret (pe_lst pa_nil))))), ?_⟩
    refine ⟨_, rfl, _, rfl, a, c1, dx, _, _, rfl, ha, T.k1, T.n1g, thF_gap _ _, lt, ts, r.1, rfl, Ht, h7, hok, hg, fun H1 l s1 B => ?_⟩
    obtain ⟨as, hl, hall⟩ := B
    have hlen : (as.map V.ref).length = (Tm.prsTo ts r.1 ts.length).length := by rw [List.length_map]; exact hall.1
    refine ⟨l, rfl, ⟨_, SqL.of hl⟩, for_list (K := K) (a := l) (xs := as.map V.ref)
      (fun i σ H' => ∃ v4 v5 : Option V, σ = [some (.ref a), some (nv j), some (.ref lt), some (.ref lp), v4, v5, none] ∧ H' = H1 ∧ ∀ (m : Nat) (q : Nat × Nat), m < i → (Tm.prsTo ts r.1 ts.length)[m]? = some q → Tm.stand p j q = false)
      ⟨none, none, rfl, rfl, fun m q hm => absurd hm (Nat.not_lt_zero _)⟩ (fun i σ H' _ ⟨_, _, _, e, _⟩ => by rw [e]; exact SqL.of hl) ?_ ?_⟩
    · rintro i y σ H2 hi ⟨v4, v5, rfl, rfl, hno⟩
      obtain ⟨b, hb, rfl⟩ := ref_get hi
      obtain ⟨q, hq, Tb⟩ := hall.get hb
      obtain ⟨q1, q2⟩ := Tm.prs_mem (mem_of_at hq)
      have go : Tm.stand p j q = false → ∀ (m : Nat) (q' : Nat × Nat), m < i + 1 → (Tm.prsTo ts r.1 ts.length)[m]? = some q' → Tm.stand p j q' = false := fun c m q' hm hq' => by
        by_cases e : m = i
        · subst e
          rw [hq] at hq'
          cases hq'
          exact c
        · exact hno m q' (by omega) hq'
      refine ⟨b, _, rfl, SqT.of Tb, rfl, _, _, rfl, _, _, rfl, rfl, ?_⟩
      refine ⟨_, rfl, _, rfl, lp, _, _, _, rfl, rfl, SqL.of (s1 _ _ hlp), at_of (j := q.1) rfl (nvs_at (nat_at (by omega))), _, rfl, _, _, rfl, rfl, _, rfl, ?_⟩
      refine ite2 (fun c => ?_) fun c => ?_
      · have c := of_decide_eq_true c
        refine ⟨_, rfl, _, rfl, lp, _, _, _, rfl, rfl, SqL.of (s1 _ _ hlp), at_of (j := q.2) rfl (nvs_at (nat_at (by omega))), _, rfl, _, _, rfl, rfl, _, rfl, ?_⟩
        refine ite2 (fun d => ?_) fun d => ?_
        · have d := of_decide_eq_true d
          have e : (Tm.prsTo ts r.1 ts.length).find? (Tm.stand p j) = some q := by
            rw [List.find?_eq_some_iff_getElem]
            have hi' := (List.getElem?_eq_some_iff.mp hq).1
            refine ⟨?_, i, hi', (List.getElem?_eq_some_iff.mp hq).2, fun m hm => ?_⟩
            · unfold Tm.stand
              rw [Bool.and_eq_true, decide_eq_true_iff, decide_eq_true_iff]
              omega
            · rw [hno m _ hm (List.getElem?_eq_getElem (by omega))]
              rfl
          refine ⟨_, rfl, _, rfl, by show 2 ≤ sizeLine; decide, fun r' hr' => ?_⟩
          refine k _ r' (s1.trans (same_new hr')) ?_
          unfold Tm.faultB
          rw [e, upd_same]
          rfl
        · have d := of_decide_eq_false (Bool.eq_false_iff.mpr d)
          refine ⟨_, _, rfl, rfl, go ?_⟩
          unfold Tm.stand
          rw [Bool.and_eq_false_iff, decide_eq_false_iff_not, decide_eq_false_iff_not]
          omega
      · have c := of_decide_eq_false (Bool.eq_false_iff.mpr c)
        refine iteF ⟨_, _, rfl, rfl, go ?_⟩
        unfold Tm.stand
        rw [Bool.and_eq_false_iff, decide_eq_false_iff_not, decide_eq_false_iff_not]
        omega
    · rintro σ H2 ⟨v4, v5, rfl, rfl, hno⟩
      rw [hlen] at hno
      have e : (Tm.prsTo ts r.1 ts.length).find? (Tm.stand p j) = none := by
        rw [List.find?_eq_none]
        intro q hq
        obtain ⟨m, hm⟩ := List.mem_iff_getElem?.mp hq
        rw [hno m q (List.getElem?_eq_some_iff.mp hm).1 hm]
        decide
      refine ⟨_, rfl, _, rfl, lp, p, j, rfl, s1 _ _ hlp, by omega, fun H3 s3 => ?_⟩
      have s13 := s1.trans s3
      refine ⟨_, rfl, _, rfl, a, c1, dx, _, _, rfl, s13 _ _ ha, T.k1, T.n1n, thF_needed _ _, _, _, rfl, rfl, _, rfl, ?_⟩
      refine ite2 (fun c => ?_) fun c => ?_
      · have c := of_decide_eq_true c
        refine ⟨_, rfl, by show 1 ≤ sizeLine; decide, fun r' hr' => ?_⟩
        refine k _ r' (s13.trans (same_new hr')) ?_
        unfold Tm.faultB
        rw [e, upd_same]
        show _ = some (HO.lst (nvs (if Tm.stay p j < r.2 then [Tm.stay p j] else [])))
        rw [if_pos (by omega)]
        rfl
      · have c := of_decide_eq_false (Bool.eq_false_iff.mpr c)
        refine ⟨Nat.zero_le _, fun r' hr' => ?_⟩
        refine k _ r' (s13.trans (same_new hr')) ?_
        unfold Tm.faultB
        rw [e, upd_same]
        show _ = some (HO.lst (nvs (if Tm.stay p j < r.2 then [Tm.stay p j] else [])))
        rw [if_neg (by omega)]
        rfl
/-! ### first_fault -/
def spFF (c1 c2 : Addr) : Sp := fun vs H Q _ => ∃ (lh lt lp : Addr) (W : SWood) (p : List Nat), vs = [.ref lh, .ref lt, .ref lp] ∧ ThsAt c1 H lh W.rounds ∧ TrsAt c2 H lt W.trees ∧ W.trees.length ≤ 7 ∧ (∀ r ∈ W.rounds, RdOk r) ∧ (∀ t ∈ W.trees, TrOk t) ∧ H lp = some (.lst (nvs p)) ∧ p.length = W.trees.length ∧
  ∀ (H' : Hp) (q : Addr), Same H H' → H' q = some (.lst (nvs (Tm.faultF W p))) → Q (.ref q) H'
theorem scFF : FnScope ["thinnings", "trees", "plan", "number", "thinning", "fault"] ["thinnings", "trees", "plan"] (defScope sFF) := ⟨rfl, rfl, rfl, by decide +kernel, rfl, by decide +kernel, by decide +kernel⟩
theorem can_FF (T : Txt K mg c1 c2 c3) (h : HasF K mg "first_fault" "first_fault" sFF ["thinnings", "trees", "plan"]) (CFB : Can P w K mg base 3 "fault_behind" ["thinning", "number", "trees", "plan"] (spFB c1 c2)) :
    Can P w K mg base 4 "first_fault" ["thinnings", "trees", "plan"] (spFF c1 c2) := by
  refine h.can scFF (fun vs H Q E h => ?_) (fun f cdv A outer s H vs Q E hr h => ?_)
  · obtain ⟨lh, lt, lp, W, p, rfl, _⟩ := h
    rfl
  · obtain ⟨lh, lt, lp, W, p, rfl, ⟨as, hlh, hall⟩, Ht, h7, hrd, htr, hlp, hpl, k⟩ := h
    have hlen : (as.map V.ref).length = W.rounds.length := by rw [List.length_map]; exact hall.1
    refine ⟨_, pss_cons (ps_for PassesOwn.never rfl (pi_enum rfl T.enum (pa_cons (pv 0) pa_nil)) (pg_tup rfl (pgs_cons (pg_name (i := 3) scFF.nd rfl (Or.inl rfl)) (pgs_cons (pg_name (i := 4) scFF.nd rfl (Or.inl rfl)) pgs_nil)))
        (pss_cons (ps_set (i := 5) scFF.nd rfl (Or.inl rfl) (pe_can CFB hr rfl (pa_cons (pv 4) (pa_cons (pv 3) (pa_cons (pv 1) (pa_cons (pv 2) pa_nil))))))
        (pss_one (ps_if (pt_cmpR op_gt (pe_callB call_len_seq (by rfl) T.len PySem.boot_len (pa_cons (pv 5) pa_nil)) pe_int (nomark _)) (pss_one (ps_ret (pe_op op_cat (pe_lst (pa_cons (pv 3) pa_nil)) (pv 5)))) pss_nil))))
      (pss_one (ps_ret (pe_lst pa_nil))), ?_⟩
    refine ⟨_, rfl, lh, _, rfl, SqL.of hlh, for_enum (K := K) (xs := as.map V.ref) (fun i σ H' => ∃ v3 v4 v5 : Option V, σ = [some (.ref lh), some (.ref lt), some (.ref lp), v3, v4, v5] ∧ Same H H' ∧ ∀ j, j < i → Tm.faultB W.trees (W.gap j, W.least j) j p = [])
      ⟨none, none, none, rfl, Same.refl H, fun j hj => absurd hj (Nat.not_lt_zero _)⟩ (fun i σ H' ⟨_, _, _, _, s1, _⟩ => SqL.of (s1 _ _ hlh)) ?_ ?_⟩
    · rintro i x σ H1 U hx ⟨v3, v4, v5, rfl, s1, hno⟩ hU
      obtain ⟨ai, hai, rfl⟩ := ref_get hx
      obtain ⟨r, hr', hth⟩ := hall.get hai
      have hi : i < W.rounds.length := (List.getElem?_eq_some_iff.mp hr').1
      have er : r = (W.gap i, W.least i) := by
        rw [← Tm.gap_at hi]
        exact ((List.getElem?_eq_some_iff.mp hr').2).symm
      have s2 : Same H (upd H1 U (.tup [.int (i : Int), .ref ai])) := s1.trans (same_new hU)
      refine ⟨U, _, rfl, SqT.of upd_same, rfl, _, _, rfl, _, _, rfl, rfl, ?_⟩
      refine ⟨_, rfl, _, rfl, _, rfl, _, rfl, ai, lt, lp, r, i, W.trees, p, rfl, hth.same s2, Ht.same s2, h7, htr, hrd r (mem_of_at hr'), s2 _ _ hlp, hpl, fun H3 q s3 hq => ?_⟩
      have s23 := s2.trans s3
      rw [er] at hq
      refine ⟨_, rfl, q, _, rfl, .inl (SqL.of hq), _, _, rfl, rfl, _, rfl, ?_⟩
      rw [nvs_length]
      refine ite2 (fun c => ?_) fun c => ?_
      · have c := of_decide_eq_true c
        have c : Tm.faultB W.trees (W.gap i, W.least i) i p ≠ [] := fun z => by rw [z] at c; exact absurd c (by decide)
        refine ⟨_, rfl, by show 1 ≤ sizeLine; decide, fun r1 hr1 => ?_⟩
        have s4 := same_new (o := .lst [.int (i : Int)]) hr1
        refine ⟨_, rfl, r1, q, _, _, rfl, rfl, upd_same, s4 _ _ hq, ?_, fun r2 hr2 => ?_⟩
        · have := Tm.faultB_len W.trees (W.gap i, W.least i) i p
          rw [nvs_length]
          show 1 + _ ≤ sizeLine
          exact big' (by omega)
        · refine k _ r2 (s23.trans (s4.trans (same_new hr2))) ?_
          unfold Tm.faultF
          rw [Tm.faultF_at hpl hi hno c, upd_same]
          rfl
      · have c := of_decide_eq_false (Bool.eq_false_iff.mpr c)
        have c : Tm.faultB W.trees (W.gap i, W.least i) i p = [] := by
          refine List.length_eq_zero_iff.mp ?_
          omega
        refine ⟨_, _, _, rfl, s23, fun j hj => ?_⟩
        by_cases e : j = i
        · subst e
          exact c
        · exact hno j (by omega)
    · rintro σ H1 ⟨v3, v4, v5, rfl, s1, hno⟩
      rw [hlen] at hno
      refine ⟨Nat.zero_le _, fun r' hr' => ?_⟩
      refine k _ r' (s1.trans (same_new hr')) ?_
      unfold Tm.faultF
      rw [Tm.faultF_no hpl hno, upd_same]
      rfl
/-! ### plans_with_time -/
def spPT : Sp := fun vs H Q _ => ∃ (lp : Addr) (ps : List (List Nat)) (i t : Nat), vs = [.ref lp, nv i, nv t] ∧ PlsAt H lp ps ∧ ps.length ≤ 999000 ∧ (∀ p ∈ ps, i < p.length) ∧ ∀ (H' : Hp) (l : Addr), Same H H' → PlsAt H' l (ps.filter fun p => p.getD i 0 == t) → Q (.ref l) H'
theorem scPT : FnScope ["plans", "number", "time", "plan"] ["plans", "number", "time"] (defScope sPT) := ⟨rfl, rfl, rfl, by decide +kernel, rfl, by decide +kernel, by decide +kernel⟩
theorem can_PT (T : Txt K mg c1 c2 c3) (h : HasF K mg "plans_with_time" "plans_with_time" sPT ["plans", "number", "time"]) : Can P w K mg base 1 "plans_with_time" ["plans", "number", "time"] spPT := by
  refine h.can scPT (fun vs H Q E h => ?_) (fun f cdv A outer s H vs Q E hr h => ?_)
  · obtain ⟨lp, ps, i, t, rfl, _⟩ := h
    rfl
  · obtain ⟨lp, ps, i, t, rfl, ⟨as, hl, hall⟩, hb, hlt, k⟩ := h
    have hlen : (as.map V.ref).length = ps.length := by rw [List.length_map]; exact hall.1
    refine ⟨_, pss_one (ps_ret (pe_lc (own := [("plan", 3)]) rfl scPT.nd (pi_list (pv 0)) (blkOk_by (N := ["plans", "number", "time", "plan"]) (sc := defScope sPT) (by decide +kernel))
      (fun s H C cl fp => pg_name (i := 3) scPT.nd rfl (Or.inl rfl)) (fun s H C cl fp => pts_one (pt_cmpR op_eq (pe_ix (r := rIxT K) ix_tup (pv 3) (pv 1) (fun _ _ => rfl)) (pv 2) (nomark _))) (fun s H C cl fp => pv 3))), ?_⟩
    refine ⟨_, rfl, lp, rfl, ⟨_, SqL.of hl⟩, fun D hD => ?_⟩
    refine lc_list (K := K) (a := lp) (xs := as.map V.ref) (fun m H' => Same H H' ∧ PlsAt H' D ((ps.take m).filter fun p => p.getD i 0 == t)) ⟨same_new hD, TupsAt.nil upd_same⟩ (fun m H' _ ⟨s1, _⟩ => SqL.of (s1 _ _ hl)) ?_ ?_
    · rintro m x H1 hx ⟨s1, B⟩
      obtain ⟨a, ha, rfl⟩ := ref_get hx
      obtain ⟨p, hp, Ta⟩ := hall.get ha
      have hi := hlt p (mem_of_at hp)
      refine ⟨rfl, ?_⟩
      refine ⟨_, rfl, _, rfl, a, _, _, _, rfl, rfl, SqT.of (s1 _ _ Ta), at_of (j := i) rfl (nvs_at (nat_at hi)), _, rfl, rfl, _, rfl, ?_⟩
      refine ite2 (fun c => ?_) fun c => ?_
      · have c := of_decide_eq_true c
        have c : (p.getD i 0 == t) = true := by
          injection c with c
          rw [beq_iff_eq]
          omega
        obtain ⟨bs, hb', hB⟩ := B
        refine ⟨_, rfl, _, hb', ?_, fun b o e => ?_, ?_⟩
        · rw [List.length_map, hB.1]
          have h1 := List.length_filter_le (fun p : List Nat => p.getD i 0 == t) (ps.take m)
          have h2 : (ps.take m).length ≤ ps.length := by rw [List.length_take]; exact Nat.min_le_right _ _
          exact big (by omega)
        · rw [upd_ne (ne_of_none e hD)]
          exact s1 _ _ e
        · rw [take_snoc hp, List.filter_append, List.filter_cons, if_pos c, List.filter_nil]
          exact TupsAt.push hb' hB (s1 _ _ Ta)
      · have c := of_decide_eq_false (Bool.eq_false_iff.mpr c)
        have c : ¬ (p.getD i 0 == t) = true := fun z => by
          rw [beq_iff_eq] at z
          rw [z] at c
          exact c rfl
        refine ⟨s1, ?_⟩
        rw [take_snoc hp, List.filter_append, List.filter_cons, if_neg c, List.filter_nil, List.append_nil]
        exact B
    · rintro H1 ⟨s1, B⟩
      rw [hlen, List.take_length] at B
      exact k _ _ s1 B
end
end Tt
set_option Elab.async false
set_option linter.all false
set_option maxRecDepth 100000
set_option maxHeartbeats 2000000
namespace Tt
open PySem PySem.Spec PyProof.Rows L2
abbrev sTF : Stmt := top 36
abbrev sTA : Stmt := top 37
abbrev sTRA : Stmt := top 38
abbrev sPA : Stmt := top 39
abbrev sWI : Stmt := inClass (top 40) 0
/-! ### the numbers at the top -/
def Num (mg : Str → Option Value) (x : Str) (n : Int) : Prop := ∃ t, mg x = some (.int n t)
theorem pe_num {X : Cx} {x : Str} {n : Int} {pos : Pos} (h : Num X.mg x n) (hg : Gl X x) (hd : (x == ("__debug__" : Str)) = false := by decide) : PE X (.Name x pos) (tC (.int n)) := by
  intro pins s σ H Q I q
  obtain ⟨t, e⟩ := h
  exact pe_glob (v := .int n) hg e ⟨t, rfl⟩ hd pins s σ H Q I q
/-! ### small things -/
theorem rgc2 {n m : Nat} (h : n = 2 * m) (hn : n ≤ 1000) : RgC 0 (n : Int) 2 m := by
  have e : Builtin.Range.rangeSize 0 (n : Int) 2 = (m : Int) := by
    unfold Builtin.Range.rangeSize
    simp only [show ((2 : Int) > 0) by decide, if_true]
    split <;> omega
  refine ⟨by decide, by decide, ?_, e⟩
  unfold Builtin.Range.small
  rw [e]
  unfold Builtin.Range.rangeFitsLong
  have hB : (1000000 : Int) < 2 ^ 63 := by decide
  revert hB
  generalize (2 : Int) ^ 63 = B
  intro hB
  rw [if_pos (show (2 : Int) > 0 by decide)]
  rw [decide_eq_true (show -B ≤ 0 by omega), decide_eq_true (show 0 < B by omega), decide_eq_true (show -B ≤ (n : Int) by omega), decide_eq_true (show (n : Int) < B by omega), decide_eq_true (show -B ≤ 2 by omega), decide_eq_true (show 2 < B by omega),
    decide_eq_true (show -B ≤ (m : Int) by omega), decide_eq_true (show (m : Int) < B by omega), decide_eq_true (show -B ≤ (n : Int) + (2 - 1) by omega), decide_eq_true (show (n : Int) + (2 - 1) < B by omega)]
  show (true && (_ || true)) = true
  rw [Bool.or_true, Bool.and_true]
theorem made_same {H : Hp} {x dx : Addr} {o1 o2 o3 : HO} (hx : H x = none) (hd : H dx = none) : Same H (upd (upd (upd H dx o1) x o2) x o3) := fun b o e => by
  rw [upd_ne (ne_of_none e hx), upd_ne (ne_of_none e hx), upd_ne (ne_of_none e hd)]
  exact e
theorem ThAt.updL {C : Addr} {H : Hp} {a l : Addr} {r : Nat × Nat} {ys : List V} {o : HO} (h : ThAt C H a r) (hl : H l = some (.lst ys)) : ThAt C (upd H l o) a r := by
  obtain ⟨dx, e⟩ := h
  exact ⟨dx, by rw [upd_ne (ne_of e hl (by intro z; cases z))]; exact e⟩
theorem rounds_len : ∀ {ns : List Nat} {rs : List (Nat × Nat)}, Si57Neutral.roundsOf ns = some rs → ns.length = 2 * rs.length
  | [], rs, h => by cases h; rfl
  | [_], rs, h => by cases h
  | a :: b :: r, rs, h => by
    have h : (Si57Neutral.roundsOf r).map (fun l => (a, b) :: l) = some rs := h
    cases e : Si57Neutral.roundsOf r with
    | none => rw [e] at h; cases h
    | some l =>
      rw [e] at h
      have e2 : (a, b) :: l = rs := Option.some.inj h
      subst e2
      have := rounds_len e
      show r.length + 2 = 2 * (l.length + 1)
      omega
theorem rounds_at : ∀ {ns : List Nat} {rs : List (Nat × Nat)} {i : Nat} {r : Nat × Nat}, Si57Neutral.roundsOf ns = some rs → rs[i]? = some r → ns[2 * i]? = some r.1 ∧ ns[2 * i + 1]? = some r.2
  | [], rs, i, r, h, hr => by cases h; simp at hr
  | [_], rs, i, r, h, _ => by cases h
  | a :: b :: t, rs, i, r, h, hr => by
    have h : (Si57Neutral.roundsOf t).map (fun l => (a, b) :: l) = some rs := h
    cases e : Si57Neutral.roundsOf t with
    | none => rw [e] at h; cases h
    | some l =>
      rw [e] at h
      have e2 : (a, b) :: l = rs := Option.some.inj h
      subst e2
      match i, hr with
      | 0, hr =>
        have e3 : (a, b) = r := by simpa using hr
        subst e3
        exact ⟨rfl, rfl⟩
      | i + 1, hr =>
        have hr : l[i]? = some r := by simpa using hr
        obtain ⟨q1, q2⟩ := rounds_at e hr
        have g1 : 2 * (i + 1) = 2 * i + 1 + 1 := by omega
        have g2 : 2 * (i + 1) + 1 = 2 * i + 1 + 1 + 1 := by omega
        rw [g2, g1, List.getElem?_cons_succ, List.getElem?_cons_succ, List.getElem?_cons_succ, List.getElem?_cons_succ]
        exact ⟨q1, q2⟩
section
variable {P : Program} {w : World} {K : PySem.W.Frag} {mg : Str → Option Value} {base : Heap} {c1 c2 c3 : Addr}
/-! ### thinnings_from -/
def spTF (c1 : Addr) : Sp := fun vs H Q _ => ∃ (l : Addr) (ns : List Nat) (rs : List (Nat × Nat)), vs = [.ref l] ∧ H l = some (.lst (nvs ns)) ∧ ns.length ≤ 1000 ∧ Si57Neutral.roundsOf ns = some rs ∧
  ∀ (H' : Hp) (q : Addr), Same H H' → H q = none → ThsAt c1 H' q rs → Q (.ref q) H'
theorem scTF : FnScope ["numbers", "k"] ["numbers"] (defScope sTF) := ⟨rfl, rfl, rfl, by decide +kernel, rfl, by decide +kernel, by decide +kernel⟩
theorem can_TF (T : Txt K mg c1 c2 c3) (h : HasF K mg "thinnings_from" "thinnings_from" sTF ["numbers"]) (CTH : CanMk P w K mg base 1 "Thinning" c1 ["self", "gap", "needed"] (spThI c1)) : Can P w K mg base 3 "thinnings_from" ["numbers"] (spTF c1) := by
  refine h.can scTF (fun vs H Q E h => ?_) (fun f cdv A outer s H vs Q E hr h => ?_)
  · obtain ⟨l, ns, rs, rfl, _⟩ := h
    rfl
  · obtain ⟨l, ns, rs, rfl, hl, hn, hrs, k⟩ := h
    have e2 := rounds_len hrs
    refine ⟨_, pss_one (ps_ret (pe_lc (own := [("k", 1)]) rfl scTF.nd (pi_range3 rfl T.range (pa_cons pe_int (pa_cons (pe_callB call_len_seq (by rfl) T.len PySem.boot_len (pa_cons (pv 0) pa_nil)) (pa_cons pe_int pa_nil))))
      (blkOk_by (N := ["numbers", "k"]) (sc := defScope sTF) (by decide +kernel))
      (fun s H C cl fp => pg_name (i := 1) scTF.nd rfl (Or.inl rfl)) (fun s H C cl fp => pts_nil)
      (fun s H C cl fp => pe_canMk CTH hr rfl (pa_cons (pe_ix (r := rIxL K) ix_list (pv 0) (pv 1) (fun _ _ => rfl)) (pa_cons (pe_ix (r := rIxL K) ix_list (pv 0) (pe_op op_add (pv 1) pe_int) (fun _ _ => rfl)) pa_nil))))), ?_⟩
    refine ⟨_, rfl, l, _, rfl, .inl (SqL.of hl), 0, _, 2, rs.length, rfl, by rw [nvs_length]; exact rgc2 e2 hn, fun D hD => ?_⟩
    refine lc_rangeC (n := rs.length) (fun i H' => Same H H' ∧ ThsAt c1 H' D (rs.take i)) ⟨same_new hD, [], upd_same, All2.nil⟩ ?_ ?_
    · rintro i H1 hi ⟨s1, as, hD1, hall⟩
      obtain ⟨r, hr'⟩ : ∃ r, rs[i]? = some r := ⟨_, List.getElem?_eq_getElem hi⟩
      obtain ⟨n1, n2⟩ := rounds_at hrs hr'
      refine ⟨rfl, yesT ?_⟩
      refine ⟨_, rfl, _, rfl, l, _, _, _, rfl, rfl, SqL.of (s1 _ _ hl), at_of (j := 2 * i) (by omega) (nvs_at n1), _, rfl, _, rfl, _, _, rfl, rfl, l, _, _, _, rfl, rfl, SqL.of (s1 _ _ hl), at_of (j := 2 * i + 1) (by omega) (nvs_at n2), ?_⟩
      intro x dx hx hdx hne
      refine ⟨x, dx, r.1, r.2, rfl, upd_same, rfl, ?_⟩
      have s2 := made_same (o1 := .own x) (o2 := .ins c1 dx []) (o3 := .ins c1 dx (thF r.1 r.2)) hx hdx
      have hxx : (upd (upd (upd H1 dx (.own x)) x (.ins c1 dx [])) x (.ins c1 dx (thF r.1 r.2))) x = some (.ins c1 dx (thF r.1 r.2)) := upd_same
      revert s2 hxx
      generalize upd (upd (upd H1 dx (.own x)) x (.ins c1 dx [])) x (.ins c1 dx (thF r.1 r.2)) = H2
      intro s2 hxx
      refine ⟨_, s2 _ _ hD1, ?_, fun b o e => ?_, as ++ [x], by rw [upd_same, List.map_append]; rfl, ?_⟩
      · rw [List.length_map, hall.1, List.length_take]
        exact big (by omega)
      · rw [upd_ne (ne_of_none e hD)]
        exact s2 _ _ (s1 _ _ e)
      · rw [take_snoc hr']
        exact All2.snoc (hall.imp fun a r z => (z.same s2).updL (s2 _ _ hD1)) (ThAt.updL ⟨dx, hxx⟩ (s2 _ _ hD1))
    · rintro H1 ⟨s1, B⟩
      rw [List.take_length] at B
      exact k _ _ s1 hD B
/-! ### thinnings_as_told -/
def asTold (rs : List (Nat × Nat)) : Bool := decide (1 ≤ rs.length) && (decide (rs.length ≤ 3) && rs.all fun r => decide (r.1 ≤ 2000) && decide (r.2 ≤ 7))
def spTA (c1 : Addr) : Sp := fun vs H Q _ => ∃ (l : Addr) (rs : List (Nat × Nat)), vs = [.ref l] ∧ ThsAt c1 H l rs ∧ Q (.bl (asTold rs)) H
theorem scTA : FnScope ["thinnings", "thinning"] ["thinnings"] (defScope sTA) := ⟨rfl, rfl, rfl, by decide +kernel, rfl, by decide +kernel, by decide +kernel⟩
theorem can_TA (T : Txt K mg c1 c2 c3) (h : HasF K mg "thinnings_as_told" "thinnings_as_told" sTA ["thinnings"]) (n1 : Num mg "MOST_THINNINGS" 3) (n2 : Num mg "GREATEST_GAP" 2000) (n3 : Num mg "MOST_TREES" 7) : Can P w K mg base 1 "thinnings_as_told" ["thinnings"] (spTA c1) := by
  refine h.can scTA (fun vs H Q E h => ?_) (fun f cdv A outer s H vs Q E hr h => ?_)
  · obtain ⟨l, rs, rfl, _⟩ := h
    rfl
  · obtain ⟨l, rs, rfl, ⟨as, hl, hall⟩, k⟩ := h
    have hlen : (as.map V.ref).length = rs.length := by rw [List.length_map]; exact hall.1
    refine ⟨_, pss_cons (ps_if (PW.pt (pw_or (pt_cmpR op_lt (pe_callB call_len_seq (by rfl) T.len PySem.boot_len (pa_cons (pv 0) pa_nil)) pe_int (nomark _)) (pw_or1 (pt_cmpR op_gt (pe_callB call_len_seq (by rfl) T.len PySem.boot_len (pa_cons (pv 0) pa_nil)) (pe_num n1 rfl) (nomark _))))) (pss_one (ps_ret pe_bl)) pss_nil)
      (pss_cons (ps_for PassesOwn.never rfl (pi_list (pv 0)) (pg_name (i := 1) scTA.nd rfl (Or.inl rfl))
        (pss_one (ps_if (PW.pt (pw_or (pt_cmpR op_gt (pe_fld (pv 1) rfl) (pe_num n2 rfl) (nomark _)) (pw_or1 (pt_cmpR op_gt (pe_fld (pv 1) rfl) (pe_num n3 rfl) (nomark _))))) (pss_one (ps_ret pe_bl)) pss_nil)))
      (pss_one (ps_ret pe_bl))), ?_⟩
    have no : asTold rs = false → Q (.bl false) H := fun e => by rw [e] at k; exact k
    refine ⟨_, rfl, l, _, rfl, .inl (SqL.of hl), _, _, rfl, rfl, _, rfl, ?_⟩
    rw [hlen]
    refine ite2 (fun c => ?_) fun c => ?_
    · have c := of_decide_eq_true c
      refine iteT (no ?_)
      unfold asTold
      rw [decide_eq_false (by omega), Bool.false_and]
    · have c := of_decide_eq_false (Bool.eq_false_iff.mpr c)
      refine ⟨_, rfl, l, _, rfl, .inl (SqL.of hl), _, _, rfl, rfl, _, rfl, ?_⟩
      rw [hlen]
      refine ite2 (fun d => ?_) fun d => ?_
      · have d := of_decide_eq_true d
        refine no ?_
        unfold asTold
        rw [decide_eq_false (show ¬ rs.length ≤ 3 by omega), Bool.false_and, Bool.and_false]
      · have d := of_decide_eq_false (Bool.eq_false_iff.mpr d)
        refine ⟨_, rfl, l, rfl, ⟨_, SqL.of hl⟩, for_list (K := K) (a := l) (xs := as.map V.ref)
          (fun i σ H' => ∃ v1 : Option V, σ = [some (.ref l), v1] ∧ H' = H ∧ ∀ (j : Nat) (r : Nat × Nat), j < i → rs[j]? = some r → r.1 ≤ 2000 ∧ r.2 ≤ 7)
          ⟨none, rfl, rfl, fun j r hj => absurd hj (Nat.not_lt_zero _)⟩ (fun i σ H' _ ⟨_, _, e, _⟩ => by rw [e]; exact SqL.of hl) ?_ ?_⟩
        · rintro i y σ H1 hi ⟨v1, rfl, rfl, hno⟩
          obtain ⟨a, ha, rfl⟩ := ref_get hi
          obtain ⟨r, hr', dx, hth⟩ := hall.get ha
          have bad : ¬ (r.1 ≤ 2000 ∧ r.2 ≤ 7) → asTold rs = false := fun z => by
            rw [Bool.eq_false_iff]
            intro e
            unfold asTold at e
            rw [Bool.and_eq_true, Bool.and_eq_true] at e
            have := List.all_eq_true.mp e.2.2 r (mem_of_at hr')
            rw [Bool.and_eq_true, decide_eq_true_iff, decide_eq_true_iff] at this
            exact z this
          refine ⟨_, rfl, a, c1, dx, _, _, rfl, hth, T.k1, T.n1g, thF_gap _ _, _, _, rfl, rfl, _, rfl, ?_⟩
          refine ite2 (fun c' => ?_) fun c' => ?_
          · have c' := of_decide_eq_true c'
            exact iteT (no (bad (by omega)))
          · have c' := of_decide_eq_false (Bool.eq_false_iff.mpr c')
            refine ⟨_, rfl, a, c1, dx, _, _, rfl, hth, T.k1, T.n1n, thF_needed _ _, _, _, rfl, rfl, _, rfl, ?_⟩
            refine ite2 (fun d' => ?_) fun d' => ?_
            · have d' := of_decide_eq_true d'
              exact no (bad (by omega))
            · have d' := of_decide_eq_false (Bool.eq_false_iff.mpr d')
              refine ⟨_, rfl, rfl, fun j r' hj hr'' => ?_⟩
              by_cases e : j = i
              · subst e
                rw [hr'] at hr''
                cases hr''
                omega
              · exact hno j r' (by omega) hr''
        · rintro σ H1 ⟨v1, rfl, rfl, hno⟩
          rw [hlen] at hno
          have e : asTold rs = true := by
            unfold asTold
            rw [decide_eq_true (show 1 ≤ rs.length by omega), decide_eq_true (show rs.length ≤ 3 by omega), Bool.true_and, Bool.true_and, List.all_eq_true]
            intro r hr'
            obtain ⟨j, hj⟩ := List.mem_iff_getElem?.mp hr'
            have := hno j r (List.getElem?_eq_some_iff.mp hj).1 hj
            rw [Bool.and_eq_true, decide_eq_true_iff, decide_eq_true_iff]
            exact this
          rw [e] at k
          exact k
/-! ### tree_as_told -/
def treeTold (t : STree) (k : Nat) : Bool := decide (t.x ≤ 1000) && (decide (t.y ≤ 1000) && (decide (t.values.length = k + 1) && t.values.all fun v => decide (v ≤ 1000000)))
def spTRA (c1 c2 : Addr) : Sp := fun vs H Q _ => ∃ (a lh : Addr) (t : STree) (rs : List (Nat × Nat)), vs = [.ref a, .ref lh] ∧ TrAt c2 H a t ∧ ThsAt c1 H lh rs ∧ Q (.bl (treeTold t rs.length)) H
theorem scTRA : FnScope ["tree", "thinnings", "worth"] ["tree", "thinnings"] (defScope sTRA) := ⟨rfl, rfl, rfl, by decide +kernel, rfl, by decide +kernel, by decide +kernel⟩
theorem can_TRA (T : Txt K mg c1 c2 c3) (h : HasF K mg "tree_as_told" "tree_as_told" sTRA ["tree", "thinnings"]) (n1 : Num mg "GREATEST_PLACE" 1000) (n2 : Num mg "GREATEST_WORTH" 1000000) : Can P w K mg base 1 "tree_as_told" ["tree", "thinnings"] (spTRA c1 c2) := by
  refine h.can scTRA (fun vs H Q E h => ?_) (fun f cdv A outer s H vs Q E hr h => ?_)
  · obtain ⟨a, lh, t, rs, rfl, _⟩ := h
    rfl
  · obtain ⟨a, lh, t, rs, rfl, ⟨dx, lw, ha, hw⟩, ⟨as, hl, hall⟩, k⟩ := h
    have hlen : (as.map V.ref).length = rs.length := by rw [List.length_map]; exact hall.1
    refine ⟨_, pss_cons (ps_if (PW.pt (pw_or (pt_cmpR op_gt (pe_fld (pv 0) rfl) (pe_num n1 rfl) (nomark _)) (pw_or1 (pt_cmpR op_gt (pe_fld (pv 0) rfl) (pe_num n1 rfl) (nomark _))))) (pss_one (ps_ret pe_bl)) pss_nil)
      (pss_cons (ps_if (pt_cmpR op_ne (pe_callB call_len_seq (by rfl) T.len PySem.boot_len (pa_cons (pe_fld (pv 0) rfl) pa_nil)) (pe_op op_add (pe_callB call_len_seq (by rfl) T.len PySem.boot_len (pa_cons (pv 1) pa_nil)) pe_int) (nomark _)) (pss_one (ps_ret pe_bl)) pss_nil)
      (pss_cons (ps_for PassesOwn.never rfl (pi_list (pe_fld (pv 0) rfl)) (pg_name (i := 2) scTRA.nd rfl (Or.inl rfl))
        (pss_one (ps_if (pt_cmpR op_gt (pv 2) (pe_num n2 rfl) (nomark _)) (pss_one (ps_ret pe_bl)) pss_nil)))
      (pss_one (ps_ret pe_bl)))), ?_⟩
    have no : treeTold t rs.length = false → Q (.bl false) H := fun e => by rw [e] at k; exact k
    have nox : ¬ (t.x ≤ 1000 ∧ t.y ≤ 1000 ∧ t.values.length = rs.length + 1 ∧ ∀ v ∈ t.values, v ≤ 1000000) → treeTold t rs.length = false := fun z => by
      rw [Bool.eq_false_iff]
      intro e
      unfold treeTold at e
      rw [Bool.and_eq_true, Bool.and_eq_true, Bool.and_eq_true, decide_eq_true_iff, decide_eq_true_iff, decide_eq_true_iff, List.all_eq_true] at e
      exact z ⟨e.1, e.2.1, e.2.2.1, fun v hv => of_decide_eq_true (e.2.2.2 v hv)⟩
    refine ⟨_, rfl, a, c2, dx, _, _, rfl, ha, T.k2, T.n2f, trF_first _ _ _, _, _, rfl, rfl, _, rfl, ?_⟩
    refine ite2 (fun c => ?_) fun c => ?_
    · have c := of_decide_eq_true c
      exact iteT (no (nox (by omega)))
    · have c := of_decide_eq_false (Bool.eq_false_iff.mpr c)
      refine ⟨_, rfl, a, c2, dx, _, _, rfl, ha, T.k2, T.n2s, trF_second _ _ _, _, _, rfl, rfl, _, rfl, ?_⟩
      refine ite2 (fun d => ?_) fun d => ?_
      · have d := of_decide_eq_true d
        exact no (nox (by omega))
      · have d := of_decide_eq_false (Bool.eq_false_iff.mpr d)
        refine ⟨_, rfl, a, c2, dx, _, _, rfl, ha, T.k2, T.n2w, trF_worths _ _ _, lw, _, rfl, .inl (SqL.of hw), _, rfl, lh, _, rfl, .inl (SqL.of hl), _, _, rfl, rfl, rfl, _, rfl, ?_⟩
        rw [hlen, nvs_length]
        refine ite2 (fun e => ?_) fun e => ?_
        · refine no (nox fun z => ?_)
          rw [z.2.2.1] at e
          simp at e
        · have e : t.values.length = rs.length + 1 := by
            refine Classical.byContradiction fun z => e ?_
            simp
            omega
          refine ⟨_, rfl, a, c2, dx, _, _, rfl, ha, T.k2, T.n2w, trF_worths _ _ _, lw, rfl, ⟨_, SqL.of hw⟩, for_list (K := K) (a := lw) (xs := nvs t.values)
            (fun i σ H' => ∃ v2 : Option V, σ = [some (.ref a), some (.ref lh), v2] ∧ H' = H ∧ ∀ (j v : Nat), j < i → t.values[j]? = some v → v ≤ 1000000)
            ⟨none, rfl, rfl, fun j r hj => absurd hj (Nat.not_lt_zero _)⟩ (fun i σ H' _ ⟨_, _, e, _⟩ => by rw [e]; exact SqL.of hw) ?_ ?_⟩
          · rintro i y σ H1 hi ⟨v2, rfl, rfl, hno⟩
            obtain ⟨n, hn, rfl⟩ := nvs_get hi
            refine ⟨_, rfl, _, _, rfl, rfl, _, rfl, ?_⟩
            refine ite2 (fun g => ?_) fun g => ?_
            · have g := of_decide_eq_true g
              refine no (nox fun z => ?_)
              have := z.2.2.2 n (mem_of_at hn)
              omega
            · have g := of_decide_eq_false (Bool.eq_false_iff.mpr g)
              refine ⟨_, rfl, rfl, fun j v hj hv => ?_⟩
              by_cases ee : j = i
              · subst ee
                rw [hn] at hv
                cases hv
                omega
              · exact hno j v (by omega) hv
          · rintro σ H1 ⟨v2, rfl, rfl, hno⟩
            rw [nvs_length] at hno
            have e : treeTold t rs.length = true := by
              unfold treeTold
              rw [decide_eq_true (show t.x ≤ 1000 by omega), decide_eq_true (show t.y ≤ 1000 by omega), decide_eq_true e, Bool.true_and, Bool.true_and, Bool.true_and, List.all_eq_true]
              intro v hv
              obtain ⟨j, hj⟩ := List.mem_iff_getElem?.mp hv
              rw [decide_eq_true_iff]
              exact hno j v (List.getElem?_eq_some_iff.mp hj).1 hj
            rw [e] at k
            exact k
end
end Tt
set_option Elab.async false
set_option linter.all false
set_option maxRecDepth 100000
set_option maxHeartbeats 2000000
namespace Tt
open PySem PySem.Spec PyProof.Rows L2
abbrev sBeg : Stmt := inClass (top 40) 1
abbrev sPla : Stmt := inClass (top 40) 2
abbrev sNear : Stmt := inClass (top 40) 3
abbrev sBest : Stmt := inClass (top 40) 4
abbrev sCheck : Stmt := inClass (top 40) 5
abbrev sKeep : Stmt := inClass (top 40) 6
abbrev sWhen : Stmt := inClass (top 40) 7
/-! ### a Wood -/
def wdF (lh lt : Addr) : List (Str × V) := putF "trees" (.ref lt) (putF "thinnings" (.ref lh) [])
theorem wdF_th (lh lt : Addr) : (wdF lh lt).lookup ("thinnings" : Str) = some (.ref lh) := by
  unfold wdF
  rw [lookup_putF, if_neg (by decide +kernel), lookup_putF, if_pos rfl]
theorem wdF_tr (lh lt : Addr) : (wdF lh lt).lookup ("trees" : Str) = some (.ref lt) := by
  unfold wdF
  rw [lookup_putF, if_pos rfl]
theorem wdF_no (lh lt : Addr) {m : Str} (h1 : ¬ m = "trees") (h2 : ¬ m = "thinnings") : (wdF lh lt).lookup m = none := by
  unfold wdF
  rw [lookup_putF, if_neg h1, lookup_putF, if_neg h2]
  rfl
theorem wdF_eq (lh lt : Addr) : wdF lh lt = [(("thinnings" : Str), V.ref lh), (("trees" : Str), V.ref lt)] := by
  unfold wdF
  show (if ("thinnings" : Str) = "trees" then _ else _) = _
  rw [if_neg (by decide +kernel)]
  rfl
theorem wdF_putT (lh lt a : Addr) : putF "thinnings" (.ref a) (wdF lh lt) = wdF a lt := by
  rw [wdF_eq, wdF_eq]
  show (if ("thinnings" : Str) = "thinnings" then _ else _) = _
  rw [if_pos rfl]
theorem wdF_putR (lh lt a : Addr) : putF "trees" (.ref a) (wdF lh lt) = wdF lh a := by
  rw [wdF_eq, wdF_eq]
  show (if ("thinnings" : Str) = "trees" then _ else (("thinnings" : Str), V.ref lh) :: (if ("trees" : Str) = "trees" then _ else _)) = _
  rw [if_neg (by decide +kernel), if_pos rfl]
/-- a Tree whose worths' list is neither g nor lt -/
def TrG (C : Addr) (H : Hp) (g lt a : Addr) (t : STree) : Prop := ∃ dx l, H a = some (.ins C dx (trF t.x t.y l)) ∧ H l = some (.lst (nvs t.values)) ∧ l ≠ g ∧ l ≠ lt
theorem TrG.at_ {C : Addr} {H : Hp} {g lt a : Addr} {t : STree} (h : TrG C H g lt a t) : TrAt C H a t := by
  obtain ⟨dx, l, e1, e2, _⟩ := h
  exact ⟨dx, l, e1, e2⟩
structure WdAt (c1 c2 c3 : Addr) (H : Hp) (p g lh lt : Addr) (W : SWood) : Prop where
  obj : ∃ dx, H p = some (.ins c3 dx (wdF lh lt))
  ths : ThsAt c1 H lh W.rounds
  trs : ∃ as : List Addr, H lt = some (.lst (as.map V.ref)) ∧ All2 (TrG c2 H g lt) as W.trees
  n1 : lh ≠ lt
  n2 : lh ≠ g
  n3 : lt ≠ g
theorem WdAt.trees {c1 c2 c3 : Addr} {H : Hp} {p g lh lt : Addr} {W : SWood} (h : WdAt c1 c2 c3 H p g lh lt W) : TrsAt c2 H lt W.trees := by
  obtain ⟨as, e, q⟩ := h.trs
  exact ⟨as, e, q.imp fun a t z => z.at_⟩
theorem WdAt.same {c1 c2 c3 : Addr} {H H' : Hp} {p g lh lt : Addr} {W : SWood} (h : WdAt c1 c2 c3 H p g lh lt W) (s : Same H H') : WdAt c1 c2 c3 H' p g lh lt W := by
  obtain ⟨⟨dx, e⟩, h1, ⟨as, e2, q⟩, n1, n2, n3⟩ := h
  exact ⟨⟨dx, s _ _ e⟩, h1.same s, ⟨as, s _ _ e2, q.imp fun a t ⟨dx, l, z1, z2, z3⟩ => ⟨dx, l, s _ _ z1, s _ _ z2, z3⟩⟩, n1, n2, n3⟩
/-- the list at g is written -/
theorem WdAt.write {c1 c2 c3 : Addr} {H : Hp} {p g lh lt : Addr} {W : SWood} {xs : List V} {o : HO} (h : WdAt c1 c2 c3 H p g lh lt W) (hg : H g = some (.lst xs)) : WdAt c1 c2 c3 (upd H g o) p g lh lt W := by
  obtain ⟨⟨dx, e⟩, ⟨bs, e1, q1⟩, ⟨as, e2, q⟩, n1, n2, n3⟩ := h
  have ni : ∀ a C dx fs, H a = some (.ins C dx fs) → a ≠ g := fun a C dx fs z => ne_of z hg (by intro y; cases y)
  refine ⟨⟨dx, by rw [upd_ne (ni _ _ _ _ e)]; exact e⟩, ⟨bs, by rw [upd_ne n2]; exact e1, q1.imp fun a r z => z.updL hg⟩, ⟨as, by rw [upd_ne n3]; exact e2, q.imp fun a t ⟨dx, l, z1, z2, z3, z4⟩ => ⟨dx, l, ?_, ?_, z3, z4⟩⟩, n1, n2, n3⟩
  · rw [upd_ne (ni _ _ _ _ z1)]
    exact z1
  · rw [upd_ne z3]
    exact z2
/-- what is answered -/
def ansV (a : Si57.Ans) : List V := (a.v :: a.l).map V.int
/-- what a call of the wood leaves behind -/
def Post (c1 c2 c3 : Addr) (H : Hp) (p g lt : Addr) (W : SWood) (q : Si57.Call) (Q : VK) : Prop :=
  ∀ (H' : Hp) (lh' lt' r : Addr), (∀ b o, H b = some o → b ≠ p → b ≠ lt → H' b = some o) → (lt' = lt ∨ H lt' = none) → WdAt c1 c2 c3 H' p g lh' lt' (Si57.step W q).1 → H r = none → H' r = some (.lst (ansV (Si57.step W q).2)) → Q (.ref r) H'
theorem Post.pure {c1 c2 c3 : Addr} {H : Hp} {p g lh lt : Addr} {W : SWood} {q : Si57.Call} {Q : VK} (h : Post c1 c2 c3 H p g lt W q Q) (B : WdAt c1 c2 c3 H p g lh lt W) (e : (Si57.step W q).1 = W) {H' : Hp} {r : Addr} (s : Same H H') (fr : H r = none) (hr : H' r = some (.lst (ansV (Si57.step W q).2))) : Q (.ref r) H' :=
  h H' lh lt r (fun b o z _ _ => s b o z) (.inl rfl) (by rw [e]; exact B.same s) fr hr
section
variable {P : Program} {w : World} {K : PySem.W.Frag} {mg : Str → Option Value} {base : Heap} {c1 c2 c3 : Addr}
/-! ### Wood.__init__ -/
def spWI (c1 c2 c3 : Addr) : Sp := fun vs H Q _ => ∃ (p dx : Addr), vs = [.ref p] ∧ H p = some (.ins c3 dx []) ∧
  ∀ (H' : Hp) (lh lt : Addr), (∀ b o, H b = some o → b ≠ p → H' b = some o) → H lh = none → H lt = none → lh ≠ lt → (∃ dx, H' p = some (.ins c3 dx (wdF lh lt))) → ThsAt c1 H' lh [(0, 0)] → H' lt = some (.lst []) → Q .non H'
theorem scWI : FnScope ["self"] ["self"] (defScope sWI) := ⟨rfl, rfl, rfl, by decide +kernel, rfl, by decide +kernel, by decide +kernel⟩
theorem can_WI (T : Txt K mg c1 c2 c3) (h : HasC K mg "Wood" c3 "Wood.__init__" sWI ["self"]) (CTH : CanMk P w K mg base 1 "Thinning" c1 ["self", "gap", "needed"] (spThI c1)) : CanMk P w K mg base 3 "Wood" c3 ["self"] (spWI c1 c2 c3) := by
  refine h.can scWI (fun vs H Q E h => ?_) (fun f cdv A outer s H vs Q E hr h => ?_)
  · obtain ⟨p, dx, rfl, _⟩ := h
    rfl
  · obtain ⟨p, dx, rfl, hp, k⟩ := h
    refine ⟨_, pss_cons (ps_fld (pv 0) (pe_lst (pa_cons (pe_canMk CTH hr rfl (pa_cons pe_int (pa_cons pe_int pa_nil))) pa_nil)) rfl) (pss_one (ps_fld (pv 0) (pe_lst pa_nil) rfl)), ?_⟩
    intro x dy hx hdy hne
    refine ⟨x, dy, 0, 0, rfl, upd_same, rfl, ?_⟩
    have s1 := made_same (o1 := .own x) (o2 := .ins c1 dy []) (o3 := .ins c1 dy (thF 0 0)) hx hdy
    have hxx : (upd (upd (upd H dy (.own x)) x (.ins c1 dy [])) x (.ins c1 dy (thF 0 0))) x = some (.ins c1 dy (thF 0 0)) := upd_same
    revert s1 hxx
    generalize upd (upd (upd H dy (.own x)) x (.ins c1 dy [])) x (.ins c1 dy (thF 0 0)) = H1
    intro s1 hxx
    refine ⟨by show 1 ≤ sizeLine; decide, fun lh hlh => ?_⟩
    have s2 : Same H1 (upd H1 lh (.lst [.ref x])) := same_new hlh
    have hlh2 : (upd H1 lh (.lst [.ref x])) lh = some (.lst [.ref x]) := upd_same
    have s12 := s1.trans s2
    have flh : H lh = none := s1.free hlh
    revert s2 hlh2 s12
    generalize upd H1 lh (.lst [.ref x]) = H2
    intro s2 hlh2 s12
    have hp2 := s12 _ _ hp
    refine ⟨_, rfl, p, c3, dx, [], rfl, hp2, T.k3, T.n3t, (by show 0 < 1000; decide), ?_⟩
    refine ⟨Nat.zero_le _, fun lt hlt => ?_⟩
    have nlt : lt ≠ p := fun z => by rw [z, upd_same] at hlt; cases hlt
    have flt2 : H2 lt = none := by rw [upd_ne nlt] at hlt; exact hlt
    have nlh : lh ≠ p := ne_of hlh2 hp2 (by intro z; cases z)
    have nx : x ≠ p := fun z => by rw [z, hp] at hx; cases hx
    have nll : lh ≠ lt := ne_of_none hlh2 flt2
    refine ⟨_, rfl, p, c3, dx, _, rfl, by rw [upd_ne nlt.symm, upd_same], T.k3, T.n3r, (by show 1 < 1000; decide), ?_⟩
    refine k _ lh lt (fun b o e hb => ?_) flh (s12.free flt2) nll ⟨dx, upd_same⟩ ⟨[x], ?_, ⟨rfl, fun i a r h1 h2 => ?_⟩⟩ ?_
    · rw [upd_ne hb, upd_ne (ne_of_none (s12 _ _ e) flt2), upd_ne hb]
      exact s12 _ _ e
    · rw [upd_ne nlh, upd_ne nll, upd_ne nlh]
      exact hlh2
    · match i, h1, h2 with
      | 0, h1, h2 =>
        have e1 : x = a := by simpa using h1
        have e2 : (0, 0) = r := by simpa using h2
        subst e1 e2
        refine ⟨dy, ?_⟩
        rw [upd_ne nx, upd_ne (ne_of_none (s2 _ _ hxx) flt2), upd_ne nx]
        exact s2 _ _ hxx
      | i + 1, h1, _ => simp at h1
    · rw [upd_ne nlt, upd_same]
/-! ### begin -/
theorem told_iff {rs : List (Nat × Nat)} : asTold rs = false ↔ (rs = [] ∨ Si57.ROUNDS < rs.length ∨ (rs.all fun x => decide (x.1 ≤ 2 * Si57.FAR) && decide (x.2 ≤ Si57.TREES)) = false) := by
  unfold asTold
  have e : (rs.all fun x => decide (x.1 ≤ 2 * Si57.FAR) && decide (x.2 ≤ Si57.TREES)) = (rs.all fun r => decide (r.1 ≤ 2000) && decide (r.2 ≤ 7)) := rfl
  rw [e, Bool.and_eq_false_iff, Bool.and_eq_false_iff, decide_eq_false_iff_not, decide_eq_false_iff_not, ← List.length_eq_zero_iff]
  unfold Si57.ROUNDS
  constructor
  · rintro (h | h | h)
    · exact .inl (by omega)
    · exact .inr (.inl (by omega))
    · exact .inr (.inr h)
  · rintro (h | h | h)
    · exact .inl (by omega)
    · exact .inr (.inl (by omega))
    · exact .inr (.inr h)
theorem step_begins {W : SWood} {rs : List (Nat × Nat)} : Si57.step W (.begins rs) = if asTold rs = false then (W, Si57.ok (-1)) else (⟨rs, []⟩, Si57.ok rs.length) := by
  show (if rs = [] ∨ Si57.ROUNDS < rs.length ∨ (rs.all fun x => decide (x.1 ≤ 2 * Si57.FAR) && decide (x.2 ≤ Si57.TREES)) = false then (W, Si57.ok (-1)) else (⟨rs, []⟩, Si57.ok rs.length)) = _
  by_cases h : asTold rs = false
  · rw [if_pos h, if_pos (told_iff.mp h)]
  · rw [if_neg h, if_neg (fun z => h (told_iff.mpr z))]
def spBeg (c1 c2 c3 : Addr) : Sp := fun vs H Q _ => ∃ (p g lh lt l : Addr) (W : SWood) (ns : List Nat) (rs : List (Nat × Nat)), vs = [.ref p, .ref l] ∧ WdAt c1 c2 c3 H p g lh lt W ∧ (∃ ys, H g = some (.lst ys)) ∧ H l = some (.lst (nvs ns)) ∧ ns.length ≤ 1000 ∧ Si57Neutral.roundsOf ns = some rs ∧
  Post c1 c2 c3 H p g lt W (.begins rs) Q
theorem scBeg : FnScope ["self", "numbers", "thinnings"] ["self", "numbers"] (defScope sBeg) := ⟨rfl, rfl, rfl, by decide +kernel, rfl, by decide +kernel, by decide +kernel⟩
theorem can_Beg (T : Txt K mg c1 c2 c3) (h : HasM K c3 "begin" "Wood.begin" sBeg ["self", "numbers"]) (CTF : Can P w K mg base 3 "thinnings_from" ["numbers"] (spTF c1)) (CTA : Can P w K mg base 1 "thinnings_as_told" ["thinnings"] (spTA c1)) (n1 : Num mg "NOT_AS_TOLD" (-1)) :
    CanM P w K mg base 4 c3 "begin" ["self", "numbers"] (spBeg c1 c2 c3) := by
  refine h.can scBeg (fun vs H Q E h => ?_) (fun f cdv A outer s H vs Q E hr h => ?_)
  · obtain ⟨p, g, lh, lt, l, W, ns, rs, rfl, _⟩ := h
    rfl
  · obtain ⟨p, g, lh, lt, l, W, ns, rs, rfl, B, ⟨ys, hg⟩, hl, hn, hrs, k⟩ := h
    refine ⟨_, pss_cons (ps_set (i := 2) scBeg.nd rfl (Or.inl rfl) (pe_can CTF hr rfl (pa_cons (pv 1) pa_nil)))
      (pss_cons (ps_if (pt_not (pt_val (pe_can CTA (hr.mono (by decide)) rfl (pa_cons (pv 2) pa_nil)))) (pss_one (ps_ret (pe_lst (pa_cons (pe_num n1 rfl) pa_nil)))) pss_nil)
      (pss_cons (ps_fld (pv 0) (pv 2) rfl) (pss_cons (ps_fld (pv 0) (pe_lst pa_nil) rfl) (pss_one (ps_ret (pe_lst (pa_cons (pe_callB call_len_seq (by rfl) T.len PySem.boot_len (pa_cons (pv 2) pa_nil)) pa_nil))))))), ?_⟩
    refine ⟨_, rfl, l, ns, rs, rfl, hl, hn, hrs, fun H1 q s1 hq Bq => ?_⟩
    refine ⟨_, rfl, q, rs, rfl, Bq, _, rfl, ?_⟩
    have es := step_begins (W := W) (rs := rs)
    refine ite2 (fun c => ?_) fun c => ?_
    · have c : asTold rs = false := by simpa using c
      rw [if_pos c] at es
      refine ⟨by show 1 ≤ sizeLine; decide, fun r hr' => ?_⟩
      exact k.pure B (by rw [es]) (s1.trans (same_new hr')) (s1.free hr') (by rw [es, upd_same]; rfl)
    · have c : ¬ asTold rs = false := by simpa using c
      rw [if_neg c] at es
      obtain ⟨⟨dx, hp⟩, _, _, _, _, _⟩ := B
      have hp1 := s1 _ _ hp
      refine ⟨_, rfl, _, rfl, p, c3, dx, _, rfl, hp1, T.k3, T.n3t, (by rw [wdF_eq]; show 2 < 1000; decide), ?_⟩
      rw [wdF_putT]
      refine ⟨Nat.zero_le _, fun lt' hlt' => ?_⟩
      have nlp : lt' ≠ p := fun z => by rw [z, upd_same] at hlt'; cases hlt'
      have flt : H1 lt' = none := by rw [upd_ne nlp] at hlt'; exact hlt'
      refine ⟨_, rfl, p, c3, dx, _, rfl, by rw [upd_ne nlp.symm, upd_same], T.k3, T.n3r, (by rw [wdF_eq]; show 2 < 1000; decide), ?_⟩
      rw [wdF_putR]
      obtain ⟨bs, hq1, qall⟩ := Bq
      have hlen : (bs.map V.ref).length = rs.length := by rw [List.length_map]; exact qall.1
      have nqp : q ≠ p := ne_of hq1 hp1 (by intro z; cases z)
      have nql : q ≠ lt' := ne_of_none hq1 flt
      have nqg : q ≠ g := fun z => by rw [z, hg] at hq; cases hq
      have nlg : lt' ≠ g := fun z => by rw [z, s1 _ _ hg] at flt; cases flt
      -- the heap behind the stores
      have K1 : ∀ b o, H1 b = some o → b ≠ p → (upd (upd (upd H1 p (.ins c3 dx (wdF q lt))) lt' (.lst [])) p (.ins c3 dx (wdF q lt'))) b = some o := fun b o e hb => by
        rw [upd_ne hb, upd_ne (ne_of_none e flt), upd_ne hb]
        exact e
      have K2 : (upd (upd (upd H1 p (.ins c3 dx (wdF q lt))) lt' (.lst [])) p (.ins c3 dx (wdF q lt'))) p = some (.ins c3 dx (wdF q lt')) := upd_same
      have K3 : (upd (upd (upd H1 p (.ins c3 dx (wdF q lt))) lt' (.lst [])) p (.ins c3 dx (wdF q lt'))) lt' = some (.lst []) := by rw [upd_ne nlp, upd_same]
      revert K1 K2 K3
      generalize upd (upd (upd H1 p (.ins c3 dx (wdF q lt))) lt' (.lst [])) p (.ins c3 dx (wdF q lt')) = H2
      intro K1 K2 K3
      refine ⟨_, rfl, q, _, rfl, .inl (SqL.of (K1 _ _ hq1 nqp)), by show 1 ≤ sizeLine; decide, fun r hr' => ?_⟩
      have s3 : Same H2 (upd H2 r (.lst [.int ((bs.map V.ref).length : Int)])) := same_new hr'
      have fr : H r = none := by
        cases e : H r with
        | none => rfl
        | some o =>
          by_cases y : r = p
          · rw [y, K2] at hr'
            cases hr'
          · rw [K1 _ _ (s1 _ _ e) y] at hr'
            cases hr'
      refine k _ q lt' r (fun b o e hb _ => s3 _ _ (K1 _ _ (s1 _ _ e) hb)) (.inr (s1.free flt)) ?_ fr ?_
      · rw [es]
        refine WdAt.same ⟨⟨dx, K2⟩, ⟨bs, K1 _ _ hq1 nqp, qall.imp fun a r ⟨d, z⟩ => ⟨d, K1 _ _ z ?_⟩⟩, ⟨[], K3, All2.nil⟩, nql, nqg, nlg⟩ s3
        intro y
        rw [y, hp1] at z
        have z2 := Option.some.inj z
        injection z2 with _ _ z3
        have z4 := congrArg (fun l => l.lookup ("gap" : Str)) z3
        rw [thF_gap, wdF_no _ _ (by decide +kernel) (by decide +kernel)] at z4
        cases z4
      · rw [es, upd_same, hlen]
        rfl
end
end Tt
set_option Elab.async false
set_option linter.all false
set_option maxRecDepth 100000
set_option maxHeartbeats 2000000
namespace Tt
open PySem PySem.Spec PyProof.Rows L2
theorem nvs_drop (l : List Nat) (n : Nat) : (nvs l).drop n = nvs (l.drop n) := by
  unfold nvs
  rw [List.map_drop]
section
variable {P : Program} {w : World} {K : PySem.W.Frag} {mg : Str → Option Value} {base : Heap} {c1 c2 c3 : Addr}
/-! ### plant -/
theorem tree_iff {t : STree} {n : Nat} : treeTold t n = false ↔ (Si57.FAR < t.x ∨ Si57.FAR < t.y ∨ t.values.length ≠ n + 1 ∨ (t.values.all fun v => decide (v ≤ Si57.MOST)) = false) := by
  unfold treeTold
  have e : (t.values.all fun v => decide (v ≤ Si57.MOST)) = (t.values.all fun v => decide (v ≤ 1000000)) := rfl
  rw [e, Bool.and_eq_false_iff, Bool.and_eq_false_iff, Bool.and_eq_false_iff, decide_eq_false_iff_not, decide_eq_false_iff_not, decide_eq_false_iff_not]
  unfold Si57.FAR
  rw [Nat.not_le, Nat.not_le]
theorem step_tree {W : SWood} {t : STree} : Si57.step W (.tree t) = if treeTold t W.rounds.length = false then (W, Si57.ok (-1)) else if 7 ≤ W.trees.length then (W, Si57.ok (-5)) else ({ W with trees := W.trees ++ [t] }, Si57.ok W.trees.length) := by
  show (if Si57.FAR < t.x ∨ Si57.FAR < t.y ∨ t.values.length ≠ W.rounds.length + 1 ∨ (t.values.all fun v => decide (v ≤ Si57.MOST)) = false then _ else _) = _
  by_cases h : treeTold t W.rounds.length = false
  · rw [if_pos h, if_pos (tree_iff.mp h)]
  · rw [if_neg h, if_neg (fun z => h (tree_iff.mpr z))]
    rfl
def spPla (c1 c2 c3 : Addr) : Sp := fun vs H Q _ => ∃ (p g lh lt l : Addr) (W : SWood) (x y : Nat) (v : List Nat), vs = [.ref p, .ref l] ∧ WdAt c1 c2 c3 H p g lh lt W ∧ Tm.WdOk W ∧ (∃ ys, H g = some (.lst ys)) ∧ H l = some (.lst (nvs (x :: y :: v))) ∧
  Post c1 c2 c3 H p g lt W (.tree ⟨x, y, v⟩) Q
theorem scPla : FnScope ["self", "numbers", "tree"] ["self", "numbers"] (defScope sPla) := ⟨rfl, rfl, rfl, by decide +kernel, rfl, by decide +kernel, by decide +kernel⟩
theorem can_Pla (T : Txt K mg c1 c2 c3) (h : HasM K c3 "plant" "Wood.plant" sPla ["self", "numbers"]) (CTR : CanMk P w K mg base 1 "Tree" c2 ["self", "first", "second", "worths"] (spTrI c2)) (CTT : Can P w K mg base 1 "tree_as_told" ["tree", "thinnings"] (spTRA c1 c2)) (n1 : Num mg "NOT_AS_TOLD" (-1)) (n2 : Num mg "MOST_TREES" 7) (n3 : Num mg "WOOD_IS_FULL" (-5)) :
    CanM P w K mg base 3 c3 "plant" ["self", "numbers"] (spPla c1 c2 c3) := by
  refine h.can scPla (fun vs H Q E h => ?_) (fun f cdv A outer s H vs Q E hr h => ?_)
  · obtain ⟨p, g, lh, lt, l, W, x, y, v, rfl, _⟩ := h
    rfl
  · obtain ⟨p, g, lh, lt, l, W, x, y, v, rfl, B, ok, ⟨ys, hg⟩, hl, k⟩ := h
    refine ⟨_, pss_cons (ps_set (i := 2) scPla.nd rfl (Or.inl rfl) (pe_canMk CTR hr rfl (pa_cons (pe_ix ix_list (pv 1) pe_int (fun _ _ => rfl)) (pa_cons (pe_ix ix_list (pv 1) pe_int (fun _ _ => rfl)) (pa_cons (pe_slice sl_list (pv 1) (po_some pe_int) po_none) pa_nil)))))
      (pss_cons (ps_if (pt_not (pt_val (pe_can CTT (hr.mono (by decide)) rfl (pa_cons (pv 2) (pa_cons (pe_fld (pv 0) rfl) pa_nil))))) (pss_one (ps_ret (pe_lst (pa_cons (pe_num n1 rfl) pa_nil)))) pss_nil)
      (pss_cons (ps_if (pt_cmpR op_eq (pe_callB call_len_seq (by rfl) T.len PySem.boot_len (pa_cons (pe_fld (pv 0) rfl) pa_nil)) (pe_num n2 rfl) (nomark _)) (pss_one (ps_ret (pe_lst (pa_cons (pe_num n3 rfl) pa_nil)))) pss_nil)
      (pss_cons (ps_expr (pe_bm PySem.F.plainAttrs_list PySem.F.slot_list_append PySem.F.type_list_append mt_append (pe_fld (pv 0) rfl) (pa_cons (pv 2) pa_nil)))
      (pss_one (ps_ret (pe_lst (pa_cons (pe_op op_sub (pe_callB call_len_seq (by rfl) T.len PySem.boot_len (pa_cons (pe_fld (pv 0) rfl) pa_nil)) pe_int) pa_nil))))))), ?_⟩
    refine ⟨_, rfl, l, _, _, _, rfl, rfl, SqL.of hl, at_of (j := 0) rfl rfl, _, rfl, l, _, _, _, rfl, rfl, SqL.of hl, at_of (j := 1) rfl rfl, _, rfl, _, rfl, l, _, rfl, SqL.of hl, fun lw hlw => ?_⟩
    have ew : cutV (nvs (x :: y :: v)) (some (2 : Int)) none = nvs v := by
      rw [show (2 : Int) = ((2 : Nat) : Int) from rfl, cut_drop, nvs_drop]
      rfl
    have slw : Same H (upd H lw (.lst (cutV (nvs (x :: y :: v)) (some (2 : Int)) none))) := same_new hlw
    have hlw1 : (upd H lw (.lst (cutV (nvs (x :: y :: v)) (some (2 : Int)) none))) lw = some (.lst (nvs v)) := by rw [upd_same, ew]
    revert slw hlw1
    generalize upd H lw (.lst (cutV (nvs (x :: y :: v)) (some (2 : Int)) none)) = H1
    intro s1 hlw1
    intro a da ha hda hne
    refine ⟨a, da, lw, x, y, rfl, upd_same, rfl, ?_⟩
    have s2 := made_same (o1 := .own a) (o2 := .ins c2 da []) (o3 := .ins c2 da (trF x y lw)) ha hda
    have haa : (upd (upd (upd H1 da (.own a)) a (.ins c2 da [])) a (.ins c2 da (trF x y lw))) a = some (.ins c2 da (trF x y lw)) := upd_same
    revert s2 haa
    generalize upd (upd (upd H1 da (.own a)) a (.ins c2 da [])) a (.ins c2 da (trF x y lw)) = H2
    intro s2 haa
    have s12 := s1.trans s2
    have hlw2 := s2 _ _ hlw1
    have B2 := B.same s12
    obtain ⟨dx, hp⟩ := B2.obj
    refine ⟨_, rfl, _, rfl, p, c3, dx, _, _, rfl, hp, T.k3, T.n3t, wdF_th _ _, a, lh, ⟨x, y, v⟩, W.rounds, rfl, ⟨da, lw, haa, hlw2⟩, B2.ths, _, rfl, ?_⟩
    have es := step_tree (W := W) (t := ⟨x, y, v⟩)
    refine ite2 (fun c => ?_) fun c => ?_
    · have c : treeTold ⟨x, y, v⟩ W.rounds.length = false := by simpa using c
      rw [if_pos c] at es
      refine ⟨by show 1 ≤ sizeLine; decide, fun r hr' => ?_⟩
      exact k.pure B (by rw [es]) (s12.trans (same_new hr')) (s12.free hr') (by rw [es, upd_same]; rfl)
    · have c : ¬ treeTold ⟨x, y, v⟩ W.rounds.length = false := by simpa using c
      rw [if_neg c] at es
      obtain ⟨as, hlt, hall⟩ := B2.trs
      have hlen : (as.map V.ref).length = W.trees.length := by rw [List.length_map]; exact hall.1
      refine ⟨_, rfl, p, c3, dx, _, _, rfl, hp, T.k3, T.n3r, wdF_tr _ _, lt, _, rfl, .inl (SqL.of hlt), rfl, _, rfl, ?_⟩
      rw [hlen]
      refine ite2 (fun d => ?_) fun d => ?_
      · have d := of_decide_eq_true d
        have d : W.trees.length = 7 := by
          injection d with d
          omega
        rw [if_pos (by omega)] at es
        refine ⟨by show 1 ≤ sizeLine; decide, fun r hr' => ?_⟩
        exact k.pure B (by rw [es]) (s12.trans (same_new hr')) (s12.free hr') (by rw [es, upd_same]; rfl)
      · have d := of_decide_eq_false (Bool.eq_false_iff.mpr d)
        have d : W.trees.length < 7 := by
          have h7 := ok.t7
          refine Classical.byContradiction fun z => d ?_
          have : W.trees.length = 7 := by omega
          rw [this]
          rfl
        rw [if_neg (by omega)] at es
        refine ⟨_, rfl, p, c3, dx, _, _, rfl, hp, T.k3, T.n3r, wdF_tr _ _, .inl ⟨rfl, _, SqL.of hlt⟩, _, rfl, lt, _, _, rfl, rfl, hlt, by rw [hlen]; exact big (by omega), ?_⟩
        have K1 : ∀ b o, H2 b = some o → b ≠ lt → (upd H2 lt (.lst (as.map V.ref ++ [.ref a]))) b = some o := fun b o e hb => by
          rw [upd_ne hb]
          exact e
        have K2 : (upd H2 lt (.lst (as.map V.ref ++ [.ref a]))) lt = some (.lst ((as ++ [a]).map V.ref)) := by
          rw [upd_same, List.map_append]
          rfl
        revert K1 K2
        generalize upd H2 lt (.lst (as.map V.ref ++ [.ref a])) = H3
        intro K1 K2
        have ni : ∀ b C dx fs, H2 b = some (.ins C dx fs) → b ≠ lt := fun b C dx fs z => ne_of z hlt (by intro y; cases y)
        have nlw : lw ≠ lt := fun z => by
          have := B.trs
          obtain ⟨as0, h0, _⟩ := this
          rw [z, h0] at hlw
          cases hlw
        have nlg : lw ≠ g := fun z => by rw [z, hg] at hlw; cases hlw
        have W3 : WdAt c1 c2 c3 H3 p g lh lt { W with trees := W.trees ++ [⟨x, y, v⟩] } := by
          obtain ⟨bs, hlh, qall⟩ := B2.ths
          refine ⟨⟨dx, K1 _ _ hp (ni _ _ _ _ hp)⟩, ⟨bs, K1 _ _ hlh B.n1, qall.imp fun a r ⟨d, z⟩ => ⟨d, K1 _ _ z (ni _ _ _ _ z)⟩⟩, ⟨as ++ [a], K2, All2.snoc (hall.imp fun b t ⟨d, l, z1, z2, z3, z4⟩ => ⟨d, l, K1 _ _ z1 (ni _ _ _ _ z1), K1 _ _ z2 z4, z3, z4⟩) ?_⟩, B.n1, B.n2, B.n3⟩
          exact ⟨da, lw, K1 _ _ haa (ni _ _ _ _ haa), K1 _ _ hlw2 nlw, nlg, nlw⟩
        have hp3 := K1 _ _ hp (ni _ _ _ _ hp)
        refine ⟨_, rfl, p, c3, dx, _, _, rfl, hp3, T.k3, T.n3r, wdF_tr _ _, lt, _, rfl, .inl (SqL.of K2), _, _, rfl, rfl, by show 1 ≤ sizeLine; decide, fun r hr' => ?_⟩
        have s4 := same_new (o := .lst [.int (((as ++ [a]).map V.ref).length - 1)]) hr'
        have fr : H r = none := by
          cases e : H r with
          | none => rfl
          | some o =>
            by_cases y : r = lt
            · rw [y, K2] at hr'
              cases hr'
            · rw [K1 _ _ (s12 _ _ e) y] at hr'
              cases hr'
        refine k _ lh lt r (fun b o e _ hb => s4 _ _ (K1 _ _ (s12 _ _ e) hb)) (.inl rfl) (by rw [es]; exact W3.same s4) fr ?_
        rw [es, upd_same]
        have e1 : ((((as ++ [a]).map V.ref).length : Nat) : Int) - 1 = (W.trees.length : Int) := by
          rw [List.length_map, List.length_append, ← hall.1]
          show ((as.length + 1 : Nat) : Int) - 1 = _
          omega
        exact congrArg (fun z => some (HO.lst [V.int z])) e1
/-! ### near -/
theorem step_near {W : SWood} {j : Nat} : Si57.step W (.near j) = if W.rounds.length ≤ j then (W, Si57.ok (-2)) else
    (W, ⟨((Tm.prsTo W.trees (W.gap j) W.trees.length).length : Nat), Si57.ints ((Tm.prsTo W.trees (W.gap j) W.trees.length).flatMap fun p => [p.1, p.2])⟩) := by
  rw [Tm.prs_eq]
  rfl
def spNear (c1 c2 c3 : Addr) : Sp := fun vs H Q _ => ∃ (p g lh lt : Addr) (W : SWood) (j : Nat), vs = [.ref p, nv j] ∧ WdAt c1 c2 c3 H p g lh lt W ∧ Tm.WdOk W ∧ Post c1 c2 c3 H p g lt W (.near j) Q
theorem scNear : FnScope ["self", "number", "pairs", "answer", "pair"] ["self", "number"] (defScope sNear) := ⟨rfl, rfl, rfl, by decide +kernel, rfl, by decide +kernel, by decide +kernel⟩
theorem can_Near (T : Txt K mg c1 c2 c3) (h : HasM K c3 "near" "Wood.near" sNear ["self", "number"]) (CNP : Can P w K mg base 2 "near_pairs" ["trees", "gap"] (spNP c2)) (n1 : Num mg "NO_SUCH_NUMBER" (-2)) :
    CanM P w K mg base 3 c3 "near" ["self", "number"] (spNear c1 c2 c3) := by
  refine h.can scNear (fun vs H Q E h => ?_) (fun f cdv A outer s H vs Q E hr h => ?_)
  · obtain ⟨p, g, lh, lt, W, j, rfl, _⟩ := h
    rfl
  · obtain ⟨p, g, lh, lt, W, j, rfl, B, ok, k⟩ := h
    refine ⟨_, pss_cons (ps_if (pt_cmpR op_ge (pv 1) (pe_callB call_len_seq (by rfl) T.len PySem.boot_len (pa_cons (pe_fld (pv 0) rfl) pa_nil)) (nomark _)) (pss_one (ps_ret (pe_lst (pa_cons (pe_num n1 rfl) pa_nil)))) pss_nil)
      (pss_cons (ps_set (i := 2) scNear.nd rfl (Or.inl rfl) (pe_can CNP hr rfl (pa_cons (pe_fld (pv 0) rfl) (pa_cons (pe_fld (pe_ix ix_list (pe_fld (pv 0) rfl) (pv 1) (fun _ _ => rfl)) rfl) pa_nil))))
      (pss_cons (ps_set (i := 3) scNear.nd rfl (Or.inl rfl) (pe_lst (pa_cons (pe_callB call_len_seq (by rfl) T.len PySem.boot_len (pa_cons (pv 2) pa_nil)) pa_nil)))
      (pss_cons (ps_for PassesOwn.never rfl (pi_list (pv 2)) (pg_name (i := 4) scNear.nd rfl (Or.inl rfl))
        (pss_one (ps_expr (pe_bm PySem.F.plainAttrs_list PySem.F.slot_list_extend PySem.F.type_list_extend mt_extendT (pv 3) (pa_cons (pv 4) pa_nil)))))
      (pss_one (ps_ret (pv 3)))))), ?_⟩
    obtain ⟨dx, hp⟩ := B.obj
    obtain ⟨bs, hlh, qall⟩ := B.ths
    have hlen : (bs.map V.ref).length = W.rounds.length := by rw [List.length_map]; exact qall.1
    have es := step_near (W := W) (j := j)
    refine ⟨_, rfl, _, rfl, p, c3, dx, _, _, rfl, hp, T.k3, T.n3t, wdF_th _ _, lh, _, rfl, .inl (SqL.of hlh), _, _, rfl, rfl, _, rfl, ?_⟩
    rw [hlen]
    refine ite2 (fun c => ?_) fun c => ?_
    · have c := of_decide_eq_true c
      rw [if_pos (by omega)] at es
      refine ⟨by show 1 ≤ sizeLine; decide, fun r hr' => ?_⟩
      exact k.pure B (by rw [es]) (same_new hr') hr' (by rw [es, upd_same]; rfl)
    · have c := of_decide_eq_false (Bool.eq_false_iff.mpr c)
      have hj : j < W.rounds.length := by omega
      rw [if_neg (by omega)] at es
      obtain ⟨rd, hrd⟩ : ∃ r, W.rounds[j]? = some r := ⟨_, List.getElem?_eq_getElem hj⟩
      obtain ⟨b, hb, db, hth⟩ := qall.getR hrd
      have eg : rd.1 = W.gap j := by
        unfold Si57.Wood.gap
        rw [List.getD_eq_getElem?_getD, hrd]
        rfl
      refine ⟨_, rfl, p, c3, dx, _, _, rfl, hp, T.k3, T.n3r, wdF_tr _ _, _, rfl, p, c3, dx, _, _, rfl, hp, T.k3, T.n3t, wdF_th _ _, _, rfl, lh, _, _, _, rfl, rfl, SqL.of hlh, at_of (j := j) rfl (ref_at hb), b, c1, db, _, _, rfl, hth, T.k1, T.n1g, thF_gap _ _,
        lt, W.trees, rd.1, rfl, B.trees, ok.t7, fun t ht => ⟨(ok.tr t ht).1, (ok.tr t ht).2.1⟩, (ok.rd rd (mem_of_at hrd)).1, fun H1 l s1 Bl => ?_⟩
      rw [eg] at Bl
      obtain ⟨as, hl, hall⟩ := Bl
      have hlen2 : (as.map V.ref).length = (Tm.prsTo W.trees (W.gap j) W.trees.length).length := by rw [List.length_map]; exact hall.1
      refine ⟨_, rfl, l, _, rfl, .inl (SqL.of hl), by show 1 ≤ sizeLine; decide, fun r hr' => ?_⟩
      rw [hlen2]
      have s2 := same_new (o := .lst [.int ((Tm.prsTo W.trees (W.gap j) W.trees.length).length : Nat)]) hr'
      generalize hprs : Tm.prsTo W.trees (W.gap j) W.trees.length = prs at *
      have hpl : prs.length ≤ 49 := by
        have := Tm.prsTo_len W.trees (W.gap j) W.trees.length
        rw [hprs] at this
        have := Nat.mul_le_mul ok.t7 ok.t7
        omega
      have fl : ∀ q : List (Nat × Nat), (q.flatMap prV).length = 2 * q.length := fun q => by
        induction q with
        | nil => rfl
        | cons a q ih =>
          rw [List.flatMap_cons, List.length_append, ih]
          show 2 + 2 * q.length = 2 * (q.length + 1)
          omega
      refine ⟨_, rfl, l, rfl, ⟨_, SqL.of (s2 _ _ hl)⟩, for_list (K := K) (a := l) (xs := as.map V.ref)
        (fun i σ H' => ∃ v4 : Option V, σ = [some (.ref p), some (nv j), some (.ref l), some (.ref r), v4] ∧ Same H1 H' ∧ H' r = some (.lst (nv prs.length :: (prs.take i).flatMap prV)))
        ⟨none, rfl, s2, upd_same⟩ (fun i σ H' _ ⟨_, _, s3, _⟩ => SqL.of (s3 _ _ hl)) ?_ ?_⟩
      · rintro i y σ H2 hi ⟨v4, rfl, s3, hr2⟩
        obtain ⟨a, ha, rfl⟩ := ref_get hi
        obtain ⟨pr, hpr, Ta⟩ := hall.get ha
        refine ⟨_, rfl, .inl ⟨rfl, _, SqL.of hr2⟩, _, rfl, r, a, _, _, rfl, rfl, hr2, s3 _ _ Ta, ?_, _, rfl, fun b o e => ?_, ?_⟩
        · show ((prs.take i).flatMap prV).length + 1 + 2 ≤ sizeLine
          rw [fl, List.length_take]
          exact big' (by omega)
        · rw [upd_ne (ne_of_none e hr')]
          exact s3 _ _ e
        · rw [upd_same, take_snoc hpr, List.flatMap_append, List.flatMap_cons, List.flatMap_nil, List.append_nil]
          rfl
      · rintro σ H2 ⟨v4, rfl, s3, hr2⟩
        rw [hlen2, List.take_length] at hr2
        refine ⟨_, rfl, k.pure B (by rw [es]) (s1.trans s3) (s1.free hr') ?_⟩
        rw [es, hr2]
        show some (HO.lst (nv prs.length :: prs.flatMap prV)) = some (HO.lst (nv prs.length :: (Si57.ints (prs.flatMap fun p => [p.1, p.2])).map V.int))
        congr 3
        unfold Si57.ints
        rw [List.map_map, List.map_flatMap]
        rfl
/-! ### best -/
theorem step_best {W : SWood} : Si57.step W .best = (W, match Tm.bests W W.plans with
    | [] => Si57.ok (-6)
    | p :: r => ⟨(Tm.most W W.plans : Nat), ((p :: r).length : Int) :: Si57.ints p⟩) := by
  show (W, match W.best W.plans with
    | none => Si57.ok (-6)
    | some b => Si57.bestOut b) = _
  rw [Tm.best_eq]
  unfold Tm.bestOf
  cases h : Tm.bests W W.plans with
  | nil => rfl
  | cons p r => rfl
theorem plan_ok {W : SWood} (ok : Tm.WdOk W) {p : List Nat} (h : p ∈ W.plans) : PlOk W.trees p := by
  obtain ⟨e1, e2⟩ := Tm.plans_mem h
  refine ⟨e1, fun i t n ht hn => ?_⟩
  have h1 := (ok.tr t (mem_of_at ht)).2.2.1
  have h2 := e2 n (mem_of_at hn)
  omega
theorem bests_mem {W : SWood} {ps : List (List Nat)} {p : List Nat} (h : p ∈ Tm.bests W ps) : p ∈ ps ∧ W.worth p = Tm.most W ps := by
  unfold Tm.bests at h
  obtain ⟨h1, h2⟩ := List.mem_filter.mp h
  exact ⟨h1, eq_of_beq h2⟩
def spBest (c1 c2 c3 : Addr) : Sp := fun vs H Q _ => ∃ (p g lh lt : Addr) (W : SWood), vs = [.ref p] ∧ WdAt c1 c2 c3 H p g lh lt W ∧ Tm.WdOk W ∧ Post c1 c2 c3 H p g lt W .best Q
theorem scBest : FnScope ["self", "best"] ["self"] (defScope sBest) := ⟨rfl, rfl, rfl, by decide +kernel, rfl, by decide +kernel, by decide +kernel⟩
theorem can_Best (T : Txt K mg c1 c2 c3) (h : HasM K c3 "best" "Wood.best" sBest ["self"]) (CBP : Can P w K mg base 2 "best_plans" ["trees", "plans"] (spBP c2)) (CLA : Can P w K mg base 4 "lawful_plans" ["thinnings", "trees"] (spLA c1 c2))
    (CPW : Can P w K mg base 1 "plan_worth" ["trees", "plan"] (spPW c2)) (n1 : Num mg "RULES_NOT_KEPT" (-6)) :
    CanM P w K mg base 5 c3 "best" ["self"] (spBest c1 c2 c3) := by
  refine h.can scBest (fun vs H Q E h => ?_) (fun f cdv A outer s H vs Q E hr h => ?_)
  · obtain ⟨p, g, lh, lt, W, rfl, _⟩ := h
    rfl
  · obtain ⟨p, g, lh, lt, W, rfl, B, ok, k⟩ := h
    refine ⟨_, pss_cons (ps_set (i := 1) scBest.nd rfl (Or.inl rfl) (pe_can CBP (hr.mono (by decide)) rfl (pa_cons (pe_fld (pv 0) rfl) (pa_cons (pe_can CLA hr rfl (pa_cons (pe_fld (pv 0) rfl) (pa_cons (pe_fld (pv 0) rfl) pa_nil))) pa_nil))))
      (pss_cons (ps_if (pt_cmpR op_eq (pe_callB call_len_seq (by rfl) T.len PySem.boot_len (pa_cons (pv 1) pa_nil)) pe_int (nomark _)) (pss_one (ps_ret (pe_lst (pa_cons (pe_num n1 rfl) pa_nil)))) pss_nil)
      (pss_one (ps_ret (pe_op op_cat (pe_lst (pa_cons (pe_can CPW (hr.mono (by decide)) rfl (pa_cons (pe_fld (pv 0) rfl) (pa_cons (pe_ix ix_list (pv 1) pe_int (fun _ _ => rfl)) pa_nil))) (pa_cons (pe_callB call_len_seq (by rfl) T.len PySem.boot_len (pa_cons (pv 1) pa_nil)) pa_nil)))
        (pe_callTy call_list_of (by rfl) T.lst (show bootBuiltins "list" = some (.type "list") by decide +kernel) (pa_cons (pe_ix ix_list (pv 1) pe_int (fun _ _ => rfl)) pa_nil)))))), ?_⟩
    obtain ⟨dx, hp⟩ := B.obj
    have es := step_best (W := W)
    refine ⟨_, rfl, p, c3, dx, _, _, rfl, hp, T.k3, T.n3r, wdF_tr _ _, _, rfl, p, c3, dx, _, _, rfl, hp, T.k3, T.n3t, wdF_th _ _, _, rfl, p, c3, dx, _, _, rfl, hp, T.k3, T.n3r, wdF_tr _ _,
      lh, lt, W.rounds, W.trees, rfl, B.ths, B.trees, ok.r3, ok.t7, fun r hr' => (ok.rd r hr').1, fun t ht => ⟨(ok.tr t ht).1, (ok.tr t ht).2.1⟩, fun H1 lp s1 Bp => ?_⟩
    rw [Tm.lawful_eq] at Bp
    have hpl := Tm.plans_len ok
    refine ⟨lt, lp, W.rounds, W.trees, W.plans, rfl, B.trees.same s1, Bp, by omega, fun q hq => plan_ok ok hq, fun H2 l s2 Bl => ?_⟩
    have s12 := s1.trans s2
    have Bl : PlsAt H2 l (Tm.bests W W.plans) := Bl
    obtain ⟨as, hl, hall⟩ := Bl
    have hlen : (as.map V.ref).length = (Tm.bests W W.plans).length := by rw [List.length_map]; exact hall.1
    refine ⟨_, rfl, l, _, rfl, .inl (SqL.of hl), rfl, _, rfl, ?_⟩
    rw [hlen]
    refine ite2 (fun c => ?_) fun c => ?_
    · have c := of_decide_eq_true c
      have c : (Tm.bests W W.plans).length = 0 := by
        injection c with c
        omega
      rw [List.length_eq_zero_iff.mp c] at es
      refine ⟨by show 1 ≤ sizeLine; decide, fun r hr' => ?_⟩
      exact k.pure B (by rw [es]) (s12.trans (same_new hr')) (s12.free hr') (by rw [es, upd_same]; rfl)
    · have c := of_decide_eq_false (Bool.eq_false_iff.mpr c)
      cases hb : Tm.bests W W.plans with
      | nil =>
        rw [hb] at c
        exact absurd rfl c
      | cons q rest =>
        rw [hb] at es hall hlen
        obtain ⟨a, ha, Ta⟩ := hall.getR (i := 0) (r := q) rfl
        have hq := bests_mem (W := W) (ps := W.plans) (p := q) (by rw [hb]; exact List.mem_cons_self ..)
        have qok := plan_ok ok hq.1
        have ew : Tm.worthZ W.trees q = Tm.most W W.plans := (Tm.worth_eq qok.1).trans hq.2
        have hp2 := s12 _ _ hp
        have ql : q.length ≤ 7 := by rw [qok.1]; exact ok.t7
        have bl : (q :: rest).length ≤ 16384 := by
          rw [← hb]
          exact Nat.le_trans (List.length_filter_le _ _) hpl
        refine ⟨_, rfl, p, c3, dx, _, _, rfl, hp2, T.k3, T.n3r, wdF_tr _ _, _, rfl, l, _, _, _, rfl, rfl, SqL.of hl, at_of (j := 0) rfl (ref_at ha), lt, a, W.trees, q, rfl, B.trees.same s12, Ta, qok, fun H3 s3 => ?_⟩
        have s13 := s12.trans s3
        refine ⟨_, rfl, l, _, rfl, .inl (SqL.of (s3 _ _ hl)), by show 2 ≤ sizeLine; decide, fun r1 hr1 => ?_⟩
        rw [hlen, ew]
        have s4 := same_new (o := .lst [nv (Tm.most W W.plans), .int ((q :: rest).length : Nat)]) hr1
        have hr1' : (upd H3 r1 (.lst [nv (Tm.most W W.plans), .int ((q :: rest).length : Nat)])) r1 = some (.lst [nv (Tm.most W W.plans), .int ((q :: rest).length : Nat)]) := upd_same
        revert s4 hr1'
        generalize upd H3 r1 (.lst [nv (Tm.most W W.plans), .int ((q :: rest).length : Nat)]) = H4
        intro s4 hr1'
        have s34 := s3.trans s4
        refine ⟨_, rfl, l, _, _, _, rfl, rfl, SqL.of (s34 _ _ hl), at_of (j := 0) rfl (ref_at ha), a, _, rfl, .inr (SqT.of (s34 _ _ Ta)), fun r2 hr2 => ?_⟩
        have s5 := same_new (o := .lst (nvs q)) hr2
        refine ⟨r1, r2, _, _, rfl, rfl, s5 _ _ hr1', upd_same, ?_, fun r3 hr3 => ?_⟩
        · rw [nvs_length]
          show 2 + q.length ≤ sizeLine
          exact big' (by omega)
        · refine k.pure B (by rw [es]) (s13.trans (s4.trans (s5.trans (same_new hr3)))) ((s13.trans (s4.trans s5)).free hr3) ?_
          rw [es, upd_same]
          show some (HO.lst (nv (Tm.most W W.plans) :: V.int ((q :: rest).length : Nat) :: nvs q)) = some (HO.lst (nv (Tm.most W W.plans) :: V.int ((q :: rest).length : Nat) :: (Si57.ints q).map V.int))
          congr 4
          unfold Si57.ints nvs
          rw [List.map_map]
          rfl
end
end Tt
set_option Elab.async false
set_option linter.all false
set_option maxRecDepth 100000
set_option maxHeartbeats 2000000
namespace Tt
open PySem PySem.Spec PyProof.Rows L2
abbrev sAT : Stmt := top 41
abbrev sAns : Stmt := top 42
theorem cut_mid {xs : List V} {a b : Nat} (h1 : a ≤ b) (h2 : b ≤ xs.length) : cutV xs (some (a : Int)) (some (b : Int)) = (xs.drop a).take (b - a) := by
  unfold cutV
  rw [HT.sIx_nat, HT.sIx_nat, Nat.min_eq_left h2, Nat.min_eq_left (by omega)]
section
variable {P : Program} {w : World} {K : PySem.W.Frag} {mg : Str → Option Value} {base : Heap} {c1 c2 c3 : Addr}
/-- what is asked of answer_to -/
def spAT (c1 c2 c3 : Addr) : Sp := fun vs H Q _ => ∃ (p g lh lt l : Addr) (W : SWood) (z : Int) (zs : List Int) (q : Si57.Call), vs = [.ref p, .int z, .ref l] ∧ WdAt c1 c2 c3 H p g lh lt W ∧ Tm.WdOk W ∧ (∃ ys, H g = some (.lst ys)) ∧ H l = some (.lst (zs.map V.int)) ∧
  0 ≤ z ∧ (∀ y ∈ zs, 0 ≤ y ∧ y < 4294967296) ∧ Si57Neutral.callOf (z :: zs) = some q ∧ Post c1 c2 c3 H p g lt W q Q
def spAns (K : PySem.W.Frag) : Sp := fun vs H Q _ => ∃ (a : Addr) (ns : List Int), vs = [.ref a] ∧ SqL K H a (ns.map V.int) ∧ ns.length ≤ 2000 ∧ PySi57.answers_asked ns = true ∧ ∀ (H' : Hp) (r : Addr), H' r = some (.lst ((PySi57.answers ns).map V.int)) → Q (.ref r) H'
theorem scAns : FnScope ["calls", "wood", "given", "start", "end", "answer"] ["calls"] (defScope sAns) := ⟨rfl, rfl, rfl, by decide +kernel, rfl, by decide +kernel, by decide +kernel⟩
theorem ok_Ans (T : Txt K mg c1 c2 c3) {n : Nat} (hn3 : 3 ≤ n) {f : Addr} {fd : FuncData} (F : Fun K "answers" "answers" sAns f fd) (CW : CanMk P w K mg base 3 "Wood" c3 ["self"] (spWI c1 c2 c3)) (CAT : Can P w K mg base n "answer_to" ["wood", "call", "numbers"] (spAT c1 c2 c3)) :
    FnOk P w K mg base CX0 (n + 2) f fd ["calls"] (spAns K) := by
  refine F.ok scAns (fun vs H Q E h => ?_) (fun cdv A outer s H vs Q E hr h => ?_)
  · obtain ⟨a, ns, rfl, _⟩ := h
    rfl
  · obtain ⟨a, ns, rfl, hS, hn, hask, k⟩ := h
    obtain ⟨cs, ask, eans⟩ := Tm.asked_of hask
    refine ⟨_, pss_cons (ps_set (i := 1) scAns.nd rfl (Or.inl rfl) (pe_canMk0 CW (hr.mono (by omega)) rfl))
      (pss_cons (ps_set (i := 2) scAns.nd rfl (Or.inl rfl) (pe_lst pa_nil))
      (pss_cons (ps_set (i := 3) scAns.nd rfl (Or.inl rfl) pe_int)
      (pss_cons (ps_while PassesOwn.never (pt_cmpR op_lt (pv 3) (pe_callB call_len_seq (by rfl) T.len PySem.boot_len (pa_cons (pv 0) pa_nil)) (nomark _))
        (pss_cons (ps_set (i := 4) scAns.nd rfl (Or.inl rfl) (pe_op op_add (pe_op op_add (pv 3) pe_int) (pe_ix ix_list (pv 0) (pe_op op_add (pv 3) pe_int) (fun _ _ => rfl))))
        (pss_cons (ps_set (i := 5) scAns.nd rfl (Or.inl rfl) (pe_can CAT (hr.mono (by omega)) rfl (pa_cons (pv 1) (pa_cons (pe_ix ix_list (pv 0) (pv 3) (fun _ _ => rfl)) (pa_cons (pe_slice sl_list (pv 0) (po_some (pe_op op_add (pv 3) pe_int)) (po_some (pv 4))) pa_nil)))))
        (pss_cons (ps_expr (pe_bm PySem.F.plainAttrs_list PySem.F.slot_list_append PySem.F.type_list_append mt_append (pv 2) (pa_cons (pe_callB call_len_seq (by rfl) T.len PySem.boot_len (pa_cons (pv 5) pa_nil)) pa_nil)))
        (pss_cons (ps_expr (pe_bm PySem.F.plainAttrs_list PySem.F.slot_list_extend PySem.F.type_list_extend mt_extend (pv 2) (pa_cons (pv 5) pa_nil)))
        (pss_one (ps_set (i := 3) scAns.nd rfl (Or.inl rfl) (pe_op op_add (pv 4) pe_int))))))))
      (pss_one (ps_ret (pv 2)))))), ?_⟩
    intro p dp hp0 hdp hne
    refine ⟨p, dp, rfl, upd_same, fun H1 lh lt K1 flh flt nll hobj hths hlt => ⟨rfl, ?_⟩⟩
    have s1 : Same H H1 := Same.made hp0 hdp K1
    have fb : ∀ b, (upd (upd H dp (.own p)) p (.ins c3 dp [])) b = none → H b = none := fun b e => by
      cases q : H b with
      | none => rfl
      | some o =>
        rw [upd_ne (ne_of_none q hp0), upd_ne (ne_of_none q hdp), q] at e
        cases e
    have flt0 := fb _ flt
    refine ⟨Nat.zero_le _, fun g hg => ?_⟩
    have s2 : Same H1 (upd H1 g (.lst [])) := same_new hg
    have hg2 : (upd H1 g (.lst [])) g = some (.lst []) := upd_same
    have fg : H g = none := s1.free hg
    have B0 : WdAt c1 c2 c3 (upd H1 g (.lst [])) p g lh lt Si57.init := by
      obtain ⟨d, hd⟩ := hobj
      obtain ⟨bs, e1, e2⟩ := hths
      have n2 : lh ≠ g := ne_of_none e1 hg
      have n3 : lt ≠ g := ne_of_none hlt hg
      exact ⟨⟨d, s2 _ _ hd⟩, (show ThsAt c1 H1 lh [(0, 0)] from ⟨bs, e1, e2⟩).same s2, ⟨[], s2 _ _ hlt, All2.nil⟩, nll, n2, n3⟩
    have s02 := s1.trans s2
    revert s2 hg2 B0 s02
    generalize upd H1 g (.lst []) = H2
    intro s2 hg2 B0 s02
    refine ⟨fun m σ H' => ∃ (cs1 cs2 : List (List (List Int))) (lh lt : Addr) (v4 v5 : Option V), m = cs2.length ∧ cs = cs1 ++ cs2 ∧ σ = [some (.ref a), some (.ref p), some (.ref g), some (nv (Tm.endOf cs1)), v4, v5] ∧ Same H H' ∧ H lt = none ∧
      WdAt c1 c2 c3 H' p g lh lt (Tm.after Si57Neutral.start cs1) ∧ H' g = some (.lst ((Tm.outs Si57Neutral.start cs1).map V.int)), ⟨_, [], cs, lh, lt, none, none, rfl, rfl, rfl, s02, flt0, B0, hg2⟩, ?_⟩
    rintro m σ H3 ⟨cs1, cs2, lh, lt, v4, v5, rfl, ecs, rfl, s3, flt3, B, hg3⟩
    have hS3 := s3.seq hS
    have hlen : (ns.map V.int).length = (PyWide.put cs).length := by rw [List.length_map, ask.eq]
    refine ⟨_, rfl, _, rfl, a, _, rfl, .inl hS3, _, _, rfl, rfl, _, rfl, ?_⟩
    rw [hlen]
    refine ite2 (fun c => ?_) fun c => ?_
    · have c := of_decide_eq_true c
      cases cs2 with
      | nil =>
        rw [ecs, List.append_nil] at c
        unfold Tm.endOf at c
        omega
      | cons d cs2 =>
        obtain ⟨z, zs, q, rfl, hz0, hz1, hzs, hq⟩ := ask.one d (by rw [ecs]; exact List.mem_append_right _ (List.mem_cons_self ..))
        have el := Tm.end_lt (cs := cs1) (ds := cs2) (z := z) (zs := zs)
        have a1 := Tm.at_call (cs := cs1) (ds := cs2) (z := z) (zs := zs)
        have a2 := Tm.at_count (cs := cs1) (ds := cs2) (z := z) (zs := zs)
        have a3 := Tm.at_numbers (cs := cs1) (ds := cs2) (z := z) (zs := zs)
        rw [← ecs, ← ask.eq] at el a1 a2 a3
        have mx : ∀ (i : Nat) (y : Int), ns[i]? = some y → (ns.map V.int)[i]? = some (.int y) := fun i y e => by rw [List.getElem?_map, e]; rfl
        refine ⟨fun σ H' => ∃ (lh lt : Addr) (v4 v5 : Option V), σ = [some (.ref a), some (.ref p), some (.ref g), some (nv (Tm.endOf (cs1 ++ [[z :: zs]]))), v4, v5] ∧ Same H H' ∧ H lt = none ∧
          WdAt c1 c2 c3 H' p g lh lt (Tm.after Si57Neutral.start (cs1 ++ [[z :: zs]])) ∧ H' g = some (.lst ((Tm.outs Si57Neutral.start (cs1 ++ [[z :: zs]])).map V.int)), ?_, ?_⟩
        · rintro σ' H' ⟨lh, lt, v4, v5, e1, e2, e3, e4, e5⟩
          exact ⟨cs2.length, Nat.lt_succ_self _, cs1 ++ [[z :: zs]], cs2, lh, lt, v4, v5, rfl, by rw [ecs, List.append_assoc]; rfl, e1, e2, e3, e4, e5⟩
        refine ⟨_, rfl, _, _, rfl, rfl, _, rfl, _, rfl, _, _, rfl, rfl, a, _, _, _, rfl, rfl, hS3, at_of (j := Tm.endOf cs1 + 1) (by omega) (mx _ _ a2), _, _, rfl, rfl, ?_⟩
        have eend : (((Tm.endOf cs1 : Nat) : Int) + 2) + (zs.length : Int) = ((Tm.endOf cs1 + 2 + zs.length : Nat) : Int) := by omega
        have est : ((Tm.endOf cs1 : Nat) : Int) + 2 = ((Tm.endOf cs1 + 2 : Nat) : Int) := by omega
        refine ⟨_, rfl, _, rfl, _, rfl, a, _, _, _, rfl, rfl, hS3, at_of (j := Tm.endOf cs1) rfl (mx _ _ a1), _, rfl, _, rfl, _, _, rfl, rfl, _, rfl, _, rfl, _, rfl, a, _, rfl, hS3, fun l hl => ?_⟩
        have ecut : cutV (ns.map V.int) (some (((Tm.endOf cs1 : Nat) : Int) + 2)) (some ((((Tm.endOf cs1 : Nat) : Int) + 2) + (zs.length : Int))) = zs.map V.int := by
          rw [eend, est, cut_mid (by omega) (by rw [List.length_map]; omega), ← List.map_drop, ← List.map_take, Nat.add_sub_cancel_left, a3]
        have s4 : Same H3 (upd H3 l (.lst (cutV (ns.map V.int) (some (((Tm.endOf cs1 : Nat) : Int) + 2)) (some ((((Tm.endOf cs1 : Nat) : Int) + 2) + (zs.length : Int)))))) := same_new hl
        have hl4 : (upd H3 l (.lst (cutV (ns.map V.int) (some (((Tm.endOf cs1 : Nat) : Int) + 2)) (some ((((Tm.endOf cs1 : Nat) : Int) + 2) + (zs.length : Int)))))) l = some (.lst (zs.map V.int)) := by rw [upd_same, ecut]
        revert s4 hl4
        generalize (upd H3 l (.lst (cutV (ns.map V.int) (some (((Tm.endOf cs1 : Nat) : Int) + 2)) (some ((((Tm.endOf cs1 : Nat) : Int) + 2) + (zs.length : Int)))))) = H4
        intro s4 hl4
        have s34 := s3.trans s4
        have okW : Tm.WdOk (Tm.after Si57Neutral.start cs1) := Tm.ok_after Tm.ok_init
        refine ⟨p, g, lh, lt, l, Tm.after Si57Neutral.start cs1, z, zs, q, rfl, B.same s4, okW, ⟨_, s4 _ _ hg3⟩, hl4, hz0, hzs, hq, fun H5 lh' lt' r K5 flt5 B5 fr hr5 => ?_⟩
        have estep : Si57Neutral.step (Tm.after Si57Neutral.start cs1) [z :: zs] = ((Si57.step (Tm.after Si57Neutral.start cs1) q).1, (Si57.step (Tm.after Si57Neutral.start cs1) q).2.v :: (Si57.step (Tm.after Si57Neutral.start cs1) q).2.l) := by
          show (match Si57Neutral.callOf (z :: zs) with
            | none => (Tm.after Si57Neutral.start cs1, [])
            | some q => let r := Si57.step (Tm.after Si57Neutral.start cs1) q; (r.1, r.2.v :: r.2.l)) = _
          rw [hq]
        have es := Tm.after_snoc Si57Neutral.start cs1 [z :: zs]
        have eo := Tm.outs_snoc cs1 Si57Neutral.start [z :: zs]
        rw [estep] at es eo
        have hlen5 := Tm.outs_len cs Si57Neutral.start 999999 ask.short
        have hlen6 := Tm.outs_mono (cs1 ++ [[z :: zs]]) cs2 Si57Neutral.start
        have hm60 := ask.many
        rw [show cs1 ++ [[z :: zs]] ++ cs2 = cs by rw [ecs, List.append_assoc]; rfl, eo, List.length_append, List.length_cons] at hlen6
        have hlen7 : (Tm.outs Si57Neutral.start cs1).length + ((Si57.step (Tm.after Si57Neutral.start cs1) q).2.v :: (Si57.step (Tm.after Si57Neutral.start cs1) q).2.l).length + 1 ≤ 1000059 := by
          have : (Tm.outs Si57Neutral.start cs1).length + (((Si57.step (Tm.after Si57Neutral.start cs1) q).2.v :: (Si57.step (Tm.after Si57Neutral.start cs1) q).2.l).length + 1) ≤ (Tm.outs Si57Neutral.start cs).length := hlen6
          omega
        generalize hans : (Si57.step (Tm.after Si57Neutral.start cs1) q).2.v :: (Si57.step (Tm.after Si57Neutral.start cs1) q).2.l = ans at *
        have hr5 : H5 r = some (.lst (ans.map V.int)) := by
          rw [hr5]
          unfold ansV
          rw [hans]
        have nlt : H lt' = none := by
          rcases flt5 with e | e
          · rw [e]; exact flt3
          · exact s34.free e
        have np : H p = none := hp0
        have s5 : Same H H5 := fun b o e => K5 b o (s34 _ _ e) (fun y => by rw [y, np] at e; cases e) (fun y => by rw [y, flt3] at e; cases e)
        have ngp : g ≠ p := by
          obtain ⟨d, hd⟩ := B.obj
          exact ne_of hg3 hd (by intro y; cases y)
        have hg5 : H5 g = some (.lst ((Tm.outs Si57Neutral.start cs1).map V.int)) := K5 g _ (s4 _ _ hg3) ngp B.n3.symm
        -- given.append(len(answer))
        refine ⟨_, rfl, .inl ⟨rfl, _, SqL.of hg5⟩, _, rfl, r, _, rfl, .inl (SqL.of hr5), g, _, _, rfl, rfl, hg5, by rw [List.length_map]; exact bigg (by omega), ?_⟩
        rw [List.length_map]
        have B6 := B5.write (o := .lst ((Tm.outs Si57Neutral.start cs1).map V.int ++ [.int (ans.length : Nat)])) hg5
        have s6 : Same H (upd H5 g (.lst ((Tm.outs Si57Neutral.start cs1).map V.int ++ [.int (ans.length : Nat)]))) := fun b o e => by
          rw [upd_ne (ne_of_none e fg)]
          exact s5 _ _ e
        have hg6 : (upd H5 g (.lst ((Tm.outs Si57Neutral.start cs1).map V.int ++ [.int (ans.length : Nat)]))) g = some (.lst ((Tm.outs Si57Neutral.start cs1).map V.int ++ [.int (ans.length : Nat)])) := upd_same
        have nrg : r ≠ g := fun y => by rw [y, s4 _ _ hg3] at fr; cases fr
        have hr6 : (upd H5 g (.lst ((Tm.outs Si57Neutral.start cs1).map V.int ++ [.int (ans.length : Nat)]))) r = some (.lst (ans.map V.int)) := by rw [upd_ne nrg]; exact hr5
        revert B6 s6 hg6 hr6
        generalize upd H5 g (.lst ((Tm.outs Si57Neutral.start cs1).map V.int ++ [.int (ans.length : Nat)])) = H6
        intro B6 s6 hg6 hr6
        -- given.extend(answer)
        refine ⟨_, rfl, .inl ⟨rfl, _, SqL.of hg6⟩, _, rfl, g, r, _, _, rfl, rfl, hg6, hr6, ?_, ?_⟩
        · rw [List.length_append, List.length_map, List.length_map]
          exact Nat.le_of_lt (bigg (by show (Tm.outs Si57Neutral.start cs1).length + 1 + ans.length ≤ 3000000; omega))
        · refine ⟨_, rfl, _, _, rfl, rfl, lh', lt', some (.int (((Tm.endOf cs1 : Nat) : Int) + 2 + (zs.length : Int))), some (.ref r), ?_, fun b o e => ?_, nlt, ?_, ?_⟩
          · rw [Tm.endOf_snoc]
            show [some (V.ref a), some (V.ref p), some (V.ref g), some (V.int ((((Tm.endOf cs1 : Nat) : Int) + 2 + (zs.length : Int)) + 1)), _, _] = [some (V.ref a), some (V.ref p), some (V.ref g), some (V.int ((Tm.endOf cs1 + 2 + zs.length + 1 : Nat) : Int)), _, _]
            rw [show (((Tm.endOf cs1 : Nat) : Int) + 2 + (zs.length : Int)) + 1 = ((Tm.endOf cs1 + 2 + zs.length + 1 : Nat) : Int) by omega]
          · rw [upd_ne (ne_of_none e fg)]
            exact s6 _ _ e
          · rw [es]
            exact B6.write hg6
          · rw [upd_same, eo, List.map_append, List.append_assoc]
            rfl
    · have c := of_decide_eq_false (Bool.eq_false_iff.mpr c)
      cases cs2 with
      | nil =>
        rw [List.append_nil] at ecs
        refine ⟨_, rfl, k _ _ ?_⟩
        rw [eans, ecs]
        exact hg3
      | cons d cs2 =>
        obtain ⟨z, zs, q, rfl, _⟩ := ask.one d (by rw [ecs]; exact List.mem_append_right _ (List.mem_cons_self ..))
        have el := Tm.end_lt (cs := cs1) (ds := cs2) (z := z) (zs := zs)
        rw [← ecs] at el
        omega
end
end Tt
set_option Elab.async false
set_option linter.all false
set_option maxRecDepth 100000
set_option maxHeartbeats 2000000
namespace Tt
open PySem PySem.Spec PyProof.Rows L2
section
variable {P : Program} {w : World} {K : PySem.W.Frag} {mg : Str → Option Value} {base : Heap} {c1 c2 c3 : Addr}
/-! ### plan_as_told -/
def spPA (c1 c2 : Addr) : Sp := fun vs H Q _ => ∃ (lp lh lt : Addr) (W : SWood) (p : List Nat), vs = [.ref lp, .ref lh, .ref lt] ∧ H lp = some (.lst (nvs p)) ∧ ThsAt c1 H lh W.rounds ∧ TrsAt c2 H lt W.trees ∧ Q (.bl (W.told p)) H
theorem scPA : FnScope ["plan", "thinnings", "trees", "time"] ["plan", "thinnings", "trees"] (defScope sPA) := ⟨rfl, rfl, rfl, by decide +kernel, rfl, by decide +kernel, by decide +kernel⟩
theorem can_PA (T : Txt K mg c1 c2 c3) (h : HasF K mg "plan_as_told" "plan_as_told" sPA ["plan", "thinnings", "trees"]) : Can P w K mg base 1 "plan_as_told" ["plan", "thinnings", "trees"] (spPA c1 c2) := by
  refine h.can scPA (fun vs H Q E h => ?_) (fun f cdv A outer s H vs Q E hr h => ?_)
  · obtain ⟨lp, lh, lt, W, p, rfl, _⟩ := h
    rfl
  · obtain ⟨lp, lh, lt, W, p, rfl, hlp, ⟨as, hlh, hall⟩, ⟨bs, hlt, hball⟩, k⟩ := h
    have hlen : (as.map V.ref).length = W.rounds.length := by rw [List.length_map]; exact hall.1
    have hlenb : (bs.map V.ref).length = W.trees.length := by rw [List.length_map]; exact hball.1
    refine ⟨_, pss_cons (ps_if (pt_cmpR op_ne (pe_callB call_len_seq (by rfl) T.len PySem.boot_len (pa_cons (pv 0) pa_nil)) (pe_callB call_len_seq (by rfl) T.len PySem.boot_len (pa_cons (pv 2) pa_nil)) (nomark _)) (pss_one (ps_ret pe_bl)) pss_nil)
      (pss_cons (ps_for PassesOwn.never rfl (pi_list (pv 0)) (pg_name (i := 3) scPA.nd rfl (Or.inl rfl))
        (pss_one (ps_if (pt_cmpR op_gt (pv 3) (pe_callB call_len_seq (by rfl) T.len PySem.boot_len (pa_cons (pv 1) pa_nil)) (nomark _)) (pss_one (ps_ret pe_bl)) pss_nil)))
      (pss_one (ps_ret pe_bl))), ?_⟩
    have no : ¬ (p.length = W.trees.length ∧ ∀ t ∈ p, t ≤ W.rounds.length) → Q (.bl false) H := fun z => by
      have e : W.told p = false := Bool.eq_false_iff.mpr fun e => z (Tm.told_iff.mp e)
      rw [e] at k
      exact k
    refine ⟨_, rfl, lp, _, rfl, .inl (SqL.of hlp), _, rfl, lt, _, rfl, .inl (SqL.of hlt), rfl, _, rfl, ?_⟩
    rw [hlenb, nvs_length]
    refine ite2 (fun e => ?_) fun e => ?_
    · refine no fun z => ?_
      rw [z.1] at e
      simp at e
    · have e : p.length = W.trees.length := by
        refine Classical.byContradiction fun z => e ?_
        simp
        omega
      refine ⟨_, rfl, lp, rfl, ⟨_, SqL.of hlp⟩, for_list (K := K) (a := lp) (xs := nvs p)
        (fun i σ H' => ∃ v3 : Option V, σ = [some (.ref lp), some (.ref lh), some (.ref lt), v3] ∧ H' = H ∧ ∀ (j v : Nat), j < i → p[j]? = some v → v ≤ W.rounds.length)
        ⟨none, rfl, rfl, fun j r hj => absurd hj (Nat.not_lt_zero _)⟩ (fun i σ H' _ ⟨_, _, e, _⟩ => by rw [e]; exact SqL.of hlp) ?_ ?_⟩
      · rintro i y σ H1 hi ⟨v3, rfl, rfl, hno⟩
        obtain ⟨n, hn, rfl⟩ := nvs_get hi
        refine ⟨_, rfl, _, rfl, lh, _, rfl, .inl (SqL.of hlh), _, _, rfl, rfl, _, rfl, ?_⟩
        rw [hlen]
        refine ite2 (fun g => ?_) fun g => ?_
        · have g := of_decide_eq_true g
          refine no fun z => ?_
          have := z.2 n (mem_of_at hn)
          omega
        · have g := of_decide_eq_false (Bool.eq_false_iff.mpr g)
          refine ⟨_, rfl, rfl, fun j v hj hv => ?_⟩
          by_cases ee : j = i
          · subst ee
            rw [hn] at hv
            cases hv
            omega
          · exact hno j v (by omega) hv
      · rintro σ H1 ⟨v3, rfl, rfl, hno⟩
        rw [nvs_length] at hno
        have e : W.told p = true := Tm.told_iff.mpr ⟨e, fun v hv => by
          obtain ⟨j, hj⟩ := List.mem_iff_getElem?.mp hv
          exact hno j v (List.getElem?_eq_some_iff.mp hj).1 hj⟩
        rw [e] at k
        exact k
/-! ### check -/
theorem ints_nvs (l : List Nat) : (Si57.ints l).map V.int = nvs l := by
  unfold Si57.ints nvs
  rw [List.map_map]
  rfl
theorem step_check {W : SWood} {p : List Nat} : Si57.step W (.check p) = if W.told p = false then (W, Si57.ok (-1)) else (W, match W.wrong p with
    | some x => ⟨-6, Si57.ints x⟩
    | none => Si57.ok (W.worth p)) := rfl
theorem told_ok {W : SWood} (ok : Tm.WdOk W) {p : List Nat} (h : W.told p = true) : PlOk W.trees p := by
  obtain ⟨e1, e2⟩ := Tm.told_iff.mp h
  refine ⟨e1, fun i t n ht hn => ?_⟩
  have h1 := (ok.tr t (mem_of_at ht)).2.2.1
  have h2 := e2 n (mem_of_at hn)
  omega
def spCheck (c1 c2 c3 : Addr) : Sp := fun vs H Q _ => ∃ (p g lh lt l : Addr) (W : SWood) (ns : List Nat), vs = [.ref p, .ref l] ∧ WdAt c1 c2 c3 H p g lh lt W ∧ Tm.WdOk W ∧ H l = some (.lst (nvs ns)) ∧ Post c1 c2 c3 H p g lt W (.check ns) Q
theorem scCheck : FnScope ["self", "plan", "fault"] ["self", "plan"] (defScope sCheck) := ⟨rfl, rfl, rfl, by decide +kernel, rfl, by decide +kernel, by decide +kernel⟩
theorem can_Check (T : Txt K mg c1 c2 c3) (h : HasM K c3 "check" "Wood.check" sCheck ["self", "plan"]) (CPA : Can P w K mg base 1 "plan_as_told" ["plan", "thinnings", "trees"] (spPA c1 c2)) (CFF : Can P w K mg base 4 "first_fault" ["thinnings", "trees", "plan"] (spFF c1 c2))
    (CPW : Can P w K mg base 1 "plan_worth" ["trees", "plan"] (spPWL c2)) (n1 : Num mg "NOT_AS_TOLD" (-1)) (n2 : Num mg "RULES_NOT_KEPT" (-6)) :
    CanM P w K mg base 5 c3 "check" ["self", "plan"] (spCheck c1 c2 c3) := by
  refine h.can scCheck (fun vs H Q E h => ?_) (fun f cdv A outer s H vs Q E hr h => ?_)
  · obtain ⟨p, g, lh, lt, l, W, ns, rfl, _⟩ := h
    rfl
  · obtain ⟨p, g, lh, lt, l, W, ns, rfl, B, ok, hl, k⟩ := h
    refine ⟨_, pss_cons (ps_if (pt_not (pt_val (pe_can CPA (hr.mono (by decide)) rfl (pa_cons (pv 1) (pa_cons (pe_fld (pv 0) rfl) (pa_cons (pe_fld (pv 0) rfl) pa_nil)))))) (pss_one (ps_ret (pe_lst (pa_cons (pe_num n1 rfl) pa_nil)))) pss_nil)
      (pss_cons (ps_set (i := 2) scCheck.nd rfl (Or.inl rfl) (pe_can CFF hr rfl (pa_cons (pe_fld (pv 0) rfl) (pa_cons (pe_fld (pv 0) rfl) (pa_cons (pv 1) pa_nil)))))
      (pss_cons (ps_if (pt_cmpR op_gt (pe_callB call_len_seq (by rfl) T.len PySem.boot_len (pa_cons (pv 2) pa_nil)) pe_int (nomark _)) (pss_one (ps_ret (pe_op op_cat (pe_lst (pa_cons (pe_num n2 rfl) pa_nil)) (pv 2)))) pss_nil)
      (pss_one (ps_ret (pe_lst (pa_cons (pe_can CPW (hr.mono (by decide)) rfl (pa_cons (pe_fld (pv 0) rfl) (pa_cons (pv 1) pa_nil))) pa_nil)))))), ?_⟩
    obtain ⟨dx, hp⟩ := B.obj
    have es := step_check (W := W) (p := ns)
    refine ⟨_, rfl, _, rfl, p, c3, dx, _, _, rfl, hp, T.k3, T.n3t, wdF_th _ _, _, rfl, p, c3, dx, _, _, rfl, hp, T.k3, T.n3r, wdF_tr _ _, l, lh, lt, W, ns, rfl, hl, B.ths, B.trees, _, rfl, ?_⟩
    refine ite2 (fun c => ?_) fun c => ?_
    · have c : W.told ns = false := by simpa using c
      rw [if_pos c] at es
      refine ⟨by show 1 ≤ sizeLine; decide, fun r hr' => ?_⟩
      exact k.pure B (by rw [es]) (same_new hr') hr' (by rw [es, upd_same]; rfl)
    · have c : ¬ W.told ns = false := by simpa using c
      rw [if_neg c] at es
      have c : W.told ns = true := by simpa using c
      obtain ⟨e1, e2⟩ := Tm.told_iff.mp c
      refine ⟨_, rfl, p, c3, dx, _, _, rfl, hp, T.k3, T.n3t, wdF_th _ _, _, rfl, p, c3, dx, _, _, rfl, hp, T.k3, T.n3r, wdF_tr _ _, _, rfl, lh, lt, l, W, ns, rfl, B.ths, B.trees, ok.t7, fun r hr' => (ok.rd r hr').1, fun t ht => ⟨(ok.tr t ht).1, (ok.tr t ht).2.1⟩, hl, e1, fun H1 q s1 hq => ?_⟩
      refine ⟨_, rfl, q, _, rfl, .inl (SqL.of hq), _, _, rfl, rfl, _, rfl, ?_⟩
      rw [nvs_length]
      cases hw : W.wrong ns with
      | none =>
        rw [hw] at es
        have ef : Tm.faultF W ns = [] := by unfold Tm.faultF; rw [hw]; rfl
        rw [ef]
        refine ite2 (fun d => absurd (of_decide_eq_true d) (by decide)) fun d => ?_
        have hp1 := s1 _ _ hp
        have tok := told_ok ok c
        refine ⟨_, rfl, p, c3, dx, _, _, rfl, hp1, T.k3, T.n3r, wdF_tr _ _, _, rfl, lt, l, W.trees, ns, rfl, B.trees.same s1, s1 _ _ hl, tok, fun H2 s2 => ?_⟩
        refine ⟨by show 1 ≤ sizeLine; decide, fun r hr' => ?_⟩
        rw [Tm.worth_eq e1]
        exact k.pure B (by rw [es]) ((s1.trans s2).trans (same_new hr')) ((s1.trans s2).free hr') (by rw [es, upd_same]; rfl)
      | some x =>
        rw [hw] at es
        have ef : Tm.faultF W ns = x := by unfold Tm.faultF; rw [hw]; rfl
        have hx := Tm.wrong_cons hw e1
        rw [ef] at hq ⊢
        refine ite2 (fun d => ?_) fun d => ?_
        · refine ⟨by show 1 ≤ sizeLine; decide, fun r1 hr1 => ?_⟩
          have s2 := same_new (o := .lst [.int (-6)]) hr1
          refine ⟨_, rfl, r1, q, _, _, rfl, rfl, upd_same, s2 _ _ hq, ?_, fun r2 hr2 => ?_⟩
          · rw [nvs_length]
            show 1 + _ ≤ sizeLine
            have := Tm.wrong_len hw e1
            exact big' (by omega)
          · refine k.pure B (by rw [es]) (s1.trans (s2.trans (same_new hr2))) ((s1.trans s2).free hr2) ?_
            rw [es, upd_same]
            show some (HO.lst (V.int (-6) :: nvs x)) = some (HO.lst (V.int (-6) :: (Si57.ints x).map V.int))
            rw [ints_nvs]
        · have d := of_decide_eq_false (Bool.eq_false_iff.mpr d)
          exact absurd (List.length_eq_zero_iff.mp (by omega)) hx
/-! ### keep -/
theorem step_keep {W : SWood} {i : Nat} : Si57.step W (.keep i) = if W.trees.length ≤ i then (W, Si57.ok (-2)) else (W, match Tm.bests W W.plans, Tm.bests W (W.keeping i) with
    | [], _ => Si57.ok (-6)
    | _ :: _, [] => Si57.ok (-3)
    | _ :: _, p :: r => ⟨((Tm.most W W.plans - Tm.most W (W.keeping i) : Nat) : Int), ((p :: r).length : Int) :: Si57.ints p⟩) := by
  show (if W.trees.length ≤ i then (W, Si57.ok (-2)) else (W, match W.best W.plans, W.best (W.keeping i) with
    | none, _ => Si57.ok (-6)
    | some _, none => Si57.ok (-3)
    | some a, some b => ⟨((a.worth - b.worth : Nat) : Int), (b.many : Int) :: Si57.ints b.plan⟩)) = _
  rw [Tm.best_eq, Tm.best_eq]
  unfold Tm.bestOf
  cases h : Tm.bests W W.plans with
  | nil => rfl
  | cons p r =>
    cases h2 : Tm.bests W (W.keeping i) with
    | nil => rfl
    | cons p2 r2 => rfl
def spKeep (c1 c2 c3 : Addr) : Sp := fun vs H Q _ => ∃ (p g lh lt : Addr) (W : SWood) (i : Nat), vs = [.ref p, nv i] ∧ WdAt c1 c2 c3 H p g lh lt W ∧ Tm.WdOk W ∧ Post c1 c2 c3 H p g lt W (.keep i) Q
theorem scKeep : FnScope ["self", "number", "plans", "kept", "most"] ["self", "number"] (defScope sKeep) := ⟨rfl, rfl, rfl, by decide +kernel, rfl, by decide +kernel, by decide +kernel⟩
theorem can_Keep (T : Txt K mg c1 c2 c3) (h : HasM K c3 "keep" "Wood.keep" sKeep ["self", "number"]) (CBP : Can P w K mg base 2 "best_plans" ["trees", "plans"] (spBP c2)) (CLA : Can P w K mg base 4 "lawful_plans" ["thinnings", "trees"] (spLA c1 c2))
    (CPW : Can P w K mg base 1 "plan_worth" ["trees", "plan"] (spPW c2)) (CPT : Can P w K mg base 1 "plans_with_time" ["plans", "number", "time"] spPT) (n1 : Num mg "NO_SUCH_NUMBER" (-2)) (n2 : Num mg "RULES_NOT_KEPT" (-6)) (n3 : Num mg "TREE_CANNOT_STAY" (-3)) :
    CanM P w K mg base 5 c3 "keep" ["self", "number"] (spKeep c1 c2 c3) := by
  refine h.can scKeep (fun vs H Q E h => ?_) (fun f cdv A outer s H vs Q E hr h => ?_)
  · obtain ⟨p, g, lh, lt, W, i, rfl, _⟩ := h
    rfl
  · obtain ⟨p, g, lh, lt, W, i, rfl, B, ok, k⟩ := h
    refine ⟨_, pss_cons (ps_if (pt_cmpR op_ge (pv 1) (pe_callB call_len_seq (by rfl) T.len PySem.boot_len (pa_cons (pe_fld (pv 0) rfl) pa_nil)) (nomark _)) (pss_one (ps_ret (pe_lst (pa_cons (pe_num n1 rfl) pa_nil)))) pss_nil)
      (pss_cons (ps_set (i := 2) scKeep.nd rfl (Or.inl rfl) (pe_can CLA hr rfl (pa_cons (pe_fld (pv 0) rfl) (pa_cons (pe_fld (pv 0) rfl) pa_nil))))
      (pss_cons (ps_if (pt_cmpR op_eq (pe_callB call_len_seq (by rfl) T.len PySem.boot_len (pa_cons (pv 2) pa_nil)) pe_int (nomark _)) (pss_one (ps_ret (pe_lst (pa_cons (pe_num n2 rfl) pa_nil)))) pss_nil)
      (pss_cons (ps_set (i := 3) scKeep.nd rfl (Or.inl rfl) (pe_can CBP (hr.mono (by decide)) rfl (pa_cons (pe_fld (pv 0) rfl) (pa_cons (pe_can CPT (hr.mono (by decide)) rfl (pa_cons (pv 2) (pa_cons (pv 1) (pa_cons (pe_callB call_len_seq (by rfl) T.len PySem.boot_len (pa_cons (pe_fld (pv 0) rfl) pa_nil)) pa_nil)))) pa_nil))))
      (pss_cons (ps_if (pt_cmpR op_eq (pe_callB call_len_seq (by rfl) T.len PySem.boot_len (pa_cons (pv 3) pa_nil)) pe_int (nomark _)) (pss_one (ps_ret (pe_lst (pa_cons (pe_num n3 rfl) pa_nil)))) pss_nil)
      (pss_cons (ps_set (i := 4) scKeep.nd rfl (Or.inl rfl) (pe_can CPW (hr.mono (by decide)) rfl (pa_cons (pe_fld (pv 0) rfl) (pa_cons (pe_ix ix_list (pe_can CBP (hr.mono (by decide)) rfl (pa_cons (pe_fld (pv 0) rfl) (pa_cons (pv 2) pa_nil))) pe_int (fun _ _ => rfl)) pa_nil))))
      (pss_one (ps_ret (pe_op op_cat (pe_lst (pa_cons (pe_op op_sub (pv 4) (pe_can CPW (hr.mono (by decide)) rfl (pa_cons (pe_fld (pv 0) rfl) (pa_cons (pe_ix ix_list (pv 3) pe_int (fun _ _ => rfl)) pa_nil)))) (pa_cons (pe_callB call_len_seq (by rfl) T.len PySem.boot_len (pa_cons (pv 3) pa_nil)) pa_nil)))
        (pe_callTy call_list_of (by rfl) T.lst (show bootBuiltins "list" = some (.type "list") by decide +kernel) (pa_cons (pe_ix ix_list (pv 3) pe_int (fun _ _ => rfl)) pa_nil)))))))))), ?_⟩
    obtain ⟨dx, hp⟩ := B.obj
    have es := step_keep (W := W) (i := i)
    obtain ⟨ats, hlt, hallt⟩ := B.trees
    obtain ⟨ahs, hlh, hallh⟩ := B.ths
    have hlent : (ats.map V.ref).length = W.trees.length := by rw [List.length_map]; exact hallt.1
    have hlenh : (ahs.map V.ref).length = W.rounds.length := by rw [List.length_map]; exact hallh.1
    refine ⟨_, rfl, _, rfl, p, c3, dx, _, _, rfl, hp, T.k3, T.n3r, wdF_tr _ _, lt, _, rfl, .inl (SqL.of hlt), _, _, rfl, rfl, _, rfl, ?_⟩
    rw [hlent]
    refine ite2 (fun c => ?_) fun c => ?_
    · have c := of_decide_eq_true c
      rw [if_pos (by omega)] at es
      refine ⟨by show 1 ≤ sizeLine; decide, fun r hr' => ?_⟩
      exact k.pure B (by rw [es]) (same_new hr') hr' (by rw [es, upd_same]; rfl)
    · have c := of_decide_eq_false (Bool.eq_false_iff.mpr c)
      have hi : i < W.trees.length := by omega
      rw [if_neg (by omega)] at es
      refine ⟨_, rfl, p, c3, dx, _, _, rfl, hp, T.k3, T.n3t, wdF_th _ _, _, rfl, p, c3, dx, _, _, rfl, hp, T.k3, T.n3r, wdF_tr _ _,
        lh, lt, W.rounds, W.trees, rfl, B.ths, B.trees, ok.r3, ok.t7, fun r hr' => (ok.rd r hr').1, fun t ht => ⟨(ok.tr t ht).1, (ok.tr t ht).2.1⟩, fun H1 lp s1 Bp => ?_⟩
      rw [Tm.lawful_eq] at Bp
      have hpl := Tm.plans_len ok
      obtain ⟨aps, hlp, hallp⟩ := id Bp
      have hlenp : (aps.map V.ref).length = W.plans.length := by rw [List.length_map]; exact hallp.1
      refine ⟨_, rfl, lp, _, rfl, .inl (SqL.of hlp), rfl, _, rfl, ?_⟩
      rw [hlenp]
      refine ite2 (fun d => ?_) fun d => ?_
      · have d := of_decide_eq_true d
        have d : W.plans.length = 0 := by
          injection d with d
          omega
        have d : Tm.bests W W.plans = [] := by rw [List.length_eq_zero_iff.mp d]; rfl
        rw [d] at es
        refine ⟨by show 1 ≤ sizeLine; decide, fun r hr' => ?_⟩
        exact k.pure B (by rw [es]) (s1.trans (same_new hr')) (s1.free hr') (by rw [es, upd_same]; rfl)
      · have d := of_decide_eq_false (Bool.eq_false_iff.mpr d)
        have d : W.plans ≠ [] := fun z => d (by rw [z]; rfl)
        have hp1 := s1 _ _ hp
        refine ⟨_, rfl, p, c3, dx, _, _, rfl, hp1, T.k3, T.n3r, wdF_tr _ _, _, rfl, _, rfl, _, rfl, p, c3, dx, _, _, rfl, hp1, T.k3, T.n3t, wdF_th _ _, lh, _, rfl, .inl (SqL.of (s1 _ _ hlh)), ?_⟩
        rw [hlenh]
        refine ⟨lp, W.plans, i, W.rounds.length, rfl, Bp, by omega, fun q hq => by rw [(Tm.plans_mem hq).1]; exact hi, fun H2 l2 s2 B2 => ?_⟩
        have s12 := s1.trans s2
        have B2 : PlsAt H2 l2 (W.keeping i) := B2
        have hkl : (W.keeping i).length ≤ 16384 := Nat.le_trans (List.length_filter_le _ _) hpl
        refine ⟨lt, l2, W.rounds, W.trees, W.keeping i, rfl, B.trees.same s12, B2, by omega, fun q hq => plan_ok ok (Tm.keep_sub hq), fun H3 l3 s3 B3 => ?_⟩
        have s13 := s12.trans s3
        have B3 : PlsAt H3 l3 (Tm.bests W (W.keeping i)) := B3
        obtain ⟨aks, hlk, hallk⟩ := B3
        have hlenk : (aks.map V.ref).length = (Tm.bests W (W.keeping i)).length := by rw [List.length_map]; exact hallk.1
        refine ⟨_, rfl, l3, _, rfl, .inl (SqL.of hlk), rfl, _, rfl, ?_⟩
        rw [hlenk]
        cases hb : Tm.bests W W.plans with
        | nil => exact absurd hb (Tm.bests_ne d)
        | cons b0 brest =>
        refine ite2 (fun e => ?_) fun e => ?_
        · have e := of_decide_eq_true e
          have e : (Tm.bests W (W.keeping i)).length = 0 := by
            injection e with e
            omega
          rw [hb, List.length_eq_zero_iff.mp e] at es
          refine ⟨by show 1 ≤ sizeLine; decide, fun r hr' => ?_⟩
          exact k.pure B (by rw [es]) (s13.trans (same_new hr')) (s13.free hr') (by rw [es, upd_same]; rfl)
        · have e := of_decide_eq_false (Bool.eq_false_iff.mpr e)
          cases hb2 : Tm.bests W (W.keeping i) with
          | nil =>
            rw [hb2] at e
            exact absurd rfl e
          | cons q rest =>
            rw [hb, hb2] at es
            rw [hb2] at hallk hlenk
            have hp3 := s13 _ _ hp
            refine ⟨_, rfl, p, c3, dx, _, _, rfl, hp3, T.k3, T.n3r, wdF_tr _ _, _, rfl, p, c3, dx, _, _, rfl, hp3, T.k3, T.n3r, wdF_tr _ _, _, rfl, lt, lp, W.rounds, W.trees, W.plans, rfl, B.trees.same s13, Bp.same (s2.trans s3), by omega, fun q hq => plan_ok ok hq, fun H4 l4 s4 B4 => ?_⟩
            have s14 := s13.trans s4
            have B4 : PlsAt H4 l4 (Tm.bests W W.plans) := B4
            rw [hb] at B4
            obtain ⟨abs, hlb, hallb⟩ := B4
            obtain ⟨a0, ha0, Ta0⟩ := hallb.getR (i := 0) (r := b0) rfl
            have hb0 := bests_mem (W := W) (ps := W.plans) (p := b0) (by rw [hb]; exact List.mem_cons_self ..)
            have b0ok := plan_ok ok hb0.1
            have ew0 : Tm.worthZ W.trees b0 = Tm.most W W.plans := (Tm.worth_eq b0ok.1).trans hb0.2
            refine ⟨l4, _, _, _, rfl, rfl, SqL.of hlb, at_of (j := 0) rfl (ref_at ha0), lt, a0, W.trees, b0, rfl, B.trees.same s14, Ta0, b0ok, fun H5 s5 => ?_⟩
            have s15 := s14.trans s5
            have s35 := s4.trans s5
            rw [ew0]
            obtain ⟨a, ha, Ta⟩ := hallk.getR (i := 0) (r := q) rfl
            have hq := bests_mem (W := W) (ps := W.keeping i) (p := q) (by rw [hb2]; exact List.mem_cons_self ..)
            have qok := plan_ok ok (Tm.keep_sub hq.1)
            have ew : Tm.worthZ W.trees q = Tm.most W (W.keeping i) := (Tm.worth_eq qok.1).trans hq.2
            have hle : Tm.most W (W.keeping i) ≤ Tm.most W W.plans := by
              rw [← hq.2]
              exact Tm.le_most (Tm.keep_sub hq.1)
            have hp5 := s15 _ _ hp
            have ql : q.length ≤ 7 := by rw [qok.1]; exact ok.t7
            have bl : (q :: rest).length ≤ 16384 := by
              rw [← hb2]
              exact Nat.le_trans (List.length_filter_le _ _) hkl
            refine ⟨_, rfl, _, rfl, p, c3, dx, _, _, rfl, hp5, T.k3, T.n3r, wdF_tr _ _, _, rfl, l3, _, _, _, rfl, rfl, SqL.of (s35 _ _ hlk), at_of (j := 0) rfl (ref_at ha), lt, a, W.trees, q, rfl, B.trees.same s15, s35 _ _ Ta, qok, fun H6 s6 => ?_⟩
            have s16 := s15.trans s6
            have s36 := s35.trans s6
            rw [ew]
            refine ⟨_, _, rfl, rfl, _, rfl, l3, _, rfl, .inl (SqL.of (s36 _ _ hlk)), by show 2 ≤ sizeLine; decide, fun r1 hr1 => ?_⟩
            rw [hlenk]
            have s7 := same_new (o := .lst [.int ((Tm.most W W.plans : Nat) - (Tm.most W (W.keeping i) : Nat)), .int ((q :: rest).length : Nat)]) hr1
            have hr1' : (upd H6 r1 (.lst [.int ((Tm.most W W.plans : Nat) - (Tm.most W (W.keeping i) : Nat)), .int ((q :: rest).length : Nat)])) r1 = some (.lst [.int ((Tm.most W W.plans : Nat) - (Tm.most W (W.keeping i) : Nat)), .int ((q :: rest).length : Nat)]) := upd_same
            revert s7 hr1'
            generalize upd H6 r1 (.lst [.int ((Tm.most W W.plans : Nat) - (Tm.most W (W.keeping i) : Nat)), .int ((q :: rest).length : Nat)]) = H7
            intro s7 hr1'
            have s37 := s36.trans s7
            refine ⟨_, rfl, l3, _, _, _, rfl, rfl, SqL.of (s37 _ _ hlk), at_of (j := 0) rfl (ref_at ha), a, _, rfl, .inr (SqT.of (s37 _ _ Ta)), fun r2 hr2 => ?_⟩
            have s8 := same_new (o := .lst (nvs q)) hr2
            refine ⟨r1, r2, _, _, rfl, rfl, s8 _ _ hr1', upd_same, ?_, fun r3 hr3 => ?_⟩
            · rw [nvs_length]
              show 2 + q.length ≤ sizeLine
              exact big' (by omega)
            · refine k.pure B (by rw [es]) (s16.trans (s7.trans (s8.trans (same_new hr3)))) ((s16.trans (s7.trans s8)).free hr3) ?_
              rw [es, upd_same]
              show some (HO.lst (V.int ((Tm.most W W.plans : Int) - (Tm.most W (W.keeping i) : Int)) :: V.int ((q :: rest).length : Nat) :: nvs q)) = some (HO.lst (V.int ((Tm.most W W.plans - Tm.most W (W.keeping i) : Nat) : Int) :: V.int ((q :: rest).length : Nat) :: (Si57.ints q).map V.int))
              rw [ints_nvs, Int.ofNat_sub hle]
/-! ### when -/
theorem step_when {W : SWood} {i : Nat} : Si57.step W (.when_ i) = if W.trees.length ≤ i then (W, Si57.ok (-2)) else (W, match Tm.bests W W.plans with
    | [] => Si57.ok (-6)
    | p :: r => ⟨((p :: r).length : Nat), Si57.ints (W.times i (Tm.most W W.plans))⟩) := by
  show (if W.trees.length ≤ i then (W, Si57.ok (-2)) else (W, match W.best W.plans with
    | none => Si57.ok (-6)
    | some b => ⟨(b.many : Nat), Si57.ints (W.times i b.worth)⟩)) = _
  rw [Tm.best_eq]
  unfold Tm.bestOf
  cases h : Tm.bests W W.plans with
  | nil => rfl
  | cons p r => rfl
def rLenS (K : PySem.W.Frag) : List V → Hp → VK → Prop := fun xs H Q => ∃ p ys, xs = [.ref p] ∧ (SqL K H p ys ∨ SqT K H p ys) ∧ Q (.int ys.length) H
def spWhen (c1 c2 c3 : Addr) : Sp := fun vs H Q _ => ∃ (p g lh lt : Addr) (W : SWood) (i : Nat), vs = [.ref p, nv i] ∧ WdAt c1 c2 c3 H p g lh lt W ∧ Tm.WdOk W ∧ Post c1 c2 c3 H p g lt W (.when_ i) Q
theorem scWhen : FnScope ["self", "number", "best", "counts", "time"] ["self", "number"] (defScope sWhen) := ⟨rfl, rfl, rfl, by decide +kernel, rfl, by decide +kernel, by decide +kernel⟩
theorem can_When (T : Txt K mg c1 c2 c3) (h : HasM K c3 "when" "Wood.when" sWhen ["self", "number"]) (CBP : Can P w K mg base 2 "best_plans" ["trees", "plans"] (spBP c2)) (CLA : Can P w K mg base 4 "lawful_plans" ["thinnings", "trees"] (spLA c1 c2))
    (CPT : Can P w K mg base 1 "plans_with_time" ["plans", "number", "time"] spPT) (n1 : Num mg "NO_SUCH_NUMBER" (-2)) (n2 : Num mg "RULES_NOT_KEPT" (-6)) :
    CanM P w K mg base 5 c3 "when" ["self", "number"] (spWhen c1 c2 c3) := by
  refine h.can scWhen (fun vs H Q E h => ?_) (fun f cdv A outer s H vs Q E hr h => ?_)
  · obtain ⟨p, g, lh, lt, W, i, rfl, _⟩ := h
    rfl
  · obtain ⟨p, g, lh, lt, W, i, rfl, B, ok, k⟩ := h
    refine ⟨_, pss_cons (ps_if (pt_cmpR op_ge (pv 1) (pe_callB call_len_seq (by rfl) T.len PySem.boot_len (pa_cons (pe_fld (pv 0) rfl) pa_nil)) (nomark _)) (pss_one (ps_ret (pe_lst (pa_cons (pe_num n1 rfl) pa_nil)))) pss_nil)
      (pss_cons (ps_set (i := 2) scWhen.nd rfl (Or.inr rfl) (pe_can CBP (hr.mono (by decide)) rfl (pa_cons (pe_fld (pv 0) rfl) (pa_cons (pe_can CLA hr rfl (pa_cons (pe_fld (pv 0) rfl) (pa_cons (pe_fld (pv 0) rfl) pa_nil))) pa_nil))))
      (pss_cons (ps_if (pt_cmpR op_eq (pe_callB call_len_seq (by rfl) T.len PySem.boot_len (pa_cons (pv 2) pa_nil)) pe_int (nomark _)) (pss_one (ps_ret (pe_lst (pa_cons (pe_num n2 rfl) pa_nil)))) pss_nil)
      (pss_cons (ps_setLc (i := 3) (own := [("time", 4)]) rfl scWhen.nd rfl rfl (sw_true rfl rfl rfl rfl) (pi_range1 rfl T.range (pa_cons (pe_op op_add (pe_callB call_len_seq (by rfl) T.len PySem.boot_len (pa_cons (pe_fld (pv 0) rfl) pa_nil)) pe_int) pa_nil))
        (blkOk_by (N := ["self", "number", "best", "counts", "time"]) (sc := defScope sWhen) (by decide +kernel))
        (fun s H C cl fp => pg_name (i := 4) scWhen.nd rfl (Or.inl rfl)) (fun s H C cl fp => pts_nil)
        (fun s H C cl fp => pe_callB (r := rLenS K) call_len_seq (by rfl) T.len PySem.boot_len (pa_cons (pe_can CPT (hr.mono (by decide)) rfl (pa_cons (pv 2) (pa_cons (pv 1) (pa_cons (pv 4) pa_nil)))) pa_nil)))
      (pss_one (ps_ret (pe_op op_cat (pe_lst (pa_cons (pe_callB call_len_seq (by rfl) T.len PySem.boot_len (pa_cons (pv 2) pa_nil)) pa_nil)) (pv 3))))))), ?_⟩
    obtain ⟨dx, hp⟩ := B.obj
    have es := step_when (W := W) (i := i)
    obtain ⟨ats, hlt, hallt⟩ := B.trees
    obtain ⟨ahs, hlh, hallh⟩ := B.ths
    have hlent : (ats.map V.ref).length = W.trees.length := by rw [List.length_map]; exact hallt.1
    have hlenh : (ahs.map V.ref).length = W.rounds.length := by rw [List.length_map]; exact hallh.1
    refine ⟨_, rfl, _, rfl, p, c3, dx, _, _, rfl, hp, T.k3, T.n3r, wdF_tr _ _, lt, _, rfl, .inl (SqL.of hlt), _, _, rfl, rfl, _, rfl, ?_⟩
    rw [hlent]
    refine ite2 (fun c => ?_) fun c => ?_
    · have c := of_decide_eq_true c
      rw [if_pos (by omega)] at es
      refine ⟨by show 1 ≤ sizeLine; decide, fun r hr' => ?_⟩
      exact k.pure B (by rw [es]) (same_new hr') hr' (by rw [es, upd_same]; rfl)
    · have c := of_decide_eq_false (Bool.eq_false_iff.mpr c)
      have hi : i < W.trees.length := by omega
      rw [if_neg (by omega)] at es
      refine ⟨_, rfl, p, c3, dx, _, _, rfl, hp, T.k3, T.n3r, wdF_tr _ _, _, rfl, p, c3, dx, _, _, rfl, hp, T.k3, T.n3t, wdF_th _ _, _, rfl, p, c3, dx, _, _, rfl, hp, T.k3, T.n3r, wdF_tr _ _,
        lh, lt, W.rounds, W.trees, rfl, B.ths, B.trees, ok.r3, ok.t7, fun r hr' => (ok.rd r hr').1, fun t ht => ⟨(ok.tr t ht).1, (ok.tr t ht).2.1⟩, fun H1 lp s1 Bp => ?_⟩
      rw [Tm.lawful_eq] at Bp
      have hpl := Tm.plans_len ok
      refine ⟨lt, lp, W.rounds, W.trees, W.plans, rfl, B.trees.same s1, Bp, by omega, fun q hq => plan_ok ok hq, fun H2 l s2 Bl => ?_⟩
      have s12 := s1.trans s2
      have Bl : PlsAt H2 l (Tm.bests W W.plans) := Bl
      obtain ⟨as, hl, hall⟩ := id Bl
      have hlen : (as.map V.ref).length = (Tm.bests W W.plans).length := by rw [List.length_map]; exact hall.1
      have hbl : (Tm.bests W W.plans).length ≤ 16384 := Nat.le_trans (List.length_filter_le _ _) hpl
      refine ⟨_, rfl, l, _, rfl, .inl (SqL.of hl), rfl, _, rfl, ?_⟩
      rw [hlen]
      refine ite2 (fun d => ?_) fun d => ?_
      · have d := of_decide_eq_true d
        have d : (Tm.bests W W.plans).length = 0 := by
          injection d with d
          omega
        rw [List.length_eq_zero_iff.mp d] at es
        refine ⟨by show 1 ≤ sizeLine; decide, fun r hr' => ?_⟩
        exact k.pure B (by rw [es]) (s12.trans (same_new hr')) (s12.free hr') (by rw [es, upd_same]; rfl)
      · have d := of_decide_eq_false (Bool.eq_false_iff.mpr d)
        have hp2 := s12 _ _ hp
        refine ⟨_, rfl, p, c3, dx, _, _, rfl, hp2, T.k3, T.n3t, wdF_th _ _, lh, _, rfl, .inl (SqL.of (s12 _ _ hlh)), _, _, rfl, rfl, _, rfl, ?_, ?_, fun D hD => ?_⟩
        · rw [hlenh]; omega
        · rw [hlenh]; have := ok.r3; omega
        have en : (((ahs.map V.ref).length : Int) + 1).toNat = W.rounds.length + 1 := by rw [hlenh]; omega
        rw [en]
        let cnt : Nat → Nat := fun t => ((Tm.bests W W.plans).filter fun l => l.getD i 0 == t).length
        refine lc_range (n := W.rounds.length + 1) (fun m H' => Same H2 H' ∧ H' D = some (.lst (nvs ((List.range m).map cnt)))) ⟨same_new hD, upd_same⟩ ?_ ?_
        · rintro m H3 hm ⟨s3, hD3⟩
          refine ⟨rfl, yesT ?_⟩
          refine ⟨_, rfl, _, rfl, _, rfl, l, Tm.bests W W.plans, i, m, ?_, Bl.same s3, by omega, fun q hq => by rw [(Tm.plans_mem (bests_mem hq).1).1]; exact hi, fun H4 l4 s4 B4 => ?_⟩
          · show [V.ref l, nv i, V.int (0 + (m : Int))] = [V.ref l, nv i, V.int (m : Int)]
            rw [Int.zero_add]
          · obtain ⟨a4, hl4, hall4⟩ := B4
            have hlen4 : (a4.map V.ref).length = cnt m := by rw [List.length_map]; exact hall4.1
            refine ⟨l4, _, rfl, .inl (SqL.of hl4), _, s4 _ _ hD3, ?_, fun b o e => ?_, ?_⟩
            · rw [nvs_length, List.length_map, List.length_range]
              have := ok.r3
              exact big (by omega)
            · rw [upd_ne (ne_of_none e hD)]
              exact s4 _ _ (s3 _ _ e)
            · rw [upd_same, hlen4, List.range_succ, List.map_append, List.map_cons, List.map_nil, nvs_snoc]
        · rintro H3 ⟨s3, hD3⟩
          have s13 := s12.trans s3
          have hcl : (nvs ((List.range (W.rounds.length + 1)).map cnt)).length = W.rounds.length + 1 := by rw [nvs_length, List.length_map, List.length_range]
          refine ⟨_, rfl, l, _, rfl, .inl (SqL.of (s3 _ _ hl)), by show 1 ≤ sizeLine; decide, fun r1 hr1 => ?_⟩
          rw [hlen]
          have s4 := same_new (o := .lst [.int ((Tm.bests W W.plans).length : Nat)]) hr1
          refine ⟨_, rfl, r1, D, _, _, rfl, rfl, upd_same, s4 _ _ hD3, ?_, fun r2 hr2 => ?_⟩
          · rw [hcl]
            have := ok.r3
            show 1 + _ ≤ sizeLine
            exact big' (by omega)
          · refine k.pure B (by rw [es]) (s13.trans (s4.trans (same_new hr2))) ((s13.trans s4).free hr2) ?_
            rw [es, upd_same, Tm.times_eq]
            cases hb : Tm.bests W W.plans with
            | nil =>
              rw [hb] at d
              exact absurd rfl d
            | cons q rest =>
              show some (HO.lst (V.int (_ : Nat) :: nvs ((List.range (W.rounds.length + 1)).map cnt))) = some (HO.lst (V.int ((q :: rest).length : Nat) :: (Si57.ints ((List.range (W.rounds.length + 1)).map fun t => (List.filter (fun l => l.getD i 0 == t) (q :: rest)).length)).map V.int))
              rw [ints_nvs, ← hb]
end
end Tt
set_option Elab.async false
set_option linter.all false
set_option maxRecDepth 100000
set_option maxHeartbeats 2000000
namespace Tt
open PySem PySem.Spec PyProof.Rows L2
theorem nats_of : ∀ {zs : List Int}, (∀ y ∈ zs, 0 ≤ y ∧ y < 4294967296) → zs.map V.int = nvs (zs.map Int.toNat)
  | [], _ => rfl
  | y :: zs, h => by
    have h1 := (h y (List.mem_cons_self ..)).1
    have h2 := nats_of (zs := zs) fun x hx => h x (List.mem_cons_of_mem _ hx)
    unfold nvs at h2 ⊢
    rw [List.map_cons, List.map_cons, List.map_cons, h2]
    show V.int y :: _ = V.int ((y.toNat : Nat) : Int) :: _
    rw [Int.toNat_of_nonneg h1]
inductive Case (z : Int) (zs : List Int) : Si57.Call → Prop
  | c0 (ns : List Nat) (rs : List (Nat × Nat)) : z = 0 → zs.map V.int = nvs ns → ns.length ≤ 10 → Si57Neutral.roundsOf ns = some rs → Case z zs (.begins rs)
  | c1 (x y : Nat) (v : List Nat) : z = 1 → zs.map V.int = nvs (x :: y :: v) → Case z zs (.tree ⟨x, y, v⟩)
  | c2 (j : Nat) : z = 2 → zs.map V.int = nvs [j] → Case z zs (.near j)
  | c3 : z = 3 → Case z zs .best
  | c4 (ns : List Nat) : z = 4 → zs.map V.int = nvs ns → Case z zs (.check ns)
  | c5 (i : Nat) : z = 5 → zs.map V.int = nvs [i] → Case z zs (.keep i)
  | c6 (i : Nat) : z = 6 → zs.map V.int = nvs [i] → Case z zs (.when_ i)
theorem case_of {z : Int} {zs : List Int} {q : Si57.Call} (h0 : 0 ≤ z) (hz : ∀ y ∈ zs, 0 ≤ y ∧ y < 4294967296) (h : Si57Neutral.callOf (z :: zs) = some q) : Case z zs q := by
  have ez := nats_of hz
  have e0 : z = ((z.toNat : Nat) : Int) := (Int.toNat_of_nonneg h0).symm
  unfold Si57Neutral.callOf at h
  rw [List.map_cons] at h
  revert h ez e0
  generalize z.toNat = n
  generalize zs.map Int.toNat = ns
  intro h ez e0
  split at h
  · next r e =>
    injection e with e1 e2
    subst e1 e2
    by_cases c : ns.length ≤ 10
    · rw [if_pos c] at h
      cases hr : Si57Neutral.roundsOf ns with
      | none => rw [hr] at h; cases h
      | some rs =>
        rw [hr] at h
        cases h
        exact .c0 ns rs e0 ez c hr
    · rw [if_neg c] at h
      cases h
  · next x y v e =>
    injection e with e1 e2
    subst e1 e2
    by_cases c : v.length ≤ 6
    · rw [if_pos c] at h
      cases h
      exact .c1 x y v e0 ez
    · rw [if_neg c] at h
      cases h
  · next j e =>
    injection e with e1 e2
    subst e1 e2
    cases h
    exact .c2 j e0 ez
  · next e =>
    injection e with e1 e2
    subst e1 e2
    cases h
    exact .c3 e0
  · next r e =>
    injection e with e1 e2
    subst e1 e2
    by_cases c : ns.length ≤ 10
    · rw [if_pos c] at h
      cases h
      exact .c4 ns e0 ez
    · rw [if_neg c] at h
      cases h
  · next j e =>
    injection e with e1 e2
    subst e1 e2
    cases h
    exact .c5 j e0 ez
  · next j e =>
    injection e with e1 e2
    subst e1 e2
    cases h
    exact .c6 j e0 ez
  · cases h
section
variable {P : Program} {w : World} {K : PySem.W.Frag} {mg : Str → Option Value} {base : Heap} {c1 c2 c3 : Addr}
theorem scAT : FnScope ["wood", "call", "numbers"] ["wood", "call", "numbers"] (defScope sAT) := ⟨rfl, rfl, rfl, by decide +kernel, rfl, by decide +kernel, by decide +kernel⟩
theorem can_AT (T : Txt K mg c1 c2 c3) (h : HasF K mg "answer_to" "answer_to" sAT ["wood", "call", "numbers"]) (M0 : CanM P w K mg base 4 c3 "begin" ["self", "numbers"] (spBeg c1 c2 c3)) (M1 : CanM P w K mg base 3 c3 "plant" ["self", "numbers"] (spPla c1 c2 c3))
    (M2 : CanM P w K mg base 3 c3 "near" ["self", "number"] (spNear c1 c2 c3)) (M3 : CanM P w K mg base 5 c3 "best" ["self"] (spBest c1 c2 c3)) (M4 : CanM P w K mg base 5 c3 "check" ["self", "plan"] (spCheck c1 c2 c3))
    (M5 : CanM P w K mg base 5 c3 "keep" ["self", "number"] (spKeep c1 c2 c3)) (M6 : CanM P w K mg base 5 c3 "when" ["self", "number"] (spWhen c1 c2 c3))
    (n0 : Num mg "BEGINS" 0) (n1 : Num mg "TREE" 1) (n2 : Num mg "NEAR" 2) (n3 : Num mg "BEST" 3) (n4 : Num mg "CHECK" 4) (n5 : Num mg "KEEP" 5) (n6 : Num mg "WHEN" 6) :
    Can P w K mg base 6 "answer_to" ["wood", "call", "numbers"] (spAT c1 c2 c3) := by
  refine h.can scAT (fun vs H Q E h => ?_) (fun f cdv A outer s H vs Q E hr h => ?_)
  · obtain ⟨p, g, lh, lt, l, W, z, zs, q, rfl, _⟩ := h
    rfl
  · obtain ⟨p, g, lh, lt, l, W, z, zs, q, rfl, B, ok, hg, hl, hz, hzs, hq, k⟩ := h
    refine ⟨_, pss_cons (ps_if (pt_cmpR op_eq (pv 1) (pe_num n0 rfl) (nomark _)) (pss_one (ps_ret (pe_canM M0 (pv 0) T.k3 (hr.mono (by decide)) (pa_cons (pv 2) pa_nil)))) pss_nil)
      (pss_cons (ps_if (pt_cmpR op_eq (pv 1) (pe_num n1 rfl) (nomark _)) (pss_one (ps_ret (pe_canM M1 (pv 0) T.k3 (hr.mono (by decide)) (pa_cons (pv 2) pa_nil)))) pss_nil)
      (pss_cons (ps_if (pt_cmpR op_eq (pv 1) (pe_num n2 rfl) (nomark _)) (pss_one (ps_ret (pe_canM M2 (pv 0) T.k3 (hr.mono (by decide)) (pa_cons (pe_ix ix_list (pv 2) pe_int (fun _ _ => rfl)) pa_nil)))) pss_nil)
      (pss_cons (ps_if (pt_cmpR op_eq (pv 1) (pe_num n3 rfl) (nomark _)) (pss_one (ps_ret (pe_canM0 M3 (pv 0) T.k3 hr))) pss_nil)
      (pss_cons (ps_if (pt_cmpR op_eq (pv 1) (pe_num n4 rfl) (nomark _)) (pss_one (ps_ret (pe_canM M4 (pv 0) T.k3 hr (pa_cons (pv 2) pa_nil)))) pss_nil)
      (pss_cons (ps_if (pt_cmpR op_eq (pv 1) (pe_num n5 rfl) (nomark _)) (pss_one (ps_ret (pe_canM M5 (pv 0) T.k3 hr (pa_cons (pe_ix ix_list (pv 2) pe_int (fun _ _ => rfl)) pa_nil)))) pss_nil)
      (pss_cons (ps_if (pt_cmpR op_eq (pv 1) (pe_num n6 rfl) (nomark _)) (pss_one (ps_ret (pe_canM M6 (pv 0) T.k3 hr (pa_cons (pe_ix ix_list (pv 2) pe_int (fun _ _ => rfl)) pa_nil)))) pss_nil)
      pss_never)))))), ?_⟩
    obtain ⟨dx, hp⟩ := B.obj
    cases case_of hz hzs hq with
    | c0 ns rs e ez hn hrs =>
      subst e
      rw [ez] at hl
      refine ⟨_, rfl, rfl, _, rfl, iteT ?_⟩
      exact ⟨_, rfl, p, dx, _, rfl, hp, wdF_no _ _ (by decide +kernel) (by decide +kernel), _, rfl, p, g, lh, lt, l, W, ns, rs, rfl, B, hg, hl, by omega, hrs, k⟩
    | c1 x y v e ez =>
      subst e
      rw [ez] at hl
      refine ⟨_, rfl, rfl, _, rfl, iteF ?_⟩
      refine ⟨_, rfl, rfl, _, rfl, iteT ?_⟩
      exact ⟨_, rfl, p, dx, _, rfl, hp, wdF_no _ _ (by decide +kernel) (by decide +kernel), _, rfl, p, g, lh, lt, l, W, x, y, v, rfl, B, ok, hg, hl, k⟩
    | c2 j e ez =>
      subst e
      rw [ez] at hl
      refine ⟨_, rfl, rfl, _, rfl, iteF ?_⟩
      refine ⟨_, rfl, rfl, _, rfl, iteF ?_⟩
      refine ⟨_, rfl, rfl, _, rfl, iteT ?_⟩
      exact ⟨_, rfl, p, dx, _, rfl, hp, wdF_no _ _ (by decide +kernel) (by decide +kernel), _, rfl, l, _, _, _, rfl, rfl, SqL.of hl, at_of (j := 0) rfl rfl, p, g, lh, lt, W, j, rfl, B, ok, k⟩
    | c3 e =>
      subst e
      refine ⟨_, rfl, rfl, _, rfl, iteF ?_⟩
      refine ⟨_, rfl, rfl, _, rfl, iteF ?_⟩
      refine ⟨_, rfl, rfl, _, rfl, iteF ?_⟩
      refine ⟨_, rfl, rfl, _, rfl, iteT ?_⟩
      exact ⟨_, rfl, p, dx, _, rfl, hp, wdF_no _ _ (by decide +kernel) (by decide +kernel), p, g, lh, lt, W, rfl, B, ok, k⟩
    | c4 ns e ez =>
      subst e
      rw [ez] at hl
      refine ⟨_, rfl, rfl, _, rfl, iteF ?_⟩
      refine ⟨_, rfl, rfl, _, rfl, iteF ?_⟩
      refine ⟨_, rfl, rfl, _, rfl, iteF ?_⟩
      refine ⟨_, rfl, rfl, _, rfl, iteF ?_⟩
      refine ⟨_, rfl, rfl, _, rfl, iteT ?_⟩
      exact ⟨_, rfl, p, dx, _, rfl, hp, wdF_no _ _ (by decide +kernel) (by decide +kernel), _, rfl, p, g, lh, lt, l, W, ns, rfl, B, ok, hl, k⟩
    | c5 i e ez =>
      subst e
      rw [ez] at hl
      refine ⟨_, rfl, rfl, _, rfl, iteF ?_⟩
      refine ⟨_, rfl, rfl, _, rfl, iteF ?_⟩
      refine ⟨_, rfl, rfl, _, rfl, iteF ?_⟩
      refine ⟨_, rfl, rfl, _, rfl, iteF ?_⟩
      refine ⟨_, rfl, rfl, _, rfl, iteF ?_⟩
      refine ⟨_, rfl, rfl, _, rfl, iteT ?_⟩
      exact ⟨_, rfl, p, dx, _, rfl, hp, wdF_no _ _ (by decide +kernel) (by decide +kernel), _, rfl, l, _, _, _, rfl, rfl, SqL.of hl, at_of (j := 0) rfl rfl, p, g, lh, lt, W, i, rfl, B, ok, k⟩
    | c6 i e ez =>
      subst e
      rw [ez] at hl
      refine ⟨_, rfl, rfl, _, rfl, iteF ?_⟩
      refine ⟨_, rfl, rfl, _, rfl, iteF ?_⟩
      refine ⟨_, rfl, rfl, _, rfl, iteF ?_⟩
      refine ⟨_, rfl, rfl, _, rfl, iteF ?_⟩
      refine ⟨_, rfl, rfl, _, rfl, iteF ?_⟩
      refine ⟨_, rfl, rfl, _, rfl, iteF ?_⟩
      refine ⟨_, rfl, rfl, _, rfl, iteT ?_⟩
      exact ⟨_, rfl, p, dx, _, rfl, hp, wdF_no _ _ (by decide +kernel) (by decide +kernel), _, rfl, l, _, _, _, rfl, rfl, SqL.of hl, at_of (j := 0) rfl rfl, p, g, lh, lt, W, i, rfl, B, ok, k⟩
end
end Tt
set_option Elab.async false
set_option linter.all false
set_option maxRecDepth 100000
set_option maxHeartbeats 2000000
namespace Tt
open PySem PySem.Spec PyProof.Rows L2
def BindOk (x qual : Str) (st : Stmt) (ps : List Str) : Prop := ∀ (kV doc pm : Value) (an : Option Addr) (cdv ct : Value) (us : List Value), us.length = ps.length →
  bindArgs (PySem.W.fnOf x qual (defArgs st) (defBody st) (defScope st) .none kV doc pm an cdv ct) ⟨us, []⟩ = pure (ps.zip us)
section
variable {K : PySem.W.Frag} {h : Heap} {mg : Str → Option Value} {x qual : Str} {st : Stmt} {ps : List Str} {f C : Addr} {oc : Value} {od an : Option Addr} {sl : Array (Option Value)} {kV doc pm cdv ct : Value}
theorem has_f (hb : BindOk x qual st ps) (X : K.In h) (G : h.Ns mainGlobals mg) (a : PySem.W.nsIn K mainGlobals x = some (some (.ref f)))
    (l : K.lookup f = some ⟨oc, od, .func (PySem.W.fnOf x qual (defArgs st) (defBody st) (defScope st) .none kV doc pm an cdv ct), sl⟩) (c : PySem.W.codeIn K cdv qual = true) (k : PySem.W.keepIn K (.ref f) = true) : HasF K mg x qual st ps :=
  ⟨f, _, PySem.W.mg_of X G a, fun_mk l c k, (fun_mk l c k).binds hb⟩
theorem has_m (hb : BindOk x qual st ps) (a : PySem.W.findIn K (.ref C) x = some (some (.ref f))) (i : PySem.W.isFn K (.ref f) = true)
    (l : K.lookup f = some ⟨oc, od, .func (PySem.W.fnOf x qual (defArgs st) (defBody st) (defScope st) .none kV doc pm an cdv ct), sl⟩) (c : PySem.W.codeIn K cdv qual = true) (k : PySem.W.keepIn K (.ref f) = true) : HasM K C x qual st ps :=
  ⟨f, _, ⟨a, i, k⟩, fun_mk l c k, (fun_mk l c k).binds hb⟩
theorem has_c {y : Str} (hb : BindOk "__init__" qual st ps) (X : K.In h) (G : h.Ns mainGlobals mg) (aC : PySem.W.nsIn K mainGlobals y = some (some (.ref C))) (a : PySem.W.findIn K (.ref C) "__init__" = some (some (.ref f))) (i : PySem.W.isFn K (.ref f) = true)
    (l : K.lookup f = some ⟨oc, od, .func (PySem.W.fnOf "__init__" qual (defArgs st) (defBody st) (defScope st) .none kV doc pm an cdv ct), sl⟩) (c : PySem.W.codeIn K cdv qual = true) (k : PySem.W.keepIn K (.ref f) = true)
    (mk : PySem.W.makesIn K C = true) (kc : PySem.W.keepIn K (.ref C) = true) : HasC K mg y C qual st ps :=
  ⟨f, _, PySem.W.mg_of X G aC, ⟨mk, a, i, kc⟩, fun_mk l c k, (fun_mk l c k).binds hb⟩
theorem num_of {n : Int} {t : Tok} (X : K.In h) (G : h.Ns mainGlobals mg) (a : PySem.W.nsIn K mainGlobals x = some (some (.int n t))) : Num mg x n := ⟨t, PySem.W.mg_of X G a⟩
end
theorem b_TN : BindOk "too_near" "too_near" sTN ["tree", "other", "gap"] := fun _ _ _ _ _ _ us hl => match us, hl with | [_, _, _], _ => rfl
theorem b_NP : BindOk "near_pairs" "near_pairs" sNP ["trees", "gap"] := fun _ _ _ _ _ _ us hl => match us, hl with | [_, _], _ => rfl
theorem b_FN : BindOk "first_too_near" "first_too_near" sFN ["thinnings", "tree", "other"] := fun _ _ _ _ _ _ us hl => match us, hl with | [_, _, _], _ => rfl
theorem b_HR : BindOk "has_room" "has_room" sHR ["plan", "time", "limits"] := fun _ _ _ _ _ _ us hl => match us, hl with | [_, _, _], _ => rfl
theorem b_LP : BindOk "longer_plans" "longer_plans" sLP ["plans", "limits", "last_time"] := fun _ _ _ _ _ _ us hl => match us, hl with | [_, _, _], _ => rfl
theorem b_SP : BindOk "spaced_plans" "spaced_plans" sSP ["thinnings", "trees"] := fun _ _ _ _ _ _ us hl => match us, hl with | [_, _], _ => rfl
theorem b_HS : BindOk "how_many_stay" "how_many_stay" sHS ["plan", "number"] := fun _ _ _ _ _ _ us hl => match us, hl with | [_, _], _ => rfl
theorem b_ES : BindOk "enough_stay" "enough_stay" sES ["thinnings", "plan"] := fun _ _ _ _ _ _ us hl => match us, hl with | [_, _], _ => rfl
theorem b_FB : BindOk "fault_behind" "fault_behind" sFB ["thinning", "number", "trees", "plan"] := fun _ _ _ _ _ _ us hl => match us, hl with | [_, _, _, _], _ => rfl
theorem b_FF : BindOk "first_fault" "first_fault" sFF ["thinnings", "trees", "plan"] := fun _ _ _ _ _ _ us hl => match us, hl with | [_, _, _], _ => rfl
theorem b_LA : BindOk "lawful_plans" "lawful_plans" sLA ["thinnings", "trees"] := fun _ _ _ _ _ _ us hl => match us, hl with | [_, _], _ => rfl
theorem b_PW : BindOk "plan_worth" "plan_worth" sPW ["trees", "plan"] := fun _ _ _ _ _ _ us hl => match us, hl with | [_, _], _ => rfl
theorem b_BP : BindOk "best_plans" "best_plans" sBP ["trees", "plans"] := fun _ _ _ _ _ _ us hl => match us, hl with | [_, _], _ => rfl
theorem b_PT : BindOk "plans_with_time" "plans_with_time" sPT ["plans", "number", "time"] := fun _ _ _ _ _ _ us hl => match us, hl with | [_, _, _], _ => rfl
theorem b_TF : BindOk "thinnings_from" "thinnings_from" sTF ["numbers"] := fun _ _ _ _ _ _ us hl => match us, hl with | [_], _ => rfl
theorem b_TA : BindOk "thinnings_as_told" "thinnings_as_told" sTA ["thinnings"] := fun _ _ _ _ _ _ us hl => match us, hl with | [_], _ => rfl
theorem b_TRA : BindOk "tree_as_told" "tree_as_told" sTRA ["tree", "thinnings"] := fun _ _ _ _ _ _ us hl => match us, hl with | [_, _], _ => rfl
theorem b_PA : BindOk "plan_as_told" "plan_as_told" sPA ["plan", "thinnings", "trees"] := fun _ _ _ _ _ _ us hl => match us, hl with | [_, _, _], _ => rfl
theorem b_AT : BindOk "answer_to" "answer_to" sAT ["wood", "call", "numbers"] := fun _ _ _ _ _ _ us hl => match us, hl with | [_, _, _], _ => rfl
theorem b_Beg : BindOk "begin" "Wood.begin" sBeg ["self", "numbers"] := fun _ _ _ _ _ _ us hl => match us, hl with | [_, _], _ => rfl
theorem b_Pla : BindOk "plant" "Wood.plant" sPla ["self", "numbers"] := fun _ _ _ _ _ _ us hl => match us, hl with | [_, _], _ => rfl
theorem b_Near : BindOk "near" "Wood.near" sNear ["self", "number"] := fun _ _ _ _ _ _ us hl => match us, hl with | [_, _], _ => rfl
theorem b_Best : BindOk "best" "Wood.best" sBest ["self"] := fun _ _ _ _ _ _ us hl => match us, hl with | [_], _ => rfl
theorem b_Check : BindOk "check" "Wood.check" sCheck ["self", "plan"] := fun _ _ _ _ _ _ us hl => match us, hl with | [_, _], _ => rfl
theorem b_Keep : BindOk "keep" "Wood.keep" sKeep ["self", "number"] := fun _ _ _ _ _ _ us hl => match us, hl with | [_, _], _ => rfl
theorem b_When : BindOk "when" "Wood.when" sWhen ["self", "number"] := fun _ _ _ _ _ _ us hl => match us, hl with | [_, _], _ => rfl
theorem b_ThI : BindOk "__init__" "Thinning.__init__" sThI ["self", "gap", "needed"] := fun _ _ _ _ _ _ us hl => match us, hl with | [_, _, _], _ => rfl
theorem b_TrI : BindOk "__init__" "Tree.__init__" sTrI ["self", "first", "second", "worths"] := fun _ _ _ _ _ _ us hl => match us, hl with | [_, _, _, _], _ => rfl
theorem b_WI : BindOk "__init__" "Wood.__init__" sWI ["self"] := fun _ _ _ _ _ _ us hl => match us, hl with | [_], _ => rfl
theorem all_mk {P : Program} {w : World} {K : PySem.W.Frag} {h : Heap} {mg : Str → Option Value} {fa c1 c2 c3 fA : Addr} {oc : Value} {od an : Option Addr} {sl : Array (Option Value)} {kV doc pm cdv ct : Value} (X : K.In h) (G : h.Ns mainGlobals mg) (hfa : mg "answers" = some (.ref fa))
    (ac1 : PySem.W.nsIn K mainGlobals "Thinning" = some (some (.ref c1)))
    (ac2 : PySem.W.nsIn K mainGlobals "Tree" = some (some (.ref c2)))
    (ac3 : PySem.W.nsIn K mainGlobals "Wood" = some (some (.ref c3)))
    (k1 : Cls K c1) (k2 : Cls K c2) (k3 : Cls K c3) (n1g : NoAttr K c1 "gap") (n1n : NoAttr K c1 "needed") (n2f : NoAttr K c2 "first") (n2s : NoAttr K c2 "second") (n2w : NoAttr K c2 "worths") (n3t : NoAttr K c3 "thinnings") (n3r : NoAttr K c3 "trees")
    (len : PySem.W.nsIn K mainGlobals "len" = some none) (range : PySem.W.nsIn K mainGlobals "range" = some none) (enum : PySem.W.nsIn K mainGlobals "enumerate" = some none) (zip : PySem.W.nsIn K mainGlobals "zip" = some none) (lst : PySem.W.nsIn K mainGlobals "list" = some none)
    (hThI : HasC K mg "Thinning" c1 "Thinning.__init__" sThI ["self", "gap", "needed"])
    (hTrI : HasC K mg "Tree" c2 "Tree.__init__" sTrI ["self", "first", "second", "worths"])
    (hWI : HasC K mg "Wood" c3 "Wood.__init__" sWI ["self"])
    (hTN : HasF K mg "too_near" "too_near" sTN ["tree", "other", "gap"])
    (hNP : HasF K mg "near_pairs" "near_pairs" sNP ["trees", "gap"])
    (hFN : HasF K mg "first_too_near" "first_too_near" sFN ["thinnings", "tree", "other"])
    (hHR : HasF K mg "has_room" "has_room" sHR ["plan", "time", "limits"])
    (hLP : HasF K mg "longer_plans" "longer_plans" sLP ["plans", "limits", "last_time"])
    (hSP : HasF K mg "spaced_plans" "spaced_plans" sSP ["thinnings", "trees"])
    (hHS : HasF K mg "how_many_stay" "how_many_stay" sHS ["plan", "number"])
    (hES : HasF K mg "enough_stay" "enough_stay" sES ["thinnings", "plan"])
    (hFB : HasF K mg "fault_behind" "fault_behind" sFB ["thinning", "number", "trees", "plan"])
    (hFF : HasF K mg "first_fault" "first_fault" sFF ["thinnings", "trees", "plan"])
    (hLA : HasF K mg "lawful_plans" "lawful_plans" sLA ["thinnings", "trees"])
    (hPW : HasF K mg "plan_worth" "plan_worth" sPW ["trees", "plan"])
    (hBP : HasF K mg "best_plans" "best_plans" sBP ["trees", "plans"])
    (hPT : HasF K mg "plans_with_time" "plans_with_time" sPT ["plans", "number", "time"])
    (hTF : HasF K mg "thinnings_from" "thinnings_from" sTF ["numbers"])
    (hTA : HasF K mg "thinnings_as_told" "thinnings_as_told" sTA ["thinnings"])
    (hTRA : HasF K mg "tree_as_told" "tree_as_told" sTRA ["tree", "thinnings"])
    (hPA : HasF K mg "plan_as_told" "plan_as_told" sPA ["plan", "thinnings", "trees"])
    (hAT : HasF K mg "answer_to" "answer_to" sAT ["wood", "call", "numbers"])
    (hBeg : HasM K c3 "begin" "Wood.begin" sBeg ["self", "numbers"])
    (hPla : HasM K c3 "plant" "Wood.plant" sPla ["self", "numbers"])
    (hNear : HasM K c3 "near" "Wood.near" sNear ["self", "number"])
    (hBest : HasM K c3 "best" "Wood.best" sBest ["self"])
    (hCheck : HasM K c3 "check" "Wood.check" sCheck ["self", "plan"])
    (hKeep : HasM K c3 "keep" "Wood.keep" sKeep ["self", "number"])
    (hWhen : HasM K c3 "when" "Wood.when" sWhen ["self", "number"])
    (xBEGINS : Num mg "BEGINS" 0)
    (xTREE : Num mg "TREE" 1)
    (xNEAR : Num mg "NEAR" 2)
    (xBEST : Num mg "BEST" 3)
    (xCHECK : Num mg "CHECK" 4)
    (xKEEP : Num mg "KEEP" 5)
    (xWHEN : Num mg "WHEN" 6)
    (xNOT_AS_TOLD : Num mg "NOT_AS_TOLD" (-1))
    (xNO_SUCH_NUMBER : Num mg "NO_SUCH_NUMBER" (-2))
    (xTREE_CANNOT_STAY : Num mg "TREE_CANNOT_STAY" (-3))
    (xWOOD_IS_FULL : Num mg "WOOD_IS_FULL" (-5))
    (xRULES_NOT_KEPT : Num mg "RULES_NOT_KEPT" (-6))
    (xMOST_THINNINGS : Num mg "MOST_THINNINGS" 3)
    (xMOST_TREES : Num mg "MOST_TREES" 7)
    (xGREATEST_GAP : Num mg "GREATEST_GAP" 2000)
    (xGREATEST_PLACE : Num mg "GREATEST_PLACE" 1000)
    (xGREATEST_WORTH : Num mg "GREATEST_WORTH" 1000000)
    (aA : PySem.W.nsIn K mainGlobals "answers" = some (some (.ref fA))) (lA : K.lookup fA = some ⟨oc, od, .func (PySem.W.fnOf "answers" "answers" (defArgs sAns) (defBody sAns) (defScope sAns) .none kV doc pm an cdv ct), sl⟩) (cA : PySem.W.codeIn K cdv "answers" = true) (kA : PySem.W.keepIn K (.ref fA) = true) :
    ∃ fd : FuncData, (∀ (s : Shared) (us : List Value), us.length = (["calls"] : List Str).length → BindsTo s fd ⟨us, []⟩ ((["calls"] : List Str).zip us)) ∧ ∀ base : Heap, K.In base → base.Ns mainGlobals mg → FnOk P w K mg base CX0 8 fa fd ["calls"] (spAns K) := by
  have e := hfa.symm.trans (PySem.W.mg_of X G aA)
  cases e
  have T : Txt K mg c1 c2 c3 := ⟨k1, n1g, n1n, k2, n2f, n2s, n2w, k3, n3t, n3r, PySem.W.mg_none_of X G len, PySem.W.mg_none_of X G range, PySem.W.mg_none_of X G enum, PySem.W.mg_none_of X G zip, PySem.W.mg_none_of X G lst⟩
  refine ⟨PySem.W.fnOf "answers" "answers" (defArgs sAns) (defBody sAns) (defScope sAns) .none kV doc pm an cdv ct, fun s us hu => match us, hu with | [_], _ => .of_eq rfl, fun base _ _ => ?_⟩
  have CThI : CanMk P w K mg base 1 "Thinning" c1 _ _ := can_ThI T hThI
  have CTrI : CanMk P w K mg base 1 "Tree" c2 _ _ := can_TrI T hTrI
  have CTN : Can P w K mg base 1 "too_near" _ _ := can_TN T hTN
  have CNP := can_NP T hNP CTN
  have CFN := can_FN T hFN CTN
  have CHR : Can P w K mg base 1 "has_room" _ _ := can_HR T hHR
  have CLP := can_LP T hLP CHR
  have CSP := can_SP T hSP CFN CLP
  have CHS : Can P w K mg base 1 "how_many_stay" _ _ := can_HS T hHS
  have CES := can_ES T hES CHS
  have CLA := can_LA T hLA CSP CES
  have CPW : Can P w K mg base 1 "plan_worth" _ _ := can_PW T hPW
  have CBP := can_BP T hBP CPW
  have CHSL : Can P w K mg base 1 "how_many_stay" _ _ := can_HSL T hHS
  have CPWL : Can P w K mg base 1 "plan_worth" _ _ := can_PWL T hPW
  have CFB := can_FB T hFB CNP CHSL
  have CFF := can_FF T hFF CFB
  have CPT : Can P w K mg base 1 "plans_with_time" _ _ := can_PT T hPT
  have CTF := can_TF T hTF CThI
  have CTA : Can P w K mg base 1 "thinnings_as_told" _ _ := can_TA T hTA xMOST_THINNINGS xGREATEST_GAP xMOST_TREES
  have CTRA : Can P w K mg base 1 "tree_as_told" _ _ := can_TRA T hTRA xGREATEST_PLACE xGREATEST_WORTH
  have CPA : Can P w K mg base 1 "plan_as_told" _ _ := can_PA T hPA
  have CWI := can_WI T hWI CThI
  have M0 := can_Beg T hBeg CTF CTA xNOT_AS_TOLD
  have M1 := can_Pla T hPla CTrI CTRA xNOT_AS_TOLD xMOST_TREES xWOOD_IS_FULL
  have M2 := can_Near T hNear CNP xNO_SUCH_NUMBER
  have M3 := can_Best T hBest CBP CLA CPW xRULES_NOT_KEPT
  have M4 := can_Check T hCheck CPA CFF CPWL xNOT_AS_TOLD xRULES_NOT_KEPT
  have M5 := can_Keep T hKeep CBP CLA CPW CPT xNO_SUCH_NUMBER xRULES_NOT_KEPT xTREE_CANNOT_STAY
  have M6 := can_When T hWhen CBP CLA CPT xNO_SUCH_NUMBER xRULES_NOT_KEPT
  have CAT := can_AT T hAT M0 M1 M2 M3 M4 M5 M6 xBEGINS xTREE xNEAR xBEST xCHECK xKEEP xWHEN
  exact ok_Ans T (n := 6) (by decide) (fun_mk (st := sAns) lA cA kA) CWI CAT
end Tt
open PySem PySem.W PyProof.Rows
set_option Elab.async false
set_option linter.all false
set_option maxRecDepth 100000 in
set_option maxHeartbeats 0 in
theorem PySem.Challenge.cw_treethinning_s01_answers_holds : PySem.Challenge.rw_treethinning_s01_answers.Holds := by
  w_on; k_headS; (case hw => exact ⟨[.list [.int 3, .int 0, .int 0]], by decide +kernel, by decide +kernel⟩)
  k_fillS
  refine L2.walk_specK (r := PySem.Challenge.rw_treethinning_s01_answers) (k := 8) (CX := L2.CX0) (ps := ["calls"]) (sp := Tt.spAns) (by decide +kernel) rfl rfl ⟨rfl, by decide, by decide⟩ (fun w h Y => PySem.W.kIn_of Y) ?F ?S (fun _ _ _ _ z => z)
  case F =>
    intro w mg fa h Y KX G hmg
    refine' Tt.all_mk KX G hmg ?ac1 ?ac2 ?ac3 ?k1 ?k2 ?k3 ?n1g ?n1n ?n2f ?n2s ?n2w ?n3t ?n3r ?blen ?brange ?benum ?bzip ?blst ?hThI ?hTrI ?hWI ?hTN ?hNP ?hFN ?hHR ?hLP ?hSP ?hHS ?hES ?hFB ?hFF ?hLA ?hPW ?hBP ?hPT ?hTF ?hTA ?hTRA ?hPA ?hAT ?hBeg ?hPla ?hNear ?hBest ?hCheck ?hKeep ?hWhen ?xBEGINS ?xTREE ?xNEAR ?xBEST ?xCHECK ?xKEEP ?xWHEN ?xNOT_AS_TOLD ?xNO_SUCH_NUMBER ?xTREE_CANNOT_STAY ?xWOOD_IS_FULL ?xRULES_NOT_KEPT ?xMOST_THINNINGS ?xMOST_TREES ?xGREATEST_GAP ?xGREATEST_PLACE ?xGREATEST_WORTH ?aA ?lA ?cA ?kA
    (case ac1 => k_is)
    (case ac2 => k_is)
    (case ac3 => k_is)
    (case k1 => refine' ⟨?p1, ?p2, ?p3, ?p4⟩; (case p1 => k_is); (case p2 => k_is); (case p3 => k_is); (case p4 => k_is))
    (case k2 => refine' ⟨?p1, ?p2, ?p3, ?p4⟩; (case p1 => k_is); (case p2 => k_is); (case p3 => k_is); (case p4 => k_is))
    (case k3 => refine' ⟨?p1, ?p2, ?p3, ?p4⟩; (case p1 => k_is); (case p2 => k_is); (case p3 => k_is); (case p4 => k_is))
    (case n1g => unfold L2.NoAttr; k_is)
    (case n1n => unfold L2.NoAttr; k_is)
    (case n2f => unfold L2.NoAttr; k_is)
    (case n2s => unfold L2.NoAttr; k_is)
    (case n2w => unfold L2.NoAttr; k_is)
    (case n3t => unfold L2.NoAttr; k_is)
    (case n3r => unfold L2.NoAttr; k_is)
    (case blen => k_is)
    (case brange => k_is)
    (case benum => k_is)
    (case bzip => k_is)
    (case blst => k_is)
    (case hThI => refine' Tt.has_c Tt.b_ThI KX G ?q0 ?q1 ?q2 ?q3 ?q4 ?q5 ?q6 ?q7; (case q0 => k_is); (case q1 => k_is); (case q2 => k_is); (case q3 => k_is); (case q4 => k_is); (case q5 => k_is); (case q6 => k_is); (case q7 => k_is))
    (case hTrI => refine' Tt.has_c Tt.b_TrI KX G ?q0 ?q1 ?q2 ?q3 ?q4 ?q5 ?q6 ?q7; (case q0 => k_is); (case q1 => k_is); (case q2 => k_is); (case q3 => k_is); (case q4 => k_is); (case q5 => k_is); (case q6 => k_is); (case q7 => k_is))
    (case hWI => refine' Tt.has_c Tt.b_WI KX G ?q0 ?q1 ?q2 ?q3 ?q4 ?q5 ?q6 ?q7; (case q0 => k_is); (case q1 => k_is); (case q2 => k_is); (case q3 => k_is); (case q4 => k_is); (case q5 => k_is); (case q6 => k_is); (case q7 => k_is))
    (case hTN => refine' Tt.has_f Tt.b_TN KX G ?q1 ?q2 ?q3 ?q4; (case q1 => k_is); (case q2 => k_is); (case q3 => k_is); (case q4 => k_is))
    (case hNP => refine' Tt.has_f Tt.b_NP KX G ?q1 ?q2 ?q3 ?q4; (case q1 => k_is); (case q2 => k_is); (case q3 => k_is); (case q4 => k_is))
    (case hFN => refine' Tt.has_f Tt.b_FN KX G ?q1 ?q2 ?q3 ?q4; (case q1 => k_is); (case q2 => k_is); (case q3 => k_is); (case q4 => k_is))
    (case hHR => refine' Tt.has_f Tt.b_HR KX G ?q1 ?q2 ?q3 ?q4; (case q1 => k_is); (case q2 => k_is); (case q3 => k_is); (case q4 => k_is))
    (case hLP => refine' Tt.has_f Tt.b_LP KX G ?q1 ?q2 ?q3 ?q4; (case q1 => k_is); (case q2 => k_is); (case q3 => k_is); (case q4 => k_is))
    (case hSP => refine' Tt.has_f Tt.b_SP KX G ?q1 ?q2 ?q3 ?q4; (case q1 => k_is); (case q2 => k_is); (case q3 => k_is); (case q4 => k_is))
    (case hHS => refine' Tt.has_f Tt.b_HS KX G ?q1 ?q2 ?q3 ?q4; (case q1 => k_is); (case q2 => k_is); (case q3 => k_is); (case q4 => k_is))
    (case hES => refine' Tt.has_f Tt.b_ES KX G ?q1 ?q2 ?q3 ?q4; (case q1 => k_is); (case q2 => k_is); (case q3 => k_is); (case q4 => k_is))
    (case hFB => refine' Tt.has_f Tt.b_FB KX G ?q1 ?q2 ?q3 ?q4; (case q1 => k_is); (case q2 => k_is); (case q3 => k_is); (case q4 => k_is))
    (case hFF => refine' Tt.has_f Tt.b_FF KX G ?q1 ?q2 ?q3 ?q4; (case q1 => k_is); (case q2 => k_is); (case q3 => k_is); (case q4 => k_is))
    (case hLA => refine' Tt.has_f Tt.b_LA KX G ?q1 ?q2 ?q3 ?q4; (case q1 => k_is); (case q2 => k_is); (case q3 => k_is); (case q4 => k_is))
    (case hPW => refine' Tt.has_f Tt.b_PW KX G ?q1 ?q2 ?q3 ?q4; (case q1 => k_is); (case q2 => k_is); (case q3 => k_is); (case q4 => k_is))
    (case hBP => refine' Tt.has_f Tt.b_BP KX G ?q1 ?q2 ?q3 ?q4; (case q1 => k_is); (case q2 => k_is); (case q3 => k_is); (case q4 => k_is))
    (case hPT => refine' Tt.has_f Tt.b_PT KX G ?q1 ?q2 ?q3 ?q4; (case q1 => k_is); (case q2 => k_is); (case q3 => k_is); (case q4 => k_is))
    (case hTF => refine' Tt.has_f Tt.b_TF KX G ?q1 ?q2 ?q3 ?q4; (case q1 => k_is); (case q2 => k_is); (case q3 => k_is); (case q4 => k_is))
    (case hTA => refine' Tt.has_f Tt.b_TA KX G ?q1 ?q2 ?q3 ?q4; (case q1 => k_is); (case q2 => k_is); (case q3 => k_is); (case q4 => k_is))
    (case hTRA => refine' Tt.has_f Tt.b_TRA KX G ?q1 ?q2 ?q3 ?q4; (case q1 => k_is); (case q2 => k_is); (case q3 => k_is); (case q4 => k_is))
    (case hPA => refine' Tt.has_f Tt.b_PA KX G ?q1 ?q2 ?q3 ?q4; (case q1 => k_is); (case q2 => k_is); (case q3 => k_is); (case q4 => k_is))
    (case hAT => refine' Tt.has_f Tt.b_AT KX G ?q1 ?q2 ?q3 ?q4; (case q1 => k_is); (case q2 => k_is); (case q3 => k_is); (case q4 => k_is))
    (case hBeg => refine' Tt.has_m Tt.b_Beg ?q1 ?q2 ?q3 ?q4 ?q5; (case q1 => k_is); (case q2 => k_is); (case q3 => k_is); (case q4 => k_is); (case q5 => k_is))
    (case hPla => refine' Tt.has_m Tt.b_Pla ?q1 ?q2 ?q3 ?q4 ?q5; (case q1 => k_is); (case q2 => k_is); (case q3 => k_is); (case q4 => k_is); (case q5 => k_is))
    (case hNear => refine' Tt.has_m Tt.b_Near ?q1 ?q2 ?q3 ?q4 ?q5; (case q1 => k_is); (case q2 => k_is); (case q3 => k_is); (case q4 => k_is); (case q5 => k_is))
    (case hBest => refine' Tt.has_m Tt.b_Best ?q1 ?q2 ?q3 ?q4 ?q5; (case q1 => k_is); (case q2 => k_is); (case q3 => k_is); (case q4 => k_is); (case q5 => k_is))
    (case hCheck => refine' Tt.has_m Tt.b_Check ?q1 ?q2 ?q3 ?q4 ?q5; (case q1 => k_is); (case q2 => k_is); (case q3 => k_is); (case q4 => k_is); (case q5 => k_is))
    (case hKeep => refine' Tt.has_m Tt.b_Keep ?q1 ?q2 ?q3 ?q4 ?q5; (case q1 => k_is); (case q2 => k_is); (case q3 => k_is); (case q4 => k_is); (case q5 => k_is))
    (case hWhen => refine' Tt.has_m Tt.b_When ?q1 ?q2 ?q3 ?q4 ?q5; (case q1 => k_is); (case q2 => k_is); (case q3 => k_is); (case q4 => k_is); (case q5 => k_is))
    (case xBEGINS => refine' Tt.num_of KX G ?zzBEGINS; (case zzBEGINS => k_is))
    (case xTREE => refine' Tt.num_of KX G ?zzTREE; (case zzTREE => k_is))
    (case xNEAR => refine' Tt.num_of KX G ?zzNEAR; (case zzNEAR => k_is))
    (case xBEST => refine' Tt.num_of KX G ?zzBEST; (case zzBEST => k_is))
    (case xCHECK => refine' Tt.num_of KX G ?zzCHECK; (case zzCHECK => k_is))
    (case xKEEP => refine' Tt.num_of KX G ?zzKEEP; (case zzKEEP => k_is))
    (case xWHEN => refine' Tt.num_of KX G ?zzWHEN; (case zzWHEN => k_is))
    (case xNOT_AS_TOLD => refine' Tt.num_of KX G ?zzNOT_AS_TOLD; (case zzNOT_AS_TOLD => k_is))
    (case xNO_SUCH_NUMBER => refine' Tt.num_of KX G ?zzNO_SUCH_NUMBER; (case zzNO_SUCH_NUMBER => k_is))
    (case xTREE_CANNOT_STAY => refine' Tt.num_of KX G ?zzTREE_CANNOT_STAY; (case zzTREE_CANNOT_STAY => k_is))
    (case xWOOD_IS_FULL => refine' Tt.num_of KX G ?zzWOOD_IS_FULL; (case zzWOOD_IS_FULL => k_is))
    (case xRULES_NOT_KEPT => refine' Tt.num_of KX G ?zzRULES_NOT_KEPT; (case zzRULES_NOT_KEPT => k_is))
    (case xMOST_THINNINGS => refine' Tt.num_of KX G ?zzMOST_THINNINGS; (case zzMOST_THINNINGS => k_is))
    (case xMOST_TREES => refine' Tt.num_of KX G ?zzMOST_TREES; (case zzMOST_TREES => k_is))
    (case xGREATEST_GAP => refine' Tt.num_of KX G ?zzGREATEST_GAP; (case zzGREATEST_GAP => k_is))
    (case xGREATEST_PLACE => refine' Tt.num_of KX G ?zzGREATEST_PLACE; (case zzGREATEST_PLACE => k_is))
    (case xGREATEST_WORTH => refine' Tt.num_of KX G ?zzGREATEST_WORTH; (case zzGREATEST_WORTH => k_is))
    (case aA => k_is); (case lA => k_is); (case cA => k_is); (case kA => k_is)
  case S =>
    intro K H xs a hO hwi hask hx
    cases hx with
    | cons h1 h2 =>
      cases h2
      cases h1 with
      | lst hs ha =>
        have e := L2.ints_dw a.1 _ ha
        subst e
        have q : ((Codec.inLen 0 2000 a.1 && a.1.all (Codec.inInt 0 4294967295)) && true) = true := hwi
        rw [Bool.and_eq_true, Bool.and_eq_true] at q
        exact ⟨_, a.1, rfl, hs, (Codec.inNat_iff.mp q.1.1).2, hask, fun H' p hp => .lst (L2.SqL.of hp) (L2.dw_ints _)⟩
