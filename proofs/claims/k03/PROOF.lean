import PyProof.Rows.All
import Wide.All
import OpenK.AllK
import Wide.FinOn
import Lean
import PyProof.EqAt
import PyProof.EqKinds
import PyProof.TupleCall
import KE.KDictList
import KE.LcSums
import PyProof.ZipIter
import PyProof.NeKinds
import PyProof.AttrMissSeq
import PySem.Challenge.RW_wantway_k03_under_and_joined
-- CHANGE: your row's module here, as the last of these rows
set_option Elab.async false
set_option linter.all false
set_option maxRecDepth 100000
namespace L2
open PySem PySem.Spec PyProof.Rows
abbrev Key := Sum Int Str
def keyIs : Key → Value → Bool
  | .inl k, v => Value.isInt k v
  | .inr x, v => Value.isStrOf x v
def keyH (w : World) : Key → Int
  | .inl k => hashInt k
  | .inr x => hashStr w x
theorem keyIs_shape : ∀ {k : Key} {v : Value}, keyIs k v = true → (∃ i t, k = Sum.inl i ∧ v = Value.int i t) ∨ (∃ x t, k = Sum.inr x ∧ v = Value.str x t)
  | .inl i, v, h => by
    obtain ⟨t, e⟩ := Value.isInt_shape (k := i) (v := v) h
    exact .inl ⟨i, t, rfl, e⟩
  | .inr x, v, h => by
    obtain ⟨t, e⟩ := Value.isStrOf_shape (x := x) (v := v) h
    exact .inr ⟨x, t, rfl, e⟩
theorem keyIs_int (i : Int) (t : Tok) : keyIs (.inl i) (.int i t) = true := by simp [keyIs, Value.isInt]
theorem keyIs_str (x : Str) (t : Tok) : keyIs (.inr x) (.str x t) = true := by simp [keyIs, Value.isStrOf]
theorem key_ll (a b : Int) : decide ((Sum.inl a : Key) = Sum.inl b) = (a == b) := by
  by_cases e : a = b
  · subst e; simp
  · have h : ¬ (Sum.inl a : Key) = Sum.inl b := fun q => e (Sum.inl.inj q)
    rw [decide_eq_false h]
    exact (beq_eq_false_iff_ne.mpr e).symm
theorem key_rr (a b : Str) : decide ((Sum.inr a : Key) = Sum.inr b) = decide (a = b) := by
  by_cases e : a = b
  · subst e; simp
  · have h : ¬ (Sum.inr a : Key) = Sum.inr b := fun q => e (Sum.inr.inj q)
    rw [decide_eq_false h, decide_eq_false e]
theorem key_lr (a : Int) (b : Str) : decide ((Sum.inl a : Key) = Sum.inr b) = false := decide_eq_false (fun q => nomatch q)
theorem key_rl (a : Str) (b : Int) : decide ((Sum.inr a : Key) = Sum.inl b) = false := decide_eq_false (fun q => nomatch q)
def mixKind (prog : Program) (w : World) : PySem.KeyKind prog w Key where
  is := keyIs
  hash := keyH w
  inj := fun v a b ha hb => by
    rcases keyIs_shape ha with ⟨i, t, rfl, rfl⟩ | ⟨x, t, rfl, rfl⟩
    · rcases keyIs_shape hb with ⟨j, u, rfl, e⟩ | ⟨y, u, rfl, e⟩
      · injection e with e1 _; rw [e1]
      · exact nomatch e
    · rcases keyIs_shape hb with ⟨j, u, rfl, e⟩ | ⟨y, u, rfl, e⟩
      · exact nomatch e
      · injection e with e1 _; rw [e1]
  byValue := fun k v h => by
    rcases keyIs_shape h with ⟨i, t, rfl, rfl⟩ | ⟨x, t, rfl, rfl⟩ <;> rfl
  pyHash := fun hv h => by
    rcases keyIs_shape hv with ⟨i, t, rfl, rfl⟩ | ⟨x, t, rfl, rfl⟩
    · exact wpAny_pyHash_int h
    · exact wpAny_pyHash_str h
  eqBool := fun hu hv h => by
    rcases keyIs_shape hu with ⟨i, t, rfl, rfl⟩ | ⟨x, t, rfl, rfl⟩
    · rcases keyIs_shape hv with ⟨j, u, rfl, rfl⟩ | ⟨y, u, rfl, rfl⟩
      · rw [key_ll] at h; exact wpAny_eqBool_int h
      · rw [key_lr] at h; exact SeqAt.EqAt.int_str i t y u _ _ _ _ h
    · rcases keyIs_shape hv with ⟨j, u, rfl, rfl⟩ | ⟨y, u, rfl, rfl⟩
      · rw [key_rl] at h; exact SeqAt.EqAt.str_int x t j u _ _ _ _ h
      · rw [key_rr] at h; exact wpAny_eqBool_str h
  «strs» := fun k x t v h => by
    rcases keyIs_shape h with ⟨i, u, rfl, e⟩ | ⟨y, u, rfl, e⟩
    · exact nomatch e
    · injection e with e1 _
      subst e1
      cases v <;> rfl
theorem mixKind_int (prog : Program) (w : World) (i : Int) (t : Tok) : (mixKind prog w).is (.inl i) (.int i t) = true := keyIs_int i t
theorem mixKind_str (prog : Program) (w : World) (x : Str) (t : Tok) : (mixKind prog w).is (.inr x) (.str x t) = true := keyIs_str x t
end L2
namespace L2
open PySem PySem.Spec PyProof.Rows
inductive V where
  | non | bl (b : Bool) | int (i : Int) | str (x : Str) | byt (b : Array UInt8) | flt (b : UInt64) | ref (a : Addr) | ty (n : String)
  deriving DecidableEq
def RelV : V → Value → Prop
  | .non, u => u = Value.none
  | .bl b, u => u = Value.bool b
  | .int i, u => ∃ t, u = Value.int i t
  | .str x, u => ∃ t, u = Value.str x t
  | .byt b, u => ∃ t, u = Value.bytes b t
  | .flt b, u => ∃ t, u = Value.float b t
  | .ref a, u => u = Value.ref a
  | .ty n, u => u = Value.type n
abbrev Vals : List V → List Value → Prop := Paired RelV
theorem Vals.length {xs : List V} {us : List Value} (r : Vals xs us) : xs.length = us.length := Paired.length r
theorem Vals.get : ∀ {xs : List V} {us : List Value} {i : Nat} {x : V}, Vals xs us → xs[i]? = some x → ∃ u, us[i]? = some u ∧ RelV x u
  | _, _, _, _, .nil, e => by simp at e
  | _, _, 0, _, .cons r _, e => by simp at e; subst e; exact ⟨_, rfl, r⟩
  | _, _, i + 1, x, .cons _ t, e => by
    obtain ⟨u, h1, h2⟩ := Vals.get (i := i) (x := x) t (by simpa using e)
    exact ⟨u, by simpa using h1, h2⟩
theorem Vals.set {x : V} {u : Value} (r : RelV x u) : ∀ {xs : List V} {us : List Value} (i : Nat), Vals xs us → Vals (xs.set i x) (us.set i u)
  | _, _, _, .nil => .nil
  | _, _, 0, .cons _ t => .cons r t
  | _, _, i + 1, .cons q t => .cons q (Vals.set r i t)
theorem Vals.append : ∀ {xs ys : List V} {us ws : List Value}, Vals xs us → Vals ys ws → Vals (xs ++ ys) (us ++ ws)
  | _, _, _, _, .nil, s => s
  | _, _, _, _, .cons r t, s => .cons r (Vals.append t s)
theorem Vals.take : ∀ {xs : List V} {us : List Value} (n : Nat), Vals xs us → Vals (xs.take n) (us.take n)
  | _, _, 0, _ => .nil
  | _, _, _ + 1, .nil => .nil
  | _, _, n + 1, .cons r t => .cons r (Vals.take n t)
theorem Vals.drop : ∀ {xs : List V} {us : List Value} (n : Nat), Vals xs us → Vals (xs.drop n) (us.drop n)
  | _, _, 0, r => r
  | _, _, _ + 1, .nil => .nil
  | _, _, n + 1, .cons _ t => Vals.drop n t
def RelO : Option V → Option Value → Prop
  | some v, some u => RelV v u
  | none, none => True
  | _, _ => False
def KV {κ : Type} : List (κ × V) → List (κ × Value) → Prop := Paired fun (p : κ × V) (q : κ × Value) => p.1 = q.1 ∧ RelV p.2 q.2
def kV : Key → V
  | .inl i => .int i
  | .inr x => .str x
inductive HO where
  /-- a list -/
  | lst (xs : List V)
  /-- a tuple (never changes) -/
  | tup (xs : List V)
  /-- a dict whose keys are ints and texts; one whose keys are tuples of ints and texts (the empty one is both) -/
  | dK (kvs : List (Key × V)) | dT (kvs : List (List Key × V))
  /-- a set of ints: its members, its size -/
  | set (S : Int → Bool) (n : Nat)
  /-- an instance of the class at C, its dict at dx, its attributes -/
  | ins (C dx : Addr) (fs : List (Str × V))
  /-- the dict of the instance at x -/
  | own (x : Addr)
  /-- the dict of an exception -/
  | xd (fs : List (Str × V))
  /-- a bound method, f of x -/
  | met (f x : Addr)
  /-- a range object lo, lo + 1, .. below hi -/
  | rng (lo hi : Int)
  /-- a thing that is known to the object (the script; a dict while a loop walks it): read, never written while it is so -/
  | frz (o : Obj) (u : HO)
  /-- a code object's table -/
  | tbl (ps : Array Value)
  /-- any other thing, by what is true of its one object (a def of one's own: SetO a S n := HO.ext fun h => ..) -/
  | ext (φ : Heap → Prop)
abbrev Hp := Addr → Option HO
def upd (H : Hp) (a : Addr) (o : HO) : Hp := fun b => if b = a then some o else H b
theorem upd_same {H : Hp} {a : Addr} {o : HO} : upd H a o a = some o := by unfold upd; rw [if_pos rfl]
theorem upd_ne {H : Hp} {a b : Addr} {o : HO} (h : b ≠ a) : upd H a o b = H b := by unfold upd; rw [if_neg h]
theorem ne_of {H : Hp} {a b : Addr} {o u : HO} (h : H a = some o) (h' : H b = some u) (d : o ≠ u) : a ≠ b := by
  intro e; subst e; rw [h] at h'; exact d (Option.some.inj h')
theorem ne_of_none {H : Hp} {a b : Addr} {o : HO} (h : H a = some o) (h' : H b = none) : a ≠ b := by
  intro e; subst e; rw [h] at h'; cases h'
def TupD (h : Heap) (a : Addr) (items : Array Value) : Prop := ∃ o, h.get? a = some o ∧ o.dict = none ∧ o.cls = .type "tuple" ∧ ∃ n, o.data = .seq items n
theorem TupD.is {h : Heap} {a : Addr} {items : Array Value} (x : TupD h a items) : IsTup h a items := let ⟨o, h1, _, h2, h3⟩ := x; ⟨o, h1, h2, h3⟩
theorem TupD.new (h : Heap) (items : Array Value) : TupD (h.push { cls := .type "tuple", data := .seq items }) h.objs.size items := ⟨_, Heap.get?_push_size _ rfl, rfl, rfl, _, rfl⟩
section
variable (P : Program) (w : World)
def ObjOk (H : Hp) (h : Heap) (a : Addr) : HO → Prop
  | .lst xs => xs.length ≤ sizeLine ∧ ∃ (its : List Value) (n : Nat), Vals xs its ∧ h.get? a = some { cls := .type "list", data := .seq its.toArray n }
  | .tup xs => xs.length ≤ sizeLine ∧ ∃ its : List Value, Vals xs its ∧ TupD h a its.toArray
  | .dK kvs => kvs.length ≤ sizeLine ∧ (a == sysModules) = false ∧ ∃ vs, KV kvs vs ∧ h.DictOf (mixKind P w) a vs
  | .dT kvs => kvs.length ≤ sizeLine ∧ (a == sysModules) = false ∧ ∃ xs : List (List Key × Addr × Value),
      Paired (fun (p : List Key × V) (q : List Key × Addr × Value) => p.1 = q.1 ∧ H q.2.1 = some (.tup (p.1.map kV)) ∧ RelV p.2 q.2.2) kvs xs ∧
      ∃ o es ep, h.get? a = some o ∧ o.ExactDict ∧ o.data = .dict es ep ∧ es.toList = xs.map (entryOfKey (tupleKind (mixKind P w))) ∧ (xs.map (·.1)).Nodup
  | .set S n => h.SetOf (intKind P w) a S n
  | .ins C dx fs => H dx = some (.own a) ∧ fs.length ≤ 1000 ∧ dx ≠ a ∧ h.get? a = some (PySem.W.instObj C dx) ∧
      ∃ mA, h.Ns1 dx mA ∧ (∀ f, RelO (fs.lookup f) (mA f)) ∧ PySem.Within mA (fs.map (·.1))
  | .own _ => ∃ o, h.get? a = some o
  | .xd fs => ∃ mA, h.Ns1 a mA ∧ ∀ f, RelO (fs.lookup f) (mA f)
  | .rng lo hi => ∃ t u v, h.get? a = some { cls := .type "range", data := .fields #[.int lo t, .int hi u, .int 1 v] }
  | .frz o u => h.get? a = some o ∧ ObjOk H h a u
  | .tbl ps => h.get? a = some { cls := .none, data := .fields ps }
  | .met f x => h.get? a = some (PySem.W.methodObj (.ref f) (.ref x))
  | .ext φ => φ h ∧ (∃ o, h.get? a = some o) ∧ ∀ h1 h2 : Heap, φ h1 → (∀ o, h1.get? a = some o → h2.get? a = some o) → φ h2
def HOk (H : Hp) (h : Heap) : Prop := ∀ a o, H a = some o → ObjOk P w H h a o
end
section
variable {P : Program} {w : World} {H H' : Hp} {h h' : Heap} {a : Addr} {o : HO}
theorem ObjOk.lt (x : ObjOk P w H h a o) : a < h.objs.size := by
  cases o with
  | lst xs => obtain ⟨_, _, _, _, e⟩ := x; exact Heap.lt_size e
  | tup xs => obtain ⟨_, _, _, p⟩ := x; exact p.is.lt
  | dK kvs => obtain ⟨_, _, _, _, o, _, _, e, _⟩ := x; exact Heap.lt_size e
  | dT kvs => obtain ⟨_, _, _, _, o, _, _, e, _⟩ := x; exact Heap.lt_size e
  | set S n => obtain ⟨o, _, _, _, e, _⟩ := x; exact Heap.lt_size e
  | ins C dx fs => obtain ⟨_, _, _, e, _⟩ := x; exact Heap.lt_size e
  | own y => obtain ⟨_, e⟩ := x; exact Heap.lt_size e
  | xd fs => obtain ⟨_, ⟨_, _, _, e, _⟩, _⟩ := x; exact Heap.lt_size e
  | rng lo hi => obtain ⟨_, _, _, e⟩ := x; exact Heap.lt_size e
  | frz ob u => obtain ⟨e, _⟩ := x; exact Heap.lt_size e
  | tbl ps => exact Heap.lt_size (show h.get? a = some _ from x)
  | met f y => exact Heap.lt_size (show h.get? a = some _ from x)
  | ext φ => obtain ⟨_, ⟨_, e⟩, _⟩ := x; exact Heap.lt_size e
theorem Paired.mapP {α β : Type} {F G : α → β → Prop} : ∀ {l₁ : List α} {l₂ : List β}, Paired F l₁ l₂ → (∀ a b, F a b → G a b) → Paired G l₁ l₂
  | _, _, .nil, _ => .nil
  | _, _, .cons r t, f => .cons (f _ _ r) (Paired.mapP t f)
theorem ObjOk.stay (x : ObjOk P w H h a o) (k : ∀ b u, (b = a ∨ H b = some (.own a)) → h.get? b = some u → h'.get? b = some u)
    (ho : ∀ b, H b = some (.own a) → H' b = some (.own a)) (ht : ∀ b xs, H b = some (.tup xs) → H' b = some (.tup xs)) : ObjOk P w H' h' a o := by
  induction o with
  | lst xs => obtain ⟨z, its, n, r, e⟩ := x; exact ⟨z, its, n, r, k _ _ (.inl rfl) e⟩
  | tup xs => obtain ⟨z, its, r, ob, e, c⟩ := x; exact ⟨z, its, r, ob, k _ _ (.inl rfl) e, c⟩
  | dK kvs => obtain ⟨z, y, vs, r, ob, es, ep, e, c⟩ := x; exact ⟨z, y, vs, r, ob, es, ep, k _ _ (.inl rfl) e, c⟩
  | dT kvs =>
    obtain ⟨z, y, xs, r, ob, es, ep, e, c⟩ := x
    exact ⟨z, y, xs, Paired.mapP r fun p q z => ⟨z.1, ht _ _ z.2.1, z.2.2⟩, ob, es, ep, k _ _ (.inl rfl) e, c⟩
  | set S n => obtain ⟨ob, es, ep, t, e, c⟩ := x; exact ⟨ob, es, ep, t, k _ _ (.inl rfl) e, c⟩
  | ins C dx fs =>
    obtain ⟨d, z, ne, e, mA, ⟨od, es, ep, e2, c⟩, r⟩ := x
    exact ⟨ho _ d, z, ne, k _ _ (.inl rfl) e, mA, ⟨od, es, ep, k _ _ (.inr d) e2, c⟩, r⟩
  | own y => obtain ⟨ob, e⟩ := x; exact ⟨ob, k _ _ (.inl rfl) e⟩
  | xd fs => obtain ⟨mA, ⟨od, es, ep, e, c⟩, r⟩ := x; exact ⟨mA, ⟨od, es, ep, k _ _ (.inl rfl) e, c⟩, r⟩
  | rng lo hi => obtain ⟨t, u, v, e⟩ := x; exact ⟨t, u, v, k _ _ (.inl rfl) e⟩
  | frz ob u ih => obtain ⟨e, q⟩ := x; exact ⟨k _ _ (.inl rfl) e, ih q⟩
  | tbl ps =>
    have e : h.get? a = some { cls := .none, data := .fields ps } := x
    show h'.get? a = some { cls := .none, data := .fields ps }
    exact k a _ (.inl rfl) e
  | met f y =>
    have e : h.get? a = some (PySem.W.methodObj (.ref f) (.ref y)) := x
    show h'.get? a = some (PySem.W.methodObj (.ref f) (.ref y))
    exact k a _ (.inl rfl) e
  | ext φ => obtain ⟨p, ⟨o, e⟩, st⟩ := x; exact ⟨st _ _ p fun o q => k _ _ (.inl rfl) q, ⟨o, k _ _ (.inl rfl) e⟩, st⟩
theorem HOk.lt (x : HOk P w H h) (e : H a = some o) : a < h.objs.size := (x a o e).lt
theorem HOk.fresh (x : HOk P w H h) (e : h.objs.size ≤ a) : H a = none := by
  cases q : H a with
  | none => rfl
  | some u => exact absurd (Nat.lt_of_lt_of_le (x.lt q) e) (Nat.lt_irrefl _)
theorem HOk.kept (x : HOk P w H h) (k : ∀ b u, h.get? b = some u → h'.get? b = some u) : HOk P w H h' := fun a o e =>
  (x a o e).stay (fun b u _ q => k b u q) (fun _ q => q) fun _ _ q => q
theorem HOk.laid (x : HOk P w H h) (k : ∀ b u, h.get? b = some u → h'.get? b = some u) (hp : h.objs.size ≤ a) (new : ObjOk P w (upd H a o) h' a o) : HOk P w (upd H a o) h' := fun b u e => by
  have hn := x.fresh hp
  by_cases hb : b = a
  · subst hb; rw [upd_same] at e; cases e; exact new
  · rw [upd_ne hb] at e
    exact (x b u e).stay (fun c v _ q => k c v q) (fun c q => by rw [upd_ne (ne_of_none q hn)]; exact q) fun c xs q => by rw [upd_ne (ne_of_none q hn)]; exact q
end
def Rd (H : Hp) (a : Addr) (u : HO) : Prop := H a = some u ∨ ∃ o, H a = some (.frz o u)
theorem Rd.ok {P : Program} {w : World} {H : Hp} {h : Heap} {a : Addr} {u : HO} (r : Rd H a u) (x : HOk P w H h) : ObjOk P w H h a u := by
  rcases r with r | ⟨o, r⟩
  · exact x a u r
  · obtain ⟨_, q⟩ := x a _ r
    exact q
def Mut : Option HO → Prop
  | some (.lst _) => True
  | some (.dK _) => True
  | some (.dT _) => True
  | some (.set _ _) => True
  | some (.ins _ _ _) => True
  | some (.ext _) => True
  | _ => False
section
variable {P : Program} {w : World} {H : Hp} {h h' : Heap} {x e : Addr} {o' : HO}
theorem HOk.write (ok : HOk P w H h) (mu : Mut (H x)) (he : e = x ∨ H e = some (.own x)) (k : ∀ b u, b ≠ e → h.get? b = some u → h'.get? b = some u) (heo : ∃ u, h'.get? e = some u)
    (new : ObjOk P w (upd H x o') h' x o') : HOk P w (upd H x o') h' := fun b u q => by
  have nown : ∀ c y, H c = some (.own y) → c ≠ x := fun c y r z => by subst z; rw [r] at mu; exact mu
  have ntup : ∀ c xs, H c = some (.tup xs) → c ≠ x := fun c xs r z => by subst z; rw [r] at mu; exact mu
  by_cases hb : b = x
  · subst hb; rw [upd_same] at q; cases q; exact new
  · rw [upd_ne hb] at q
    by_cases hbe : b = e
    · have q' : H b = some (.own x) := by
        rcases he with z | z
        · exact absurd (hbe.trans z) hb
        · rw [hbe]; exact z
      rw [q] at q'; cases q'
      obtain ⟨v, hv⟩ := heo
      exact ⟨v, by rw [hbe]; exact hv⟩
    · refine (ok b u q).stay (fun c v hc r => k c v ?_ r) (fun c r => by rw [upd_ne (nown c b r)]; exact r) fun c xs r => by rw [upd_ne (ntup c xs r)]; exact r
      rcases hc with rfl | hc
      · exact hbe
      · rintro rfl
        rcases he with z | z
        · exact nown c b hc z
        · rw [hc] at z; cases z; exact hb rfl
end
structure Un (fs ex : List Addr) (H H' : Hp) (h h' : Heap) : Prop where
  keep : ∀ b o, h.get? b = some o → H b = none → b ∉ fs → b ∉ ex → h'.get? b = some o
  slot : ∀ b o, h.get? b = some o → H b = none → b ∈ fs → b ∉ ex → ∃ sl, h'.get? b = some { o with slots := sl }
  free : ∀ b o, h.get? b = some o → H b = none → b ∉ ex → H' b = none
  there : ∀ b o, h.get? b = some o → b ∉ ex → ∃ o', h'.get? b = some o'
  tups : ∀ b xs, H b = some (.tup xs) → H' b = some (.tup xs)
  frzs : ∀ b o u, H b = some (.frz o u) → H' b = some (.frz o u)
  tbls : ∀ b ps, H b = some (.tbl ps) → ∃ more, H' b = some (.tbl (ps ++ more))
section
variable {fs fs' ex ex' : List Addr} {H H1 H2 : Hp} {h h1 h2 h' : Heap} {a x e : Addr} {o : HO}
theorem Un.any (u : Un fs ex H H1 h h1) {b : Addr} {ob : Obj} (q : h.get? b = some ob) (n : H b = none) (hx : b ∉ ex) : ∃ sl, h1.get? b = some { ob with slots := sl } := by
  by_cases hb : b ∈ fs
  · exact u.slot b ob q n hb hx
  · exact ⟨ob.slots, u.keep b ob q n hb hx⟩
theorem Un.kept (k : ∀ b u, h.get? b = some u → h'.get? b = some u) : Un fs ex H H h h' :=
  ⟨fun b ob q _ _ _ => k b ob q, fun b ob q _ _ _ => ⟨ob.slots, k b ob q⟩, fun _ _ _ n _ => n, fun b ob q _ => ⟨ob, k b ob q⟩, fun _ _ q => q, fun _ _ _ q => q, fun _ ps q => ⟨#[], by rw [q]; simp⟩⟩
theorem Un.refl : Un fs ex H H h h := Un.kept fun _ _ q => q
theorem Un.laid (k : ∀ b u, h.get? b = some u → h'.get? b = some u) (hp : h.objs.size ≤ a) (hn : H a = none) : Un fs ex H (upd H a o) h h' where
  keep := fun b u q _ _ _ => k b u q
  slot := fun b u q _ _ _ => ⟨u.slots, k b u q⟩
  free := fun b u q n _ => by rw [upd_ne (Nat.ne_of_lt (Nat.lt_of_lt_of_le (Heap.lt_size q) hp))]; exact n
  there := fun b u q _ => ⟨u, k b u q⟩
  tups := fun b xs q => by rw [upd_ne (ne_of_none q hn)]; exact q
  frzs := fun b u xs q => by rw [upd_ne (ne_of_none q hn)]; exact q
  tbls := fun b ps q => ⟨#[], by rw [upd_ne (ne_of_none q hn), q]; simp⟩
theorem Un.write (mu : Mut (H x)) (he : e = x ∨ H e = some (.own x)) (k : ∀ b u, b ≠ e → h.get? b = some u → h'.get? b = some u) (heo : ∃ u, h'.get? e = some u) : Un fs ex H (upd H x o) h h' := by
  have hx : ∀ b, H b = none → b ≠ x := fun b n z => by subst z; rw [n] at mu; exact mu
  have hb : ∀ b, H b = none → b ≠ e := fun b n z => by
    subst z
    rcases he with r | r
    · exact hx b n r
    · rw [n] at r; cases r
  have hm : ∀ b u, H b = some u → ¬ Mut (some u) → b ≠ x := fun b u q nm z => by subst z; rw [q] at mu; exact nm mu
  refine ⟨fun b u q n _ _ => k b u (hb b n) q, fun b u q n _ _ => ⟨u.slots, k b u (hb b n) q⟩, fun b u q n _ => by rw [upd_ne (hx b n)]; exact n, fun b u q _ => ?_,
    fun b xs q => by rw [upd_ne (hm b _ q fun z => z)]; exact q, fun b u xs q => by rw [upd_ne (hm b _ q fun z => z)]; exact q, fun b ps q => ⟨#[], by rw [upd_ne (hm b _ q fun z => z), q]; simp⟩⟩
  by_cases hbe : b = e
  · subst hbe; exact heo
  · exact ⟨u, k b u hbe q⟩
end
def trk (h : Heap) (H : Hp) : List Addr := (List.range h.objs.size).filter fun a => (H a).isSome
def hidT (h : Heap) (H : Hp) : Heap := PySem.W.hideAll h (trk h H)
theorem hidT_size (h : Heap) (H : Hp) : (hidT h H).objs.size = h.objs.size := PySem.W.hideAll_size _ _
theorem hidT_get {h : Heap} {H : Hp} {b : Addr} {o : Obj} (e : h.get? b = some o) (n : H b = none) : (hidT h H).get? b = some o :=
  PySem.W.hideAll_get _ e fun hm => by
    have q : (H b).isSome = true := (List.mem_filter.mp hm).2
    rw [n] at q; simp at q
theorem of_hidT {h : Heap} {H : Hp} {b : Addr} {o : Obj} (e : (hidT h H).get? b = some o) : h.get? b = some o ∧ H b = none := by
  have e' : h.get? b = some o := PySem.W.of_hideAll (trk h H) e
  refine ⟨e', ?_⟩
  cases q : H b with
  | none => rfl
  | some x =>
    have hm : b ∈ trk h H := List.mem_filter.mpr ⟨List.mem_range.mpr (Heap.lt_size e'), by simp [q]⟩
    have z : (hidT h H).get? b = none := PySem.W.hideAll_none (trk h H) hm
    rw [z] at e; cases e
end L2
namespace L2
open PySem PySem.Spec PyProof.Rows
structure Mod (K : PySem.W.Frag) (mg : Str → Option Value) (base : Heap) : Prop where
  kin : K.In base
  glob : base.Ns mainGlobals mg
  blt : ∃ mb, base.Ns builtinsNs mb ∧ ∀ x : Str, x ≠ "__name__" → mb x = bootBuiltins x
  nolimit : base.NoLimit
structure Cx where
  prog : Program
  w : World
  K : PySem.W.Frag
  mg : Str → Option Value
  base : Heap
  A : Around
  N : List Str
  s₀ : Shared
  H₀ : Hp
  env : Env
  outer : List Env
  stack : List Env
  ex : List Addr
  fn : Str → Bool
  calm : Bool
  pn : List (Addr × Obj)
  xe : Value → Shared → Prop
def frs (l : List Env) : List Addr := l.filterMap (·.frame)
abbrev Cx.fs (X : Cx) : List Addr := frs X.outer
def Vis (sc : Scope) (x : Str) : Prop := sc.names.lookup x = some .local ∨ sc.names.lookup x = some .cell ∨ sc.names.lookup x = some .free
def Loc (sc : Scope) (x : Str) : Prop := sc.names.lookup x = some .local ∨ sc.names.lookup x = some .cell
def Look (env : Env) (h : Heap) (m : Str → Option Value) (x : Str) (u : Value) : Prop :=
  (env.kindOf x = some .local ∧ m x = some u) ∨ ((env.kindOf x = some .cell ∨ env.kindOf x = some .free) ∧ ∃ c, env.cells.lookup x = some c ∧ h.IsCell c (some u))
structure Cx.Ok (X : Cx) : Prop where
  mod : Mod X.K X.mg X.base
  kind : X.env.scope.kind = .function
  glob : X.env.globals = mainGlobals
  blt : X.env.builtins = builtinsNs
  above : X.s₀.heap.objs.size ≤ X.env.locals
  inj : ∀ x y c, X.env.cells.lookup x = some c → X.env.cells.lookup y = some c → x = y
  has : ∀ x, (X.env.kindOf x = some .cell ∨ X.env.kindOf x = some .free) → ∃ c, X.env.cells.lookup x = some c
  cab : ∀ x c, X.fn x = true → X.env.cells.lookup x = some c → X.s₀.heap.objs.size ≤ c
  hd : X.calm = true → X.A.handled = none
  frames : X.A.frames = some X.stack
  stk : X.stack = X.outer ∨ (X.stack = X.env :: X.outer ∧ X.env.frame = some X.env.locals)
  exf : ∀ b ∈ X.ex, b ≠ X.env.locals ∧ ∀ x c, X.env.cells.lookup x = some c → c ≠ b
  bs : ∀ b o, X.base.get? b = some o → X.s₀.heap.get? b = some o ∧ X.H₀ b = none
  bsz : X.base.objs.size ≤ X.s₀.heap.objs.size
  noex : ∀ b o, X.base.get? b = some o → b ∉ X.ex
  exfs : ∀ b ∈ X.ex, b ∉ X.fs
  funs : X.s₀.heap.FunFrames X.base X.outer
  frf : ∀ b ∈ X.fs, X.H₀ b = none
structure Inv (X : Cx) (pins : List (Addr × Obj)) (σ : List (Option V)) (H : Hp) (s : Shared) : Prop where
  ok : X.Ok
  os : s.os = X.s₀.os
  bare : AllBare s.gens
  base : Un X.fs X.ex X.H₀ H X.s₀.heap s.heap
  loc : ∃ m, s.heap.Ns X.env.locals m ∧ ∀ (i : Nat) (x : Str) (v : V), X.N[i]? = some x → σ[i]? = some (some v) → Vis X.env.scope x → ∃ u, RelV v u ∧ Look X.env s.heap m x u
  cell : ∀ x c, X.env.cells.lookup x = some c → ∃ v, s.heap.IsCell c v
  free : H X.env.locals = none
  freeC : ∀ x c, X.env.cells.lookup x = some c → H c = none
  pin : ∀ p ∈ X.pn ++ pins, s.heap.get? p.1 = some p.2 ∧ H p.1 = none ∧ p.1 ≠ X.env.locals ∧ p.1 ∉ X.fs ∧ ∀ v, p.2.data ≠ .cell v
  hok : HOk X.prog X.w H s.heap
  len : σ.length = X.N.length
section
variable {X : Cx} {pins : List (Addr × Obj)} {σ : List (Option V)} {H H' : Hp} {s : Shared} {h' : Heap}
theorem Cx.Ok.nofr (ok : X.Ok) {b : Addr} {o : Obj} (e : X.base.get? b = some o) : b ∉ X.fs := fun hb => by
  have := (ok.funs.mem hb).1
  rw [e] at this; cases this
theorem Inv.bs (I : Inv X pins σ H s) : ∀ b o, X.base.get? b = some o → s.heap.get? b = some o ∧ H b = none := fun b o e =>
  ⟨I.base.keep b o (I.ok.bs b o e).1 (I.ok.bs b o e).2 (I.ok.nofr e) (I.ok.noex b o e), I.base.free b o (I.ok.bs b o e).1 (I.ok.bs b o e).2 (I.ok.noex b o e)⟩
theorem Inv.bk (I : Inv X pins σ H s) : ∀ b o, X.base.get? b = some o → s.heap.get? b = some o := fun b o e => (I.bs b o e).1
theorem Inv.mod (I : Inv X pins σ H s) : Mod X.K X.mg X.base := I.ok.mod
theorem Inv.kIn (I : Inv X pins σ H s) : X.K.In s.heap := I.ok.mod.kin.keeps I.bk
theorem Inv.lt (I : Inv X pins σ H s) : X.env.locals < s.heap.objs.size := let ⟨_, hn, _⟩ := I.loc; hn.lt
theorem Inv.sz (I : Inv X pins σ H s) : X.s₀.heap.objs.size ≤ s.heap.objs.size := Nat.le_trans I.ok.above (Nat.le_of_lt I.lt)
theorem Inv.nofs (I : Inv X pins σ H s) {a : Addr} (h : s.heap.objs.size ≤ a) : a ∉ X.fs := fun hb => by
  obtain ⟨_, o, ho, _⟩ := I.ok.funs.mem hb
  exact absurd (Nat.lt_of_lt_of_le (Heap.lt_size ho) (Nat.le_trans I.sz h)) (Nat.lt_irrefl _)
theorem Inv.cne (I : Inv X pins σ H s) : ∀ x c, X.env.cells.lookup x = some c → c ≠ X.env.locals := fun x c e z => by
  obtain ⟨v, o, ho, hd⟩ := I.cell x c e
  obtain ⟨m, ⟨o', es, ep, ho', hd', _⟩, _⟩ := I.loc
  rw [z, ho'] at ho; cases ho; rw [hd'] at hd; cases hd
theorem Inv.funs (I : Inv X pins σ H s) : s.heap.FunFrames X.base X.outer := by
  have all : ∀ (l : List Env), (∀ b ∈ frs l, b ∈ X.fs) → X.s₀.heap.FunFrames X.base l → s.heap.FunFrames X.base l := by
    intro l
    induction l with
    | nil => intro _ _; trivial
    | cons env r ih =>
      intro hs hl
      obtain ⟨hk, ⟨L, o, hf, hn, ho, hd⟩, hr⟩ := hl
      have hL : L ∈ X.fs := hs L (by unfold frs; rw [List.filterMap_cons, hf]; exact List.mem_cons_self)
      obtain ⟨sl, e⟩ := I.base.slot L o ho (I.ok.frf L hL) hL fun z => I.ok.exfs L z hL
      exact ⟨hk, ⟨L, _, hf, hn, e, hd⟩, ih (fun b hb => hs b (by unfold frs; rw [List.filterMap_cons, hf]; exact List.mem_cons_of_mem _ hb)) hr⟩
  exact all X.outer (fun _ hb => hb) I.ok.funs
theorem Inv.stack (I : Inv X pins σ H s) : s.heap.FunFrames X.base X.stack := by
  rcases I.ok.stk with e | ⟨e, hf⟩
  · rw [e]; exact I.funs
  · rw [e]
    obtain ⟨m, hn, _⟩ := I.loc
    refine .cons (by rw [I.ok.kind]; decide) hf hn ?_ I.funs
    exact Heap.get?_none_of_le (Nat.le_trans I.ok.bsz I.ok.above)
theorem Inv.stkSub (I : Inv X pins σ H s) : ∀ b ∈ frs X.stack, b ∈ X.env.locals :: X.fs := fun b hb => by
  rcases I.ok.stk with e | ⟨e, hf⟩
  · rw [e] at hb; exact List.mem_cons_of_mem _ hb
  · rw [e] at hb
    unfold frs at hb
    rw [List.filterMap_cons, hf] at hb
    exact hb
theorem Inv.stkFree (I : Inv X pins σ H s) : ∀ b ∈ frs X.stack, H b = none := fun b hb => by
  rcases List.mem_cons.mp (I.stkSub b hb) with e | hb
  · rw [e]; exact I.free
  · obtain ⟨_, o, ho, _⟩ := I.ok.funs.mem hb
    exact I.base.free b o ho (I.ok.frf b hb) fun z => I.ok.exfs b z hb
theorem Inv.step {g' : Array GenState} {t' : Nat} {d' : Drawn} {ch : List Addr} (I : Inv X pins σ H s)
    (hch : ∀ b ∈ ch, (b ∈ X.ex ∨ X.s₀.heap.objs.size ≤ b) ∧ b ≠ X.env.locals ∧ (∀ x c, X.env.cells.lookup x = some c → c ≠ b) ∧ ∀ p ∈ X.pn ++ pins, p.1 ≠ b)
    (keep : ∀ b o, b ≠ X.env.locals → b ∉ X.fs → b ∉ ch → s.heap.get? b = some o → H b = none → h'.get? b = some o)
    (slot : ∀ b o, b ≠ X.env.locals → b ∈ X.fs → b ∉ ch → s.heap.get? b = some o → H b = none → ∃ sl, h'.get? b = some { o with slots := sl }) (free : ∀ b o, b ∉ ch → s.heap.get? b = some o → H b = none → H' b = none)
    (there : ∀ b o, b ∉ ch → s.heap.get? b = some o → ∃ o', h'.get? b = some o')
    (tups : ∀ b xs, H b = some (.tup xs) → H' b = some (.tup xs)) (frzs : ∀ b o u, H b = some (.frz o u) → H' b = some (.frz o u)) (tbls : ∀ b ps, H b = some (.tbl ps) → ∃ more, H' b = some (.tbl (ps ++ more)))
    (ns : ∀ m, s.heap.Ns X.env.locals m → h'.Ns X.env.locals m) (hok : HOk X.prog X.w H' h') (hg : AllBare g') :
    Inv X pins σ H' { s with heap := h', gens := g', drawn := d', toks := t' } := by
  have neL : ∀ b o, X.s₀.heap.get? b = some o → b ≠ X.env.locals := fun b o e => Nat.ne_of_lt (Nat.lt_of_lt_of_le (Heap.lt_size e) I.ok.above)
  have neC : ∀ b o, X.s₀.heap.get? b = some o → b ∉ X.ex → b ∉ ch := fun b o e hx hb => by
    rcases (hch b hb).1 with z | z
    · exact hx z
    · exact absurd (Nat.lt_of_lt_of_le (Heap.lt_size e) z) (Nat.lt_irrefl _)
  have cellK : ∀ x c, X.env.cells.lookup x = some c → ∀ v, s.heap.IsCell c v → h'.IsCell c v := fun x c e v ⟨o, ho, hd⟩ => by
    have nch : c ∉ ch := fun z => (hch c z).2.2.1 x c e rfl
    by_cases hc : c ∈ X.fs
    · obtain ⟨sl, q⟩ := slot c o (I.cne x c e) hc nch ho (I.freeC x c e)
      exact ⟨_, q, hd⟩
    · exact ⟨o, keep c o (I.cne x c e) hc nch ho (I.freeC x c e), hd⟩
  refine ⟨I.ok, I.os, hg, ⟨fun b o e n hb hx => ?_, fun b o e n hb hx => ?_, fun b o e n hx => ?_, fun b o e hx => ?_, fun b xs e => tups b xs (I.base.tups b xs e), fun b o xs e => frzs b o xs (I.base.frzs b o xs e), fun b ps e => ?_⟩, ?_, fun x c e => ?_, ?_, fun x c e => ?_, fun p hp => ?_, hok, I.len⟩
  · exact keep b o (neL b o e) hb (neC b o e hx) (I.base.keep b o e n hb hx) (I.base.free b o e n hx)
  · obtain ⟨sl, e1⟩ := I.base.slot b o e n hb hx
    obtain ⟨sl', e2⟩ := slot b _ (neL b o e) hb (neC b o e hx) e1 (I.base.free b o e n hx)
    exact ⟨sl', e2⟩
  · obtain ⟨o', e1⟩ := I.base.there b o e hx
    exact free b o' (neC b o e hx) e1 (I.base.free b o e n hx)
  · obtain ⟨o', e1⟩ := I.base.there b o e hx
    exact there b o' (neC b o e hx) e1
  · obtain ⟨m1, e1⟩ := I.base.tbls b ps e
    obtain ⟨m2, e2⟩ := tbls b _ e1
    exact ⟨m1 ++ m2, by rw [e2, Array.append_assoc]⟩
  · obtain ⟨m, hn, hl⟩ := I.loc
    refine ⟨m, ns m hn, fun i x v e1 e2 e3 => ?_⟩
    obtain ⟨u, r, l⟩ := hl i x v e1 e2 e3
    refine ⟨u, r, ?_⟩
    rcases l with l | ⟨k, c, e, z⟩
    · exact .inl l
    · exact .inr ⟨k, c, e, cellK x c e _ z⟩
  · obtain ⟨v, z⟩ := I.cell x c e
    exact ⟨v, cellK x c e v z⟩
  · obtain ⟨m, ⟨o, _, _, ho, _⟩, _⟩ := I.loc
    exact free _ o (fun z => (hch _ z).2.1 rfl) ho I.free
  · obtain ⟨v, o, ho, hd⟩ := I.cell x c e
    exact free c o (fun z => (hch c z).2.2.1 x c e rfl) ho (I.freeC x c e)
  · obtain ⟨e, n, ne, nf, d⟩ := I.pin p hp
    have nch : p.1 ∉ ch := fun z => (hch p.1 z).2.2.2 p hp rfl
    exact ⟨keep p.1 p.2 ne nf nch e n, free p.1 p.2 nch e n, ne, nf, d⟩
theorem Inv.un {t' : Nat} (I : Inv X pins σ H s) (u : Un X.fs [] H H' s.heap h') (hok : HOk X.prog X.w H' h') : Inv X pins σ H' { s with heap := h', toks := t' } := by
  obtain ⟨m, ⟨o, es, ep, ho, r⟩, _⟩ := id I.loc
  obtain ⟨sl, hL⟩ := u.any ho I.free (by simp)
  exact I.step (g' := s.gens) (d' := s.drawn) (ch := []) (fun _ z => nomatch z) (fun b o _ hb _ e n => u.keep b o e n hb (by simp)) (fun b o _ hb _ e n => u.slot b o e n hb (by simp)) (fun b o _ e n => u.free b o e n (by simp)) (fun b o _ e => u.there b o e (by simp)) u.tups u.frzs u.tbls (fun m' hm => by
    obtain ⟨o', es', ep', ho', r'⟩ := hm
    rw [ho] at ho'; cases ho'
    exact ⟨_, es', ep', hL, r'⟩) hok I.bare
theorem Inv.call {g' : Array GenState} {t' : Nat} {d' : Drawn} {ch : List Addr} (I : Inv X pins σ H s) (u : Un (frs X.stack) ch H H' s.heap h') (hok : HOk X.prog X.w H' h') (hg : AllBare g')
    (hch : ∀ b ∈ ch, (b ∈ X.ex ∨ X.s₀.heap.objs.size ≤ b) ∧ b ≠ X.env.locals ∧ (∀ x c, X.env.cells.lookup x = some c → c ≠ b) ∧ ∀ p ∈ X.pn ++ pins, p.1 ≠ b) :
    Inv X pins σ H' { s with heap := h', gens := g', drawn := d', toks := t' } := by
  obtain ⟨m, ⟨o, es, ep, ho, r⟩, _⟩ := id I.loc
  obtain ⟨sl, hL⟩ := u.any ho I.free fun z => (hch _ z).2.1 rfl
  exact I.step (ch := ch) hch (fun b o hL hb hc e n => u.keep b o e n (fun z => (List.mem_cons.mp (I.stkSub b z)).elim hL hb) hc) (fun b o _ _ hc e n => u.any e n hc) (fun b o hc e n => u.free b o e n hc) (fun b o hc e => u.there b o e hc) u.tups u.frzs u.tbls (fun m' hm => by
    obtain ⟨o', es', ep', ho', r'⟩ := hm
    rw [ho] at ho'; cases ho'
    exact ⟨_, es', ep', hL, r'⟩) hok hg
theorem Inv.turned {t' : Nat} {it : Addr} (I : Inv X pins σ H s) (k : ∀ b o, b ≠ it → s.heap.get? b = some o → h'.get? b = some o) (hn : H it = none) (hL : it ≠ X.env.locals)
    (h1 : it ∈ X.ex ∨ X.s₀.heap.objs.size ≤ it) (h2 : ∀ x c, X.env.cells.lookup x = some c → c ≠ it) (h3 : ∀ p ∈ X.pn ++ pins, p.1 ≠ it) : Inv X pins σ H { s with heap := h', toks := t' } := by
  have nit : ∀ b u, H b = some u → b ≠ it := fun b u e z => by rw [z, hn] at e; cases e
  refine I.step (g' := s.gens) (d' := s.drawn) (ch := [it]) (fun b hb => ?_) (fun b o _ _ hc e _ => k b o (fun z => hc (by simp [z])) e) (fun b o _ _ hc e _ => ⟨o.slots, k b o (fun z => hc (by simp [z])) e⟩) (fun _ _ _ _ n => n)
    (fun b o hc e => ⟨o, k b o (fun z => hc (by simp [z])) e⟩) (fun _ _ e => e) (fun _ _ _ e => e) (fun b ps e => ⟨#[], by rw [e]; simp⟩) (fun m hm => ?_) (fun b u e => ?_) I.bare
  · have e : b = it := by simpa using hb
    subst e
    exact ⟨h1, hL, h2, h3⟩
  · obtain ⟨o, es, ep, ho, r⟩ := hm
    exact ⟨o, es, ep, k _ o (Ne.symm hL) ho, r⟩
  · refine (I.hok b u e).stay (fun c v hc q => k c v ?_ q) (fun _ q => q) fun _ _ q => q
    rcases hc with z | z
    · rw [z]; exact nit b u e
    · exact nit c _ z
theorem Inv.tok (I : Inv X pins σ H s) (t : Nat) : Inv X pins σ H { s with toks := t } := I.un (h' := s.heap) (t' := t) Un.refl I.hok
theorem Inv.kept {t' : Nat} (I : Inv X pins σ H s) (k : ∀ b u, s.heap.get? b = some u → h'.get? b = some u) : Inv X pins σ H { s with heap := h', toks := t' } := I.un (Un.kept k) (I.hok.kept k)
theorem Inv.laid {a : Addr} {o : HO} {t' : Nat} (I : Inv X pins σ H s) (k : ∀ b u, s.heap.get? b = some u → h'.get? b = some u) (hp : s.heap.objs.size ≤ a) (new : ObjOk X.prog X.w (upd H a o) h' a o) :
    Inv X pins σ (upd H a o) { s with heap := h', toks := t' } := I.un (Un.laid k hp (I.hok.fresh hp)) (I.hok.laid k hp new)
theorem Inv.write {x e : Addr} {o : HO} {t' : Nat} (I : Inv X pins σ H s) (mu : Mut (H x)) (he : e = x ∨ H e = some (.own x)) (k : ∀ b u, b ≠ e → s.heap.get? b = some u → h'.get? b = some u) (heo : ∃ u, h'.get? e = some u)
    (new : ObjOk X.prog X.w (upd H x o) h' x o) : Inv X pins σ (upd H x o) { s with heap := h', toks := t' } := I.un (Un.write mu he k heo) (I.hok.write mu he k heo new)
theorem Inv.weak {σ' : List (Option V)} (I : Inv X pins σ H s) (hl : σ'.length = σ.length) (w : ∀ (i : Nat) v, σ'[i]? = some (some v) → σ[i]? = some (some v)) : Inv X pins σ' H s :=
  ⟨I.ok, I.os, I.bare, I.base, let ⟨m, hn, hl'⟩ := I.loc; ⟨m, hn, fun i x v e1 e2 e3 => hl' i x v e1 (w i v e2) e3⟩, I.cell, I.free, I.freeC, I.pin, I.hok, hl.trans I.len⟩
theorem Inv.pins_of {pins' : List (Addr × Obj)} (I : Inv X pins σ H s) (h : ∀ p ∈ pins', s.heap.get? p.1 = some p.2 ∧ H p.1 = none ∧ p.1 ≠ X.env.locals ∧ p.1 ∉ X.fs ∧ ∀ v, p.2.data ≠ .cell v) : Inv X pins' σ H s :=
  ⟨I.ok, I.os, I.bare, I.base, I.loc, I.cell, I.free, I.freeC, fun p hp => (List.mem_append.mp hp).elim (fun z => I.pin p (List.mem_append_left _ z)) (h p), I.hok, I.len⟩
theorem nodup_ix {N : List Str} (hN : N.Nodup) {i j : Nat} {x : Str} (a : N[i]? = some x) (b : N[j]? = some x) : i = j := by
  obtain ⟨h1, e1⟩ := List.getElem?_eq_some_iff.mp a
  obtain ⟨h2, e2⟩ := List.getElem?_eq_some_iff.mp b
  exact (List.getElem_inj hN).mp (e1.trans e2.symm)
theorem store_ok2 {M : Model} {A : Around} {E : Value → Shared → Prop} {i : Nat} {x : Str} {v : V} {u : Value} {Q : Unit → Shared → Prop} (I : Inv X pins σ H s) (hN : X.N.Nodup) (hi : X.N[i]? = some x) (hx : Loc X.env.scope x) (r : RelV v u)
    (h : ∀ s', Inv X pins (σ.set i (some v)) H s' → (∃ a, Heap.SameBut a s.heap s'.heap ∧ (a = X.env.locals ∨ X.env.cells.lookup x = some a)) → Q () s') (hf : X.fn x = true ∨ X.env.scope.names.lookup x = some .local := by first | exact .inl rfl | exact .inr rfl | assumption) : wpAny M A (storeName X.env x u) Q E s := by
  obtain ⟨m, hn, hl⟩ := id I.loc
  have hcls : (X.env.scope.kind == .class || (X.env.scope.kind == .module && X.env.locals != X.env.globals)) = false := by rw [I.ok.kind]; rfl
  have hiσ : i < σ.length := by rw [I.len]; exact (List.getElem?_eq_some_iff.mp hi).1
  have cne := I.cne
  have tracked : ∀ {a : Addr} {h' : Heap}, (∃ o, s.heap.get? a = some o ∧ H a = none) → Heap.SameBut a s.heap h' → HOk X.prog X.w H h' := fun {a h'} ha hs b ob e => by
    obtain ⟨_, _, hfree⟩ := ha
    refine (I.hok b ob e).stay (fun c w' hc q => (hs.2 c ?_).trans q) (fun _ q => q) fun _ _ q => q
    rintro rfl
    rcases hc with rfl | hc
    · rw [hfree] at e; cases e
    · rw [hfree] at hc; cases hc
  rcases hx with hk | hk
  · refine wpAny_storeName_local hk hn (fun h' hn' hs => ?_) hcls
    obtain ⟨oL, _, _, hoL, _⟩ := id hn
    refine h _ ⟨I.ok, I.os, I.bare, ⟨fun b o e n hb hx => ?_, fun b o e n hb hx => ?_, I.base.free, fun b o e hx => ?_, I.base.tups, I.base.frzs, I.base.tbls⟩, ⟨_, hn', fun j y v' e1 e2 e3 => ?_⟩, fun y c e => ?_, I.free, I.freeC, fun p hp => ?_, tracked ⟨oL, hoL, I.free⟩ hs, by simpa using I.len⟩ ⟨_, hs, .inl rfl⟩
    · exact (hs.2 b (Nat.ne_of_lt (Nat.lt_of_lt_of_le (Heap.lt_size e) I.ok.above))).trans (I.base.keep b o e n hb hx)
    · obtain ⟨sl, e1⟩ := I.base.slot b o e n hb hx
      exact ⟨sl, (hs.2 b (Nat.ne_of_lt (Nat.lt_of_lt_of_le (Heap.lt_size e) I.ok.above))).trans e1⟩
    · obtain ⟨o', e1⟩ := I.base.there b o e hx
      exact ⟨o', (hs.2 b (Nat.ne_of_lt (Nat.lt_of_lt_of_le (Heap.lt_size e) I.ok.above))).trans e1⟩
    · by_cases hj : j = i
      · subst hj
        rw [hi] at e1; cases e1
        rw [List.getElem?_set_self hiσ] at e2
        cases e2
        exact ⟨u, r, .inl ⟨hk, by simp⟩⟩
      · rw [List.getElem?_set_ne (Ne.symm hj)] at e2
        obtain ⟨u', r', q⟩ := hl j y v' e1 e2 e3
        refine ⟨u', r', ?_⟩
        rcases q with ⟨k, e⟩ | ⟨k, c, e, z⟩
        · refine .inl ⟨k, ?_⟩
          have : y ≠ x := fun e => hj (nodup_ix hN e1 (e ▸ hi))
          simp [this, e]
        · exact .inr ⟨k, c, e, z.sameBut hs (cne y c e)⟩
    · obtain ⟨w', z⟩ := I.cell y c e
      exact ⟨w', z.sameBut hs (cne y c e)⟩
    · obtain ⟨e, n, ne, nf, d⟩ := I.pin p hp
      exact ⟨(hs.2 p.1 ne).trans e, n, ne, nf, d⟩
  · have hfn : X.fn x = true := by
      rcases hf with z | z
      · exact z
      · rw [z] at hk; cases hk
    obtain ⟨c, hc⟩ := I.ok.has x (.inl hk)
    obtain ⟨w', z⟩ := I.cell x c hc
    refine wpAny_storeName_cell I.ok.kind hk hc z (fun h' hc' hs => ?_)
    obtain ⟨oc, hoc, hocd⟩ := id z
    refine h { s with heap := h' } ⟨I.ok, I.os, I.bare, ⟨fun b o e n hb hx => ?_, fun b o e n hb hx => ?_, I.base.free, fun b o e hx => ?_, I.base.tups, I.base.frzs, I.base.tbls⟩, ⟨m, hn.sameBut hs (Ne.symm (cne x c hc)), fun j y v' e1 e2 e3 => ?_⟩, fun y c' e => ?_, I.free, I.freeC, fun p hp => ?_, tracked ⟨oc, hoc, I.freeC x c hc⟩ hs, by simpa using I.len⟩ ⟨c, hs, .inr hc⟩
    · exact (hs.2 b (Nat.ne_of_lt (Nat.lt_of_lt_of_le (Heap.lt_size e) (I.ok.cab x c hfn hc)))).trans (I.base.keep b o e n hb hx)
    · obtain ⟨sl, e1⟩ := I.base.slot b o e n hb hx
      exact ⟨sl, (hs.2 b (Nat.ne_of_lt (Nat.lt_of_lt_of_le (Heap.lt_size e) (I.ok.cab x c hfn hc)))).trans e1⟩
    · obtain ⟨o', e1⟩ := I.base.there b o e hx
      exact ⟨o', (hs.2 b (Nat.ne_of_lt (Nat.lt_of_lt_of_le (Heap.lt_size e) (I.ok.cab x c hfn hc)))).trans e1⟩
    · by_cases hj : j = i
      · subst hj
        rw [hi] at e1; cases e1
        rw [List.getElem?_set_self hiσ] at e2
        cases e2
        exact ⟨u, r, .inr ⟨.inl hk, c, hc, hc'⟩⟩
      · rw [List.getElem?_set_ne (Ne.symm hj)] at e2
        obtain ⟨u', r', q⟩ := hl j y v' e1 e2 e3
        refine ⟨u', r', ?_⟩
        rcases q with q | ⟨k, c', e, z'⟩
        · exact .inl q
        · refine .inr ⟨k, c', e, z'.sameBut hs ?_⟩
          rintro rfl
          exact hj (nodup_ix hN e1 (I.ok.inj _ _ _ e hc ▸ hi))
    · by_cases hcc : c' = c
      · subst hcc; exact ⟨_, hc'⟩
      · obtain ⟨w2, z2⟩ := I.cell y c' e
        exact ⟨w2, z2.sameBut hs hcc⟩
    · obtain ⟨e, n, ne, nf, d⟩ := I.pin p hp
      refine ⟨(hs.2 p.1 ?_).trans e, n, ne, nf, d⟩
      intro q
      rw [q, hoc] at e
      have q' : oc = p.2 := Option.some.inj e
      exact d w' (by rw [← q']; exact hocd)
theorem store_ok {M : Model} {A : Around} {E : Value → Shared → Prop} {i : Nat} {x : Str} {v : V} {u : Value} {Q : Unit → Shared → Prop} (I : Inv X pins σ H s) (hN : X.N.Nodup) (hi : X.N[i]? = some x) (hx : Loc X.env.scope x) (r : RelV v u)
    (h : ∀ s', Inv X pins (σ.set i (some v)) H s' → Q () s') (hf : X.fn x = true ∨ X.env.scope.names.lookup x = some .local := by first | exact .inl rfl | exact .inr rfl | assumption) : wpAny M A (storeName X.env x u) Q E s :=
  store_ok2 I hN hi hx r (fun s' I' _ => h s' I') hf
theorem Inv.call' {s' : Shared} {ch : List Addr} (I : Inv X pins σ H s) (ho : s'.os = s.os) (u : Un (frs X.stack) ch H H' s.heap s'.heap) (hok : HOk X.prog X.w H' s'.heap) (hg : AllBare s'.gens)
    (hch : ∀ b ∈ ch, (b ∈ X.ex ∨ X.s₀.heap.objs.size ≤ b) ∧ b ≠ X.env.locals ∧ (∀ x c, X.env.cells.lookup x = some c → c ≠ b) ∧ ∀ p ∈ X.pn ++ pins, p.1 ≠ b) : Inv X pins σ H' s' := by
  obtain ⟨h', g', d', t', o'⟩ := s'
  have e : o' = s.os := ho
  subst e
  exact I.call (g' := g') (t' := t') (d' := d') u hok hg hch
end
abbrev XK := Value → Option Addr → Hp → Prop
abbrev St := List (Option V)
abbrev VK := V → Hp → Prop
abbrev TE := St → Hp → VK → Prop
abbrev TT := St → Hp → (Bool → Hp → Prop) → Prop
abbrev TA := St → Hp → (List V → Hp → Prop) → Prop
structure Ends where
  nx : St → Hp → Prop
  rt : VK
  bk : St → Hp → Prop := fun _ _ => False
  ct : St → Hp → Prop := fun _ _ => False
abbrev TS := Ends → St → Hp → Prop
def EP (X : Cx) (pins : List (Addr × Obj)) (σ : St) (Q : VK) (u : Value) (s' : Shared) : Prop := ∃ v H', Inv X pins σ H' s' ∧ RelV v u ∧ Q v H'
def TP (X : Cx) (pins : List (Addr × Obj)) (σ : St) (Q : Bool → Hp → Prop) (b : Bool) (s' : Shared) : Prop := ∃ H', Inv X pins σ H' s' ∧ Q b H'
def AP (X : Cx) (pins : List (Addr × Obj)) (σ : St) (Q : List V → Hp → Prop) (us : List Value) (s' : Shared) : Prop := ∃ vs H', Inv X pins σ H' s' ∧ Vals vs us ∧ Q vs H'
def SP (X : Cx) (pins : List (Addr × Obj)) (D : Ends) (f : Flow) (s' : Shared) : Prop :=
  match f with
  | .next => ∃ σ' H', Inv X pins σ' H' s' ∧ D.nx σ' H'
  | .brk => ∃ σ' H', Inv X pins σ' H' s' ∧ D.bk σ' H'
  | .cont => ∃ σ' H', Inv X pins σ' H' s' ∧ D.ct σ' H'
  | .ret u => ∃ v σ' H', Inv X pins σ' H' s' ∧ RelV v u ∧ D.rt v H'
def PE (X : Cx) (e : Expr) (t : TE) : Prop :=
  ∀ (pins : List (Addr × Obj)) (s : Shared) (σ : St) (H : Hp) (Q : VK), Inv X pins σ H s → t σ H Q → wpAny (model X.prog X.w) X.A (eval e X.env) (EP X pins σ Q) X.xe s
def PT (X : Cx) (e : Expr) (t : TT) : Prop :=
  ∀ (pins : List (Addr × Obj)) (s : Shared) (σ : St) (H : Hp) (Q : Bool → Hp → Prop), Inv X pins σ H s → t σ H Q → wpAny (model X.prog X.w) X.A (isTrue e X.env (eval e X.env)) (TP X pins σ Q) X.xe s
def PW (X : Cx) (e : Expr) (t : TT) : Prop :=
  ∀ (whole : Sem Value) (pins : List (Addr × Obj)) (s : Shared) (σ : St) (H : Hp) (Q : Bool → Hp → Prop), Inv X pins σ H s → t σ H Q → wpAny (model X.prog X.w) X.A (isTrue e X.env whole) (TP X pins σ Q) X.xe s
theorem PW.pt {X : Cx} {e : Expr} {t : TT} (h : PW X e t) : PT X e t := h _
def PA (X : Cx) (es : List Expr) (t : TA) : Prop :=
  ∀ (pos : Pos) (pins : List (Addr × Obj)) (s : Shared) (σ : St) (H : Hp) (Q : List V → Hp → Prop), Inv X pins σ H s → t σ H Q → wpAny (model X.prog X.w) X.A (spliced (backTo pos (starEach es X.env))) (AP X pins σ Q) X.xe s
def PS (X : Cx) (st : Stmt) (t : TS) : Prop :=
  ∀ (pins : List (Addr × Obj)) (s : Shared) (σ : St) (H : Hp) (D : Ends), Inv X pins σ H s → t D σ H → wpAny (model X.prog X.w) X.A (exec st X.env) (SP X pins D) X.xe s
def PSs (X : Cx) (st : List Stmt) (t : TS) : Prop :=
  ∀ (pins : List (Addr × Obj)) (s : Shared) (σ : St) (H : Hp) (D : Ends), Inv X pins σ H s → t D σ H → wpAny (model X.prog X.w) X.A (execs st X.env) (SP X pins D) X.xe s
theorem thn {α : Type} {t : Sem α} {Q Q' : α → Shared → Prop} {M : Model} {A : Around} {E : Value → Shared → Prop} {s : Shared} (h : wpAny M A t Q E s) (hQ : ∀ a s, Q a s → Q' a s) : wpAny M A t Q' E s := wpAny_mono h hQ fun _ _ x => x
end L2
namespace L2
open PySem PySem.Spec PyProof.Rows
section
variable {X : Cx}
def tVar (i : Nat) : TE := fun σ H Q => ∃ v, σ[i]? = some (some v) ∧ Q v H
def tC (v : V) : TE := fun _ H Q => Q v H
theorem pe_var {i : Nat} {x : Str} {pos : Pos} (hN : X.N[i]? = some x) (hv : Vis X.env.scope x) (hd : (x == ("__debug__" : Str)) = false := by decide) (hcd : (x == ("__classdict__" : Str)) = false := by decide) : PE X (.Name x pos) (tVar i) := by
  intro pins s σ H Q I h
  obtain ⟨v, e, h⟩ := h
  obtain ⟨m, hn, hl⟩ := I.loc
  obtain ⟨u, r, l⟩ := hl i x v hN e hv
  have fin : EP X pins σ Q u s := ⟨v, H, I, r, h⟩
  rcases l with ⟨hk, hm⟩ | ⟨hk, c, hc, hcell⟩
  · exact wpAny_Name (wpAny_loadName_local I.ok.kind hk hn hm fin) hd
  · rcases hk with hk | hk
    · exact wpAny_Name (wpAny_loadName_cell I.ok.kind hk hc hcell fin) hd
    · exact wpAny_Name (wpAny_loadName_free I.ok.kind hk hc hcell fin hcd) hd
theorem pe_int {i j pos} : PE X (.Constant (.int i) j pos) (tC (.int i)) := fun _ _ _ H _ I h => wpAny_Constant_int ⟨.int i, H, I.tok _, ⟨_, rfl⟩, h⟩
theorem pe_bl {b j pos} : PE X (.Constant (.bool b) j pos) (tC (.bl b)) := fun _ _ _ H _ I h => Constant_bool ⟨.bl b, H, I, rfl, h⟩
theorem pe_non {j pos} : PE X (.Constant .none j pos) (tC .non) := fun _ _ _ H _ I h => Constant_none ⟨.non, H, I, rfl, h⟩
theorem pe_str {x j pos} : PE X (.Constant (.str x) j pos) (tC (.str x)) := fun _ _ _ H _ I h => Calls.Constant_str ⟨.str x, H, I.tok _, ⟨_, rfl⟩, h⟩
def Gl (X : Cx) (x : Str) : Prop := X.env.kindOf x = some .globalImplicit
theorem ld_glob {E : Value → Shared → Prop} {pins : List (Addr × Obj)} {s : Shared} {σ : St} {H : Hp} {x : Str} {u : Value} {pos : Pos} {Q : Value → Shared → Prop} (I : Inv X pins σ H s) (hg : Gl X x) (hm : X.mg x = some u) (h : Q u s)
    (hd : (x == ("__debug__" : Str)) = false := by decide) : wpAny (model X.prog X.w) X.A (eval (.Name x pos) X.env) Q E s :=
  Calls.Name_function_global I.ok.kind hg (Calls.loadGlobal_global (by rw [I.ok.glob]; exact I.mod.glob.keeps I.bk) hm h) hd
theorem ld_blt {E : Value → Shared → Prop} {pins : List (Addr × Obj)} {s : Shared} {σ : St} {H : Hp} {x : Str} {u : Value} {pos : Pos} {Q : Value → Shared → Prop} (I : Inv X pins σ H s) (hg : Gl X x) (hm : X.mg x = none) (hv : bootBuiltins x = some u) (h : Q u s)
    (hn : x ≠ "__name__" := by decide) (hd : (x == ("__debug__" : Str)) = false := by decide) : wpAny (model X.prog X.w) X.A (eval (.Name x pos) X.env) Q E s := by
  obtain ⟨mb, h1, h2⟩ := I.mod.blt
  exact Calls.Name_function_global I.ok.kind hg (Calls.loadGlobal_builtin (by rw [I.ok.glob]; exact I.mod.glob.keeps I.bk) hm (by rw [I.ok.blt]; exact h1.keeps I.bk) ((h2 x hn).trans hv) h) hd
theorem pe_glob {x : Str} {v : V} {u : Value} {pos : Pos} (hg : Gl X x) (hm : X.mg x = some u) (r : RelV v u) (hd : (x == ("__debug__" : Str)) = false := by decide) : PE X (.Name x pos) (tC v) :=
  fun _ _ _ H _ I h => ld_glob I hg hm ⟨v, H, I, r, h⟩ hd
theorem pe_bltn {x : Str} {v : V} {u : Value} {pos : Pos} (hg : Gl X x) (hm : X.mg x = none) (hv : bootBuiltins x = some u) (r : RelV v u) (hn : x ≠ "__name__" := by decide) (hd : (x == ("__debug__" : Str)) = false := by decide) : PE X (.Name x pos) (tC v) :=
  fun _ _ _ H _ I h => ld_blt I hg hm hv ⟨v, H, I, r, h⟩ hn hd
variable {a b : Expr} {ta tb : TE} {pos : Pos}
def tB (t : TE) : TT := fun σ H Q => t σ H fun x H1 => ∃ c, x = .bl c ∧ Q c H1
theorem pt_val {e : Expr} {t : TE} (h : PE X e t) (he : ∀ whole, isTrue e X.env whole = (do let v ← whole; standAt e.pos; holding [v] (truthy v)) := by intro _; rfl) : PT X e (tB t) := by
  intro pins s σ H Q I hw
  refine isTrue_plain (thn (h pins s σ H _ I hw) fun v s1 ⟨x, H1, I1, r1, q1⟩ => ?_) (he _)
  obtain ⟨d, rfl, q⟩ := q1
  cases r1
  exact wpAny_truthy_bool ⟨H1, I1, q⟩
variable {tA tB' : TT} {rest : List Expr}
def tAnd (t u : TT) : TT := fun σ H Q => t σ H fun c H1 => if c = true then u σ H1 Q else Q false H1
def tOr (t u : TT) : TT := fun σ H Q => t σ H fun c H1 => if c = true then Q true H1 else u σ H1 Q
def tNot (t : TT) : TT := fun σ H Q => t σ H fun c H1 => Q (!c) H1
theorem pw_and1 (ha : PT X a tA) : PW X (.BoolOp .And [a] pos) tA := by
  intro wh pins s σ H Q I h
  refine isTrue_and (thn (ha pins s σ H Q I h) fun c s1 e => ?_)
  cases c with
  | true => exact isTrue_and_nil e
  | false => exact e
theorem pw_or1 (ha : PT X a tA) : PW X (.BoolOp .Or [a] pos) tA := by
  intro wh pins s σ H Q I h
  refine isTrue_or (thn (ha pins s σ H Q I h) fun c s1 e => ?_)
  cases c with
  | false => exact isTrue_or_nil e
  | true => exact e
theorem pw_and (ha : PT X a tA) (hb : PW X (.BoolOp .And (b :: rest) pos) tB') : PW X (.BoolOp .And (a :: b :: rest) pos) (tAnd tA tB') := by
  intro wh pins s σ H Q I h
  refine isTrue_and (thn (ha pins s σ H _ I h) fun c s1 ⟨H1, I1, q1⟩ => ?_)
  cases c with
  | true => exact hb wh pins s1 σ H1 Q I1 q1
  | false => exact ⟨H1, I1, q1⟩
theorem pw_or (ha : PT X a tA) (hb : PW X (.BoolOp .Or (b :: rest) pos) tB') : PW X (.BoolOp .Or (a :: b :: rest) pos) (tOr tA tB') := by
  intro wh pins s σ H Q I h
  refine isTrue_or (thn (ha pins s σ H _ I h) fun c s1 ⟨H1, I1, q1⟩ => ?_)
  cases c with
  | true => exact ⟨H1, I1, q1⟩
  | false => exact hb wh pins s1 σ H1 Q I1 q1
theorem pt_not (ha : PT X a tA) : PT X (.UnaryOp .Not a pos) (tNot tA) := by
  intro pins s σ H Q I h
  exact isTrue_not (ha pins s σ H (fun c H1 => Q (!c) H1) I h)
def tAndV (ta tb : TE) : TE := fun σ H Q => ta σ H fun x H1 => ∃ c, x = .bl c ∧ if c = true then tb σ H1 Q else Q (.bl false) H1
def tOrV (ta tb : TE) : TE := fun σ H Q => ta σ H fun x H1 => ∃ c, x = .bl c ∧ if c = true then Q (.bl true) H1 else tb σ H1 Q
def tNotV (ta : TE) : TE := fun σ H Q => ta σ H fun x H1 => ∃ c, x = .bl c ∧ Q (.bl (!c)) H1
theorem pe_one {op} {t : TE} (h : PE X a t) : PE X (.BoolOp op [a] pos) t := fun pins s σ H Q I hw => BoolOp_one (h pins s σ H Q I hw)
theorem pe_and (ha : PE X a ta) (hb : PE X (.BoolOp .And (b :: rest) pos) tb) : PE X (.BoolOp .And (a :: b :: rest) pos) (tAndV ta tb) := by
  intro pins s σ H Q I h
  refine BoolOp_and (thn (ha pins s σ H _ I h) fun v s1 ⟨x, H1, I1, r1, q1⟩ => ?_)
  obtain ⟨c, rfl, q1⟩ := q1
  cases r1
  refine wpAny_truthy_bool ?_
  cases c with
  | true => exact hb pins s1 σ H1 Q I1 q1
  | false => exact ⟨.bl false, H1, I1, rfl, q1⟩
theorem pe_or (ha : PE X a ta) (hb : PE X (.BoolOp .Or (b :: rest) pos) tb) : PE X (.BoolOp .Or (a :: b :: rest) pos) (tOrV ta tb) := by
  intro pins s σ H Q I h
  refine BoolOp_or (thn (ha pins s σ H _ I h) fun v s1 ⟨x, H1, I1, r1, q1⟩ => ?_)
  obtain ⟨c, rfl, q1⟩ := q1
  cases r1
  refine wpAny_truthy_bool ?_
  cases c with
  | false => exact hb pins s1 σ H1 Q I1 q1
  | true => exact ⟨.bl true, H1, I1, rfl, q1⟩
theorem pe_not (ha : PE X a ta) : PE X (.UnaryOp .Not a pos) (tNotV ta) := by
  intro pins s σ H Q I h
  refine UnaryOp_ (thn (ha pins s σ H _ I h) fun v s1 ⟨x, H1, I1, r1, q1⟩ => ?_)
  obtain ⟨c, rfl, q1⟩ := q1
  cases r1
  exact not_of (wpAny_truthy_bool ⟨.bl (!c), H1, I1, rfl, q1⟩)
end
end L2
namespace L2
open PySem PySem.Spec PyProof.Rows
def SqL (K : PySem.W.Frag) (H : Hp) (a : Addr) (xs : List V) : Prop :=
  Rd H a (.lst xs) ∨
    ∃ (o : Obj) (its : Array Value) (n : Nat), K.lookup a = some o ∧ o.cls = .type "list" ∧ o.dict = none ∧ o.data = .seq its n ∧ its.size ≤ sizeLine ∧ Vals xs its.toList
def SqT (K : PySem.W.Frag) (H : Hp) (a : Addr) (xs : List V) : Prop :=
  Rd H a (.tup xs) ∨
    ∃ (o : Obj) (its : Array Value) (n : Nat), K.lookup a = some o ∧ o.cls = .type "tuple" ∧ o.data = .seq its n ∧ its.size ≤ sizeLine ∧ Vals xs its.toList
def absV : Value → Option V
  | .none => some .non
  | .bool b => some (.bl b)
  | .int i _ => some (.int i)
  | .str x _ => some (.str x)
  | .bytes b _ => some (.byt b)
  | .float b _ => some (.flt b)
  | .ref a => some (.ref a)
  | .type n => some (.ty n)
  | _ => none
theorem RelV.abs {x : V} {u : Value} (r : RelV x u) : absV u = some x := by
  cases x with
  | non => cases r; rfl
  | bl _ => cases r; rfl
  | int _ => obtain ⟨t, rfl⟩ := r; rfl
  | str _ => obtain ⟨t, rfl⟩ := r; rfl
  | byt _ => obtain ⟨t, rfl⟩ := r; rfl
  | flt _ => obtain ⟨t, rfl⟩ := r; rfl
  | ref _ => cases r; rfl
  | ty _ => cases r; rfl
theorem RelV.inj {x y : V} {u : Value} (r : RelV x u) (q : RelV y u) : x = y := Option.some.inj (r.abs.symm.trans q.abs)
theorem Vals.inj : ∀ {xs ys : List V} {us : List Value}, Vals xs us → Vals ys us → xs = ys
  | _, _, _, .nil, .nil => rfl
  | _, _, _, .cons r t, .cons r' t' => by rw [r.inj r', Vals.inj t t']
section
variable {X : Cx} {pins : List (Addr × Obj)} {σ : St} {H : Hp} {s : Shared} {a : Addr} {xs ys : List V}
theorem SqL.of {K : PySem.W.Frag} (h : H a = some (.lst xs)) : SqL K H a xs := .inl (.inl h)
theorem SqT.of {K : PySem.W.Frag} (h : H a = some (.tup xs)) : SqT K H a xs := .inl (.inl h)
theorem Inv.list (I : Inv X pins σ H s) (h : SqL X.K H a xs) : ∃ its : List Value, Vals xs its ∧ PlainL s.heap a its.toArray ∧ xs.length ≤ sizeLine := by
  rcases h with h | ⟨o, its, n, hk, hc, hd, hs, hz, r⟩
  · obtain ⟨z, its, n, r, e⟩ := h.ok I.hok
    exact ⟨its, r, ⟨_, n, e, rfl, rfl, rfl⟩, z⟩
  · refine ⟨its.toList, r, ⟨o, n, I.kIn a o hk, hc, hd, by simpa using hs⟩, ?_⟩
    have e := r.length
    simp only [Array.length_toList] at e
    omega
theorem Inv.tuple (I : Inv X pins σ H s) (h : SqT X.K H a xs) : ∃ its : List Value, Vals xs its ∧ IsTup s.heap a its.toArray ∧ xs.length ≤ sizeLine := by
  rcases h with h | ⟨o, its, n, hk, hc, hs, hz, r⟩
  · obtain ⟨z, its, r, p⟩ := h.ok I.hok
    exact ⟨its, r, p.is, z⟩
  · refine ⟨its.toList, r, ⟨o, I.kIn a o hk, hc, n, by simpa using hs⟩, ?_⟩
    have e := r.length
    simp only [Array.length_toList] at e
    omega
theorem Inv.list_inj (I : Inv X pins σ H s) (h : SqL X.K H a xs) (h' : SqL X.K H a ys) : xs = ys := by
  obtain ⟨its, r, ⟨o, n, e, _, _, d⟩, _⟩ := I.list h
  obtain ⟨its', r', ⟨o', n', e', _, _, d'⟩, _⟩ := I.list h'
  rw [e] at e'; cases e'
  rw [d] at d'
  injection d' with d1 _
  have : its = its' := by simpa using congrArg Array.toList d1
  subst this
  exact r.inj r'
theorem Inv.tuple_inj (I : Inv X pins σ H s) (h : SqT X.K H a xs) (h' : SqT X.K H a ys) : xs = ys := by
  obtain ⟨its, r, ⟨o, e, _, n, d⟩, _⟩ := I.tuple h
  obtain ⟨its', r', ⟨o', e', _, n', d'⟩, _⟩ := I.tuple h'
  rw [e] at e'; cases e'
  rw [d] at d'
  injection d' with d1 _
  have : its = its' := by simpa using congrArg Array.toList d1
  subst this
  exact r.inj r'
end
abbrev Cx.wish (X : Cx) (E : Value → Shared → Prop) : Cx := { X with xe := E }
abbrev Cx.nox (X : Cx) : Cx := X.wish fun _ _ => False
theorem Cx.Ok.wish {X : Cx} (ok : X.Ok) (E : Value → Shared → Prop) : (X.wish E).Ok :=
  ⟨ok.mod, ok.kind, ok.glob, ok.blt, ok.above, ok.inj, ok.has, ok.cab, ok.hd, ok.frames, ok.stk, ok.exf, ok.bs, ok.bsz, ok.noex, ok.exfs, ok.funs, ok.frf⟩
theorem Cx.Ok.unwish {X : Cx} {E : Value → Shared → Prop} (ok : (X.wish E).Ok) : X.Ok :=
  ⟨ok.mod, ok.kind, ok.glob, ok.blt, ok.above, ok.inj, ok.has, ok.cab, ok.hd, ok.frames, ok.stk, ok.exf, ok.bs, ok.bsz, ok.noex, ok.exfs, ok.funs, ok.frf⟩
section
variable {X : Cx} {pins : List (Addr × Obj)} {σ : St} {H : Hp} {s : Shared} {E : Value → Shared → Prop}
theorem Inv.wish (I : Inv X pins σ H s) (E : Value → Shared → Prop) : Inv (X.wish E) pins σ H s := ⟨I.ok.wish E, I.os, I.bare, I.base, I.loc, I.cell, I.free, I.freeC, I.pin, I.hok, I.len⟩
theorem Inv.unwish (I : Inv (X.wish E) pins σ H s) : Inv X pins σ H s := ⟨I.ok.unwish, I.os, I.bare, I.base, I.loc, I.cell, I.free, I.freeC, I.pin, I.hok, I.len⟩
theorem SP.unwish {D : Ends} {f : Flow} {s' : Shared} (h : SP (X.wish E) pins D f s') : SP X pins D f s' := by
  cases f with
  | next => obtain ⟨σ', H', I, q⟩ := h; exact ⟨σ', H', I.unwish, q⟩
  | brk => obtain ⟨σ', H', I, q⟩ := h; exact ⟨σ', H', I.unwish, q⟩
  | cont => obtain ⟨σ', H', I, q⟩ := h; exact ⟨σ', H', I.unwish, q⟩
  | ret u => obtain ⟨v, σ', H', I, r, q⟩ := h; exact ⟨v, σ', H', I.unwish, r, q⟩
theorem PSs.nox {st : List Stmt} {t : TS} (h : PSs X.nox st t) : PSs X st t := fun pins s σ H D I hw =>
  wpAny_mono (h pins s σ H D (I.wish _) hw) (fun _ _ q => q.unwish) fun _ _ z => False.elim z
end
section
variable {X : Cx} {st : Stmt} {rest : List Stmt} {t u : TS} {e : Expr} {te : TE} {pos : Pos}
def tNext : TS := fun D σ H => D.nx σ H
def tSeq (t u : TS) : TS := fun D σ H => t { D with nx := u D } σ H
theorem pss_nil : PSs X [] tNext := fun _ _ σ H _ I h => wpAny_execs_nil ⟨σ, H, I, h⟩
theorem pss_cons (h1 : PS X st t) (h2 : PSs X rest u) : PSs X (st :: rest) (tSeq t u) := by
  intro pins s σ H D I h
  refine wpAny_execs_cons (thn (h1 pins s σ H { D with nx := u D } I h) fun f s1 q => ?_)
  cases f with
  | next =>
    obtain ⟨σ', H', I', q⟩ := q
    exact h2 pins s1 σ' H' D I' q
  | ret v => exact q
  | brk => exact q
  | cont => exact q
theorem pss_one (h1 : PS X st t) : PSs X [st] t := by
  intro pins s σ H D I h
  refine wpAny_execs_cons (thn (h1 pins s σ H D I h) fun f s1 q => ?_)
  cases f with
  | next => exact wpAny_execs_nil q
  | ret v => exact q
  | brk => exact q
  | cont => exact q
theorem Inv.quiet {pins : List (Addr × Obj)} {σ : St} {H : Hp} {s : Shared} (I : Inv X pins σ H s) : interactive X.env = false := by simp [interactive, I.ok.kind]
def tDrop (te : TE) : TS := fun D σ H => te σ H fun _ H1 => D.nx σ H1
theorem ps_expr (he : PE X e te) (hs : swapsWith e none pos.line X.env = pure false := by rfl) : PS X (.Expr e pos) (tDrop te) := by
  intro pins s σ H D I h
  exact wpAny_Expr_any (thn (he pins s σ H _ I h) fun v s1 ⟨x, H1, I1, r1, q1⟩ => ⟨σ, H1, I1, q1⟩) I.quiet hs
def tRet (te : TE) : TS := fun D σ H => te σ H D.rt
theorem ps_ret (he : PE X e te) : PS X (.Return (some e) pos) (tRet te) := by
  intro pins s σ H D I h
  exact wpAny_Return_some (thn (he pins s σ H _ I h) fun v s1 ⟨x, H1, I1, r1, q1⟩ => ⟨x, σ, H1, I1, r1, q1⟩)
def tIfS (c : TT) (t u : TS) : TS := fun D σ H => c σ H fun b H1 => if b = true then t D σ H1 else u D σ H1
theorem ps_if {c : Expr} {a b : List Stmt} {tc : TT} (hc : PT X c tc) (ha : PSs X a t) (hb : PSs X b u) : PS X (.If c a b pos) (tIfS tc t u) := by
  intro pins s σ H D I h
  refine wpAny_If (thn (hc pins s σ H _ I h) fun d s1 ⟨H1, I1, q1⟩ => ?_)
  cases d with
  | true => exact ha pins s1 σ H1 D I1 q1
  | false => exact hb pins s1 σ H1 D I1 q1
end
abbrev TG := V → St → Hp → (St → Hp → Prop) → Prop
abbrev TGs := List V → St → Hp → (St → Hp → Prop) → Prop
def PG (X : Cx) (target : Expr) (t : TG) : Prop :=
  ∀ (pins : List (Addr × Obj)) (s : Shared) (σ : St) (H : Hp) (v : V) (u : Value) (Q : St → Hp → Prop), Inv X pins σ H s → RelV v u → t v σ H Q →
    wpAny (model X.prog X.w) X.A (assign target X.env u) (fun _ s' => ∃ σ' H', Inv X pins σ' H' s' ∧ Q σ' H') X.xe s
def PGs (X : Cx) (ts : List Expr) (t : TGs) : Prop :=
  ∀ (pins : List (Addr × Obj)) (s : Shared) (σ : St) (H : Hp) (vs : List V) (us : List Value) (Q : St → Hp → Prop), Inv X pins σ H s → Vals vs us → t vs σ H Q →
    wpAny (model X.prog X.w) X.A (assignInOrder ((assignEach ts X.env).map (·.2)) us) (fun _ s' => ∃ σ' H', Inv X pins σ' H' s' ∧ Q σ' H') X.xe s
abbrev TSet := V → V → V → Hp → (Hp → Prop) → Prop
def PSet (X : Cx) (t : TSet) : Prop :=
  ∀ (pins : List (Addr × Obj)) (s : Shared) (σ : St) (H : Hp) (o i v : V) (ov iv u : Value) (Q : Hp → Prop), Inv X pins σ H s → RelV o ov → RelV i iv → RelV v u → t o i v H Q →
    wpAny (model X.prog X.w) X.A (setItem ov iv u) (fun _ s' => ∃ H', Inv X pins σ H' s' ∧ Q H') X.xe s
section
variable {X : Cx} {pos : Pos}
def gName (i : Nat) : TG := fun v σ H Q => Q (σ.set i (some v)) H
theorem pg_name {i : Nat} {x : Str} (hN : X.N.Nodup) (hi : X.N[i]? = some x) (hx : Loc X.env.scope x) (hf : X.fn x = true ∨ X.env.scope.names.lookup x = some .local := by first | exact .inl rfl | exact .inr rfl | assumption) : PG X (.Name x pos) (gName i) := by
  intro pins s σ H v u Q I r h
  exact wpAny_assign_Name (store_ok I hN hi hx r (fun s' I' => ⟨_, H, I', h⟩) hf)
def gNil : TGs := fun vs σ H Q => vs = [] ∧ Q σ H
def gCons (t : TG) (u : TGs) : TGs := fun vs σ H Q => ∃ v r, vs = v :: r ∧ t v σ H fun σ' H' => u r σ' H' Q
theorem pgs_nil : PGs X [] gNil := by
  intro pins s σ H vs us Q I r h
  obtain ⟨e, h⟩ := h
  subst e
  cases r
  exact assignInOrder_nil ⟨σ, H, I, h⟩
theorem pgs_cons {e : Expr} {es : List Expr} {t : TG} {u : TGs} (h1 : PG X e t) (h2 : PGs X es u)
    (hs : (assignEach (e :: es) X.env).map (·.2) = assign e X.env :: (assignEach es X.env).map (·.2) := by rfl) : PGs X (e :: es) (gCons t u) := by
  intro pins s σ H vs us Q I r h
  obtain ⟨v, vr, e1, h⟩ := h
  subst e1
  cases r with
  | cons r rr =>
    rw [hs]
    refine assignInOrder_cons (thn (h1 pins s σ H _ _ _ I r h) fun _ s1 ⟨σ1, H1, I1, q1⟩ => ?_)
    exact h2 pins s1 σ1 H1 _ _ Q I1 rr q1
def gTup (K : PySem.W.Frag) (n : Nat) (t : TGs) : TG := fun v σ H Q => ∃ a xs, v = .ref a ∧ SqT K H a xs ∧ xs.length = n ∧ t xs σ H Q
theorem pg_tup {es : List Expr} {k : Nat} {t : TGs} {n : Nat} (hc : X.calm = true) (h : PGs X es t)
    (hn : (assignEach es X.env).length = n := by rfl) (hst : (assignEach es X.env).findIdx? (·.1) = none := by rfl) : PG X (.Tuple es k pos) (gTup X.K n t) := by
  intro pins s σ H v u Q I r hw
  obtain ⟨a, xs, e1, hq, hl, hw⟩ := hw
  subst e1
  cases r
  obtain ⟨its, rv, ht, hz⟩ := I.tuple hq
  refine assign_Tuple_tuple (I.ok.hd hc) ht (by simp [hn, ← hl, rv.length]) hst fun h' hx => ?_
  have I1 : Inv X pins σ H { s with heap := h' } := I.kept (t' := s.toks) fun b o e => hx b o (Nat.ne_of_lt (Heap.lt_size e)) e
  exact h pins _ σ H xs _ Q I1 (by simpa using rv) hw
def gSub (to ti : TE) (t : TSet) : TG := fun v σ H Q => to σ H fun o H1 => ti σ H1 fun i H2 => t o i v H2 fun H3 => Q σ H3
theorem pg_sub {o i : Expr} {to ti : TE} {t : TSet} (ho : PE X o to) (hi : PE X i ti) (hs : PSet X t)
    (ha : ∀ v, assign (.Subscript o i pos) X.env v = (do
      let ov ← holding [v] (eval o X.env)
      let iv ← holding [v, ov] (eval i X.env)
      standAt pos
      holding [v, ov, iv] (setItem ov iv v)
      release [v, ov, iv] []) := by intro _; rfl) : PG X (.Subscript o i pos) (gSub to ti t) := by
  intro pins s σ H v u Q I r h
  rw [ha]
  refine wpAny_bind (wpAny_holding (thn (ho pins s σ H _ I h) fun ov s1 ⟨x, H1, I1, r1, q1⟩ => ?_))
  refine wpAny_bind (wpAny_holding (thn (hi pins s1 σ H1 _ I1 q1) fun iv s2 ⟨y, H2, I2, r2, q2⟩ => ?_))
  refine wpAny_bind (wpAny_standAt (wpAny_bind (wpAny_holding (thn (hs pins s2 σ H2 x y v ov iv u _ I2 r1 r2 r q2) fun _ s3 ⟨H3, I3, q3⟩ => ?_))))
  exact wpAny_release ⟨σ, H3, I3, q3⟩
def tAsg (te : TE) (g : TG) : TS := fun D σ H => te σ H fun x H1 => g x σ H1 D.nx
theorem ps_asg {tg e : Expr} {te : TE} {g : TG} (he : PE X e te) (hg : PG X tg g) (hs : swapsWithSole [tg] e pos.line X.env = pure false := by rfl) (hw : swappedStores [tg] e X.env = pure none := by rfl)
    (h1 : (assignEach [tg] X.env).map (·.2) = [assign tg X.env] := by rfl) : PS X (.Assign [tg] e pos) (tAsg te g) := by
  intro pins s σ H D I h
  refine wpAny_Assign_stores (thn (he pins s σ H _ I h) fun v s1 ⟨x, H1, I1, r1, q1⟩ => ?_) hs hw
  rw [h1]
  exact thn (hg pins s1 σ H1 x v _ I1 r1 q1) fun _ s2 q => q
theorem ps_set {i : Nat} {x : Str} {e : Expr} {te : TE} {pos' : Pos} (hN : X.N.Nodup) (hi : X.N[i]? = some x) (hx : Loc X.env.scope x) (he : PE X e te) (hs : swapsWith e (some (.Name x pos')) pos.line X.env = pure false := by rfl) (hf : X.fn x = true ∨ X.env.scope.names.lookup x = some .local := by first | exact .inl rfl | exact .inr rfl | assumption) :
    PS X (.Assign [.Name x pos'] e pos) (tAsg te (gName i)) := by
  intro pins s σ H D I h
  refine wpAny_Assign_Name (thn (he pins s σ H _ I h) fun v s1 ⟨y, H1, I1, r1, q1⟩ => ?_) hs
  exact store_ok I1 hN hi hx r1 (fun s2 I2 => ⟨_, H1, I2, q1⟩) hf
end
section
variable {X : Cx} {pos : Pos}
end
structure It where
  go : Nat → Hp → Prop
  yld : Nat → Hp → V → Hp → Prop
  stop : Nat → Hp → Prop
def FpOk (X : Cx) (pins : List (Addr × Obj)) (H : Hp) (b : Addr) : Prop :=
  H b = none ∧ b ≠ X.env.locals ∧ b ∉ X.fs ∧ (b ∈ X.ex ∨ X.s₀.heap.objs.size ≤ b) ∧ (∀ x c, X.env.cells.lookup x = some c → c ≠ b) ∧ ∀ p ∈ X.pn ++ pins, p.1 ≠ b
theorem Inv.fpOk {X : Cx} {pins : List (Addr × Obj)} {σ : St} {H H' : Hp} {s : Shared} {b : Addr} (I : Inv X pins σ H s) (hb : s.heap.objs.size ≤ b) (hn : H' b = none) : FpOk X pins H' b := by
  refine ⟨hn, Nat.ne_of_gt (Nat.lt_of_lt_of_le I.lt hb), I.nofs hb, .inr (Nat.le_trans I.sz hb), fun x c e z => ?_, fun p hp z => ?_⟩
  · obtain ⟨v, q⟩ := I.cell x c e
    exact absurd (Nat.lt_of_lt_of_le q.lt (by rw [z]; exact hb)) (Nat.lt_irrefl _)
  · exact absurd (Nat.lt_of_lt_of_le (Heap.lt_size (I.pin p hp).1) (by rw [z]; exact hb)) (Nat.lt_irrefl _)
structure Turn (P : Program) (w : World) (K : PySem.W.Frag) (tg : Expr) (J : It) (fp : List Addr) (it : Addr) (tn : Nat → Heap → Prop) : Prop where
  mem : it ∈ fp
  obj : ∀ i h, tn i h → ∀ b ∈ fp, ∃ o, h.get? b = some o ∧ ∀ v, o.data ≠ .cell v
  keep : ∀ i h h', tn i h → (∀ b ∈ fp, ∀ o, h.get? b = some o → h'.get? b = some o) → tn i h'
  item : ∀ (X : Cx), X.prog = P → X.w = w → X.K = K → X.calm = true → ∀ (i : Nat) (pins : List (Addr × Obj)) (s : Shared) (σ : St) (H : Hp) (E : Value → Shared → Prop), Inv X pins σ H s → (∀ b ∈ fp, FpOk X pins H b) → tn i s.heap → J.go i H →
    wpAny (model P w) X.A (pyNext (.ref it)) (fun r s1 => ∃ u, r = some u ∧
      wpAny (model P w) X.A (letOwnedTupleGo tg (.ref it) u) (fun _ s2 => ∃ x H', Inv X pins σ H' s2 ∧ RelV x u ∧ J.yld i H x H' ∧ tn (i + 1) s2.heap ∧ ∀ b ∈ fp, H' b = none) E s1) E s
  done : ∀ (X : Cx), X.prog = P → X.w = w → X.K = K → X.calm = true → ∀ (i : Nat) (pins : List (Addr × Obj)) (s : Shared) (σ : St) (H : Hp) (E : Value → Shared → Prop), Inv X pins σ H s → (∀ b ∈ fp, FpOk X pins H b) → tn i s.heap → J.stop i H →
    wpAny (model P w) X.A (pyNext (.ref it)) (fun r s1 => r = none ∧ Inv X pins σ H s1) E s
  self : ∀ (A : Around) (i : Nat) (s : Shared) (Q : Value → Shared → Prop) (E : Value → Shared → Prop), tn i s.heap → Q (.ref it) s → wpAny (model P w) A (pyIter (.ref it)) Q E s
abbrev TI := St → Hp → (It → Hp → Prop) → Prop
def PIE (X : Cx) (pins : List (Addr × Obj)) (σ : St) (tg : Expr) (R : It → Hp → Prop) (itv : Value) (s2 : Shared) : Prop :=
  ∃ (it : Addr) (fp : List Addr) (tn : Nat → Heap → Prop) (J : It) (H' : Hp), itv = .ref it ∧ Inv X pins σ H' s2 ∧ Turn X.prog X.w X.K tg J fp it tn ∧ tn 0 s2.heap ∧ (∀ b ∈ fp, FpOk X pins H' b) ∧ R J H'
def PI (X : Cx) (tg iter : Expr) (wi : TI) : Prop :=
  ∀ (pins : List (Addr × Obj)) (s : Shared) (σ : St) (H : Hp) (R : It → Hp → Prop), Inv X pins σ H s → wi σ H R →
    wpAny (model X.prog X.w) X.A (eval iter X.env) (fun v s1 => wpAny (model X.prog X.w) X.A (pyIter v) (PIE X pins σ tg R) X.xe s1) X.xe s
theorem go_of {M : Model} {A : Around} {E : Value → Shared → Prop} {s : Shared} {tg : Expr} {it : Addr} {u : Value} {o : Obj} {n : String} {vs : Array Value} {Q : Unit → Shared → Prop} (ho : s.heap.get? it = some o) (hc : o.cls = .type n) (hd : o.data = .fields vs)
    (hn : ["enumerate", "zip", "dict_itemiterator", "dict_reverseitemiterator", "odict_iterator", "itertools.zip_longest", "itertools.pairwise"].contains n = false) (hQ : Q () s) : wpAny M A (letOwnedTupleGo tg (.ref it) u) Q E s := by
  unfold letOwnedTupleGo
  cases tg <;> first
    | exact wpAny_pure hQ
    | (cases u <;> first
        | exact wpAny_pure hQ
        | (refine wpAny_bind (wpAny_load ho ?_)
           rw [hc, hd]
           show wpAny M A (if (["enumerate", "zip", "dict_itemiterator", "dict_reverseitemiterator", "odict_iterator", "itertools.zip_longest", "itertools.pairwise"].contains n && vs[0]? == some (rawInt _)) = true then _ else _) Q E s
           rw [if_neg (by intro h; rw [hn, Bool.false_and] at h; cases h)]
           exact wpAny_pure hQ))
def Itl (K : PySem.W.Frag) (a : Addr) : It :=
  ⟨fun i H => ∃ xs x, SqL K H a xs ∧ xs[i]? = some x, fun i H x H' => H' = H ∧ ∀ xs, SqL K H a xs → xs[i]? = some x, fun i H => ∃ xs, SqL K H a xs ∧ xs.length ≤ i⟩
def Itr (lo : Int) (n : Nat) : It := ⟨fun i _ => i < n, fun i H x H' => H' = H ∧ x = .int (lo + i), fun i _ => n ≤ i⟩
theorem turn_list {P : Program} {w : World} {K : PySem.W.Frag} {tg : Expr} (a it : Addr) : Turn P w K tg (Itl K a) [it] it (fun i h => h.IsListIter it a i) where
  mem := by simp
  obj := fun i h st b hb => by
    have e : b = it := by simpa using hb
    subst e
    obtain ⟨o, e, c, d⟩ := st
    exact ⟨o, e, fun v z => by rw [d] at z; cases z⟩
  keep := fun i h h' st k => st.at fun o e => k it (by simp) o e
  item := by
    intro X hP hw hK hc i pins s σ H E I hf st hg
    subst hP hw hK
    obtain ⟨xs, x, hq, hx⟩ := hg
    obtain ⟨its, rv, p, hz⟩ := I.list hq
    obtain ⟨u, hu, ru⟩ := rv.get hx
    obtain ⟨f0, f1, f2, f3, f4, f5⟩ := hf it (by simp)
    refine wpAny_pyNext_list_item st p.isList (x := u) (by simpa using hu) fun h' st' sb => ?_
    have I1 : Inv X pins σ H { s with heap := h' } := I.turned (t' := s.toks) (fun b o hb e => (sb.2 b hb).trans e) f0 f1 f3 f4 f5
    obtain ⟨o, e, c, d⟩ := id st'
    exact ⟨u, rfl, go_of (s := { s with heap := h' }) e c d (by decide) ⟨x, H, I1, ru, ⟨rfl, fun ys hy => by rw [I.list_inj hy hq]; exact hx⟩, st', fun b hb => (hf b hb).1⟩⟩
  done := by
    intro X hP hw hK hc i pins s σ H E I hf st hg
    subst hP hw hK
    obtain ⟨xs, hq, hx⟩ := hg
    obtain ⟨its, rv, p, hz⟩ := I.list hq
    obtain ⟨f0, f1, f2, f3, f4, f5⟩ := hf it (by simp)
    have hl := rv.length
    exact wpAny_pyNext_list_end (I.ok.hd hc) st p.isList (by simp; omega) fun h' eb => ⟨rfl, I.turned (t' := s.toks) (fun b o hb e => eb b o hb e) f0 f1 f3 f4 f5⟩
  self := fun _ _ _ _ _ st h => wpAny_pyIter_listiter st h
theorem turn_range {P : Program} {w : World} {K : PySem.W.Frag} {tg : Expr} (it : Addr) (lo : Int) (n : Nat) : Turn P w K tg (Itr lo n) [it] it (fun i h => IsRangeIter h it (lo + (i : Nat) * 1) ((n : Int) - (i : Nat)) 1) where
  mem := by simp
  obj := fun i h st b hb => by
    have e : b = it := by simpa using hb
    subst e
    exact ⟨_, st, fun v z => by
      have z' : Data.fields _ = Data.cell v := z
      cases z'⟩
  keep := fun i h h' st k => k it (by simp) _ st
  item := by
    intro X hP hw hK hc i pins s σ H E I hf st hg
    subst hP hw hK
    obtain ⟨f0, f1, f2, f3, f4, f5⟩ := hf it (by simp)
    have W := Walks.range (prog := X.prog) (w := X.w) (I.ok.hd hc) it lo 1 n
    refine W.item i s _ _ hg st fun v h' tk hv st' kk => ?_
    obtain ⟨t, rfl⟩ := hv
    have I1 : Inv X pins σ H { s with heap := h', toks := tk } := I.turned (fun b o hb e => kk b o (by simpa using hb) e) f0 f1 f3 f4 f5
    refine ⟨_, rfl, go_of (s := { s with heap := h', toks := tk }) (n := "range_iterator") st' rfl rfl (by decide) ⟨.int (lo + i), H, I1, ⟨t, ?_⟩, ⟨rfl, rfl⟩, st', fun b hb => (hf b hb).1⟩⟩
    rw [Int.mul_one]
  done := by
    intro X hP hw hK hc i pins s σ H E I hf st hg
    subst hP hw hK
    obtain ⟨f0, f1, f2, f3, f4, f5⟩ := hf it (by simp)
    exact wpAny_pyNext_range_end (I.ok.hd hc) st (by have : n ≤ i := hg; omega) fun h' eb => ⟨rfl, I.turned (t' := s.toks) (fun b o hb e => eb b o hb e) f0 f1 f3 f4 f5⟩
  self := fun _ _ _ _ _ st h => wpAny_pyIter_rangeiter st h
end L2
namespace L2
open PySem PySem.Spec PyProof.Rows
section
variable {X : Cx} {tg : Expr}
def iList (K : PySem.W.Frag) (tl : TE) : TI := fun σ H R => tl σ H fun x H1 => ∃ a, x = .ref a ∧ (∃ xs, SqL K H1 a xs) ∧ R (Itl K a) H1
theorem pi_list {l : Expr} {tl : TE} (hl : PE X l tl) : PI X tg l (iList X.K tl) := by
  intro pins s σ H R I h
  refine thn (hl pins s σ H _ I h) fun v s1 ⟨x, H1, I1, r1, q1⟩ => ?_
  obtain ⟨a, e, ⟨xs, hq⟩, q⟩ := q1
  subst e
  cases r1
  obtain ⟨its, rv, p, hz⟩ := I1.list hq
  refine wpAny_pyIter_list p.isList ?_
  refine ⟨s1.heap.objs.size, [s1.heap.objs.size], _, _, H1, rfl, I1.kept (t' := s1.toks) fun b o e => Heap.get?_push_of_some _ e, turn_list a _, ⟨_, Heap.get?_push_size _ rfl, rfl, rfl⟩, fun b hb => ?_, q⟩
  have e : b = s1.heap.objs.size := by simpa using hb
  subst e
  exact I1.fpOk (Nat.le_refl _) (I1.hok.fresh (Nat.le_refl _))
theorem range_it {pins : List (Addr × Obj)} {σ : St} {H : Hp} {s : Shared} {R : It → Hp → Prop} {E : Value → Shared → Prop} {lo hi : Int} {t u v : Tok} {tk : Nat} (I : Inv X pins σ H s) (h1 : -(2 ^ 62) ≤ lo) (h2 : lo < 2 ^ 62) (h3 : -(2 ^ 62) ≤ hi) (h4 : hi < 2 ^ 62)
    (q : R (Itr lo (hi - lo).toNat) H) : wpAny (model X.prog X.w) X.A (pyIter (.ref s.heap.objs.size)) (PIE X pins σ tg R) E { s with heap := s.heap.push { cls := .type "range", data := .fields #[.int lo t, .int hi u, .int 1 v] }, toks := tk } := by
  refine wpAny_pyIter_range (IsRange.new ..) (small_one h1 h2 h3 h4) ?_
  have I1 : Inv X pins σ H { s with heap := s.heap.push { cls := .type "range", data := .fields #[.int lo t, .int hi u, .int 1 v] }, toks := tk } := I.kept fun b o e => Heap.get?_push_of_some _ e
  refine ⟨(s.heap.push { cls := .type "range", data := .fields #[.int lo t, .int hi u, .int 1 v] }).objs.size, [(s.heap.push { cls := .type "range", data := .fields #[.int lo t, .int hi u, .int 1 v] }).objs.size], _, _, H, rfl,
    I1.kept (t' := tk) fun b o e => Heap.get?_push_of_some _ e, turn_range _ lo (hi - lo).toNat, ?_, fun b hb => ?_, q⟩
  · have e1 : lo + ((0 : Nat) : Int) * 1 = lo := by simp
    have e2 : (((hi - lo).toNat : Nat) : Int) - ((0 : Nat) : Int) = Builtin.Range.rangeSize lo hi 1 := by rw [rangeSize_one]; split <;> omega
    show IsRangeIter _ _ (lo + ((0 : Nat) : Int) * 1) ((((hi - lo).toNat : Nat) : Int) - ((0 : Nat) : Int)) 1
    rw [e1, e2]
    exact Heap.get?_push_size _ rfl
  · have e : b = (s.heap.push { cls := .type "range", data := .fields #[.int lo t, .int hi u, .int 1 v] }).objs.size := by simpa using hb
    subst e
    exact I1.fpOk (Nat.le_refl _) (I1.hok.fresh (Nat.le_refl _))
def iRng1 (ta : TA) : TI := fun σ H R => ta σ H fun vs H1 => ∃ j : Int, vs = [.int j] ∧ -(2 ^ 62) ≤ j ∧ j < 2 ^ 62 ∧ R (Itr 0 j.toNat) H1
theorem pi_range1 {a : Expr} {ta : TA} {p pos : Pos} (hg : Gl X "range") (hm : X.mg "range" = none) (ha : PA X [a] ta) (hs : starEach [a] X.env = [(false, eval a X.env)] := by rfl) : PI X tg (.Call (.Name "range" p) [a] [] pos) (iRng1 ta) := by
  intro pins s σ H R I h
  refine Call_ (ld_blt I hg hm boot_range (PyProof.Rows.callWith_type1 (thn (ha pos pins s σ H _ I h) fun us s1 ⟨vs, H1, I1, r1, q1⟩ => ?_) hs rfl))
  obtain ⟨j, e, q1, q2, q⟩ := q1
  subst e
  cases r1 with
  | cons r rr =>
    cases rr
    obtain ⟨t, rfl⟩ := r
    exact call_range_1 (range_it I1 (by omega) (by omega) q1 q2 (by simpa using q))
def tFor (wi : TI) (g : TG) (tb : TS) : TS := fun D σ H => wi σ H fun J H1 => ∃ W : Nat → Nat → St → Hp → Prop, (∃ m, W 0 m σ H1) ∧ ∀ i m σ H, W i m σ H →
  (J.stop i H ∧ D.nx σ H) ∨ (J.go i H ∧ ∃ N : St → Hp → Prop, (∀ σ' H', N σ' H' → ∃ m', m' < m ∧ W (i + 1) m' σ' H') ∧ ∀ x H', J.yld i H x H' → g x σ H' fun σ2 H2 => tb { D with nx := N, ct := N, bk := D.nx } σ2 H2)
def pinsAt (fp : List Addr) (h : Heap) : List (Addr × Obj) := fp.filterMap fun b => (h.get? b).map fun o => (b, o)
theorem mem_pinsAt {fp : List Addr} {h : Heap} {b : Addr} {o : Obj} (hb : b ∈ fp) (e : h.get? b = some o) : (b, o) ∈ pinsAt fp h := List.mem_filterMap.mpr ⟨b, hb, by rw [e]; rfl⟩
theorem of_pinsAt {fp : List Addr} {h : Heap} {p : Addr × Obj} (hp : p ∈ pinsAt fp h) : p.1 ∈ fp ∧ h.get? p.1 = some p.2 := by
  obtain ⟨b, hb, e⟩ := List.mem_filterMap.mp hp
  cases q : h.get? b with
  | none => rw [q] at e; cases e
  | some o =>
    rw [q] at e
    have e' : (b, o) = p := Option.some.inj e
    subst e'
    exact ⟨hb, q⟩
theorem Inv.pinned {pins : List (Addr × Obj)} {σ : St} {H : Hp} {s : Shared} {fp : List Addr} (I : Inv X pins σ H s) (hf : ∀ b ∈ fp, FpOk X pins H b) (ho : ∀ b ∈ fp, ∃ o, s.heap.get? b = some o ∧ ∀ v, o.data ≠ .cell v) : Inv X (pins ++ pinsAt fp s.heap) σ H s :=
  I.pins_of fun p hp => (List.mem_append.mp hp).elim (fun z => I.pin p (List.mem_append_right _ z)) fun z => by
    obtain ⟨hb, e⟩ := of_pinsAt z
    obtain ⟨f0, f1, f2, _⟩ := hf p.1 hb
    obtain ⟨o, e', d⟩ := ho p.1 hb
    rw [e] at e'; cases e'
    exact ⟨e, f0, f1, f2, d⟩
theorem Inv.unpinned {pins pl : List (Addr × Obj)} {σ : St} {H : Hp} {s : Shared} (I : Inv X (pins ++ pl) σ H s) : Inv X pins σ H s := I.pins_of fun p hp => I.pin p (List.mem_append_right _ (List.mem_append_left _ hp))
theorem ps_for {iter : Expr} {body : List Stmt} {wi : TI} {g : TG} {tb : TS} {pos : Pos} (hp : PassesOwn (model X.prog X.w) X.A X.env X.xe) (hc : X.calm = true) (hi : PI X tg iter wi) (hg : PG X tg g) (hb : PSs X body tb)
    (hs : ∀ x, foldedSetIterable iter X.env x = pure x := by intro _; rfl) : PS X (.For tg iter body [] pos) (tFor wi g tb) := by
  intro pins s σ H D I h
  refine wpAny_For (thn (hi pins s σ H _ I h) fun v s1 h1 => thn h1 fun itv s2 h2 => ?_) hs
  obtain ⟨it, fp, tn, J, H2, e, I2, T, st2, f2, W, ⟨m0, w0⟩, turn⟩ := h2
  subst e
  -- what stays true of the iterator's objects through the loop
  have stat : ∀ {H' : Hp}, (∀ b ∈ fp, H' b = none) → ∀ b ∈ fp, FpOk X pins H' b := fun hn b hb => ⟨hn b hb, (f2 b hb).2⟩
  refine codeAny_forLoop_any (fun n s' => ∃ i σ' H', Inv X pins σ' H' s' ∧ tn i s'.heap ∧ (∀ b ∈ fp, H' b = none) ∧ W i n σ' H') ?_ m0 ⟨0, σ, H2, I2, st2, fun b hb => (f2 b hb).1, w0⟩
  rintro n s3 ⟨i, σ3, H3, I3, st3, fr3, w3⟩
  rcases turn i n σ3 H3 w3 with ⟨stop, qn⟩ | ⟨go, N, hN, step⟩
  · refine wpAny_passesOwn hp (thn (T.done X rfl rfl rfl hc i pins s3 σ3 H3 X.xe I3 (stat fr3) st3 stop) fun r s4 ⟨hr, I4⟩ => ?_)
    subst hr
    exact wpAny_execs_nil ⟨σ3, H3, I4, qn⟩
  · refine wpAny_passesOwn hp (thn (T.item X rfl rfl rfl hc i pins s3 σ3 H3 X.xe I3 (stat fr3) st3 go) fun r s4 ⟨u, hr, h4⟩ => ?_)
    subst hr
    refine wpAny_passesOwn hp (thn h4 fun _ s5 ⟨x, H5, I5, r5, y5, st5, fr5⟩ => ?_)
    have I5' := I5.pinned (stat fr5) (T.obj _ _ st5)
    refine wpAny_passesOwn hp (thn (hg _ s5 σ3 H5 x u _ I5' r5 (step x H5 y5)) fun _ s6 ⟨σ6, H6, I6, q6⟩ => ?_)
    refine wpAny_passesOwn hp (thn (hb _ s6 σ6 H6 _ I6 q6) fun f s7 q7 => ?_)
    have again : ∀ {σ7 : St} {H7 : Hp}, Inv X (pins ++ pinsAt fp s5.heap) σ7 H7 s7 → N σ7 H7 → ∃ m, m < n ∧ ∃ i σ' H', Inv X pins σ' H' s7 ∧ tn i s7.heap ∧ (∀ b ∈ fp, H' b = none) ∧ W i m σ' H' := fun {σ7 H7} I7 n7 => by
      obtain ⟨m', hm, w7⟩ := hN σ7 H7 n7
      refine ⟨m', hm, i + 1, σ7, H7, I7.unpinned, T.keep _ _ _ st5 fun b hb o e => (I7.pin (b, o) (List.mem_append_right _ (List.mem_append_right _ (mem_pinsAt hb e)))).1, fun b hb => ?_, w7⟩
      obtain ⟨o, e, d⟩ := T.obj _ _ st5 b hb
      exact (I7.pin (b, o) (List.mem_append_right _ (List.mem_append_right _ (mem_pinsAt hb e)))).2.1
    cases f with
    | next => obtain ⟨σ7, H7, I7, n7⟩ := q7; exact again I7 n7
    | cont => obtain ⟨σ7, H7, I7, n7⟩ := q7; exact again I7 n7
    | brk => obtain ⟨σ7, H7, I7, q7⟩ := q7; exact ⟨σ7, H7, I7.unpinned, q7⟩
    | ret v => obtain ⟨x7, σ7, H7, I7, r7, q7⟩ := q7; exact ⟨x7, σ7, H7, I7.unpinned, r7, q7⟩
end
theorem for_list {K : PySem.W.Frag} {a : Addr} {xs : List V} {g : TG} {tb : TS} {D : Ends} {σ : St} {H : Hp} (Pv : Nat → St → Hp → Prop) (h0 : Pv 0 σ H) (hl : ∀ i σ H, i ≤ xs.length → Pv i σ H → SqL K H a xs)
    (hs : ∀ i x σ H, xs[i]? = some x → Pv i σ H → g x σ H fun σ2 H2 => tb { D with nx := Pv (i + 1), ct := Pv (i + 1), bk := D.nx } σ2 H2) (hd : ∀ σ H, Pv xs.length σ H → D.nx σ H) :
    ∃ W : Nat → Nat → St → Hp → Prop, (∃ m, W 0 m σ H) ∧ ∀ i m σ H, W i m σ H →
      ((Itl K a).stop i H ∧ D.nx σ H) ∨ ((Itl K a).go i H ∧ ∃ N : St → Hp → Prop, (∀ σ' H', N σ' H' → ∃ m', m' < m ∧ W (i + 1) m' σ' H') ∧ ∀ x H', (Itl K a).yld i H x H' → g x σ H' fun σ2 H2 => tb { D with nx := N, ct := N, bk := D.nx } σ2 H2) := by
  refine ⟨fun i m σ H => m = xs.length - i ∧ i ≤ xs.length ∧ Pv i σ H, ⟨xs.length, by simp, Nat.zero_le _, h0⟩, ?_⟩
  rintro i m σ H ⟨rfl, hi, p⟩
  have q := hl i σ H hi p
  by_cases hlt : i < xs.length
  · refine .inr ⟨⟨xs, xs[i], q, by simp [hlt]⟩, Pv (i + 1), fun σ' H' p' => ⟨xs.length - (i + 1), by omega, rfl, hlt, p'⟩, fun x H' y => ?_⟩
    obtain ⟨e, y⟩ := y
    subst e
    exact hs i x σ _ (y xs q) p
  · have e : i = xs.length := by omega
    subst e
    exact .inl ⟨⟨xs, q, Nat.le_refl _⟩, hd σ H p⟩
theorem for_range {lo : Int} {n : Nat} {g : TG} {tb : TS} {D : Ends} {σ : St} {H : Hp} (Pv : Nat → St → Hp → Prop) (h0 : Pv 0 σ H)
    (hs : ∀ i σ H, i < n → Pv i σ H → g (.int (lo + i)) σ H fun σ2 H2 => tb { D with nx := Pv (i + 1), ct := Pv (i + 1), bk := D.nx } σ2 H2) (hd : ∀ σ H, Pv n σ H → D.nx σ H) :
    ∃ W : Nat → Nat → St → Hp → Prop, (∃ m, W 0 m σ H) ∧ ∀ i m σ H, W i m σ H →
      ((Itr lo n).stop i H ∧ D.nx σ H) ∨ ((Itr lo n).go i H ∧ ∃ N : St → Hp → Prop, (∀ σ' H', N σ' H' → ∃ m', m' < m ∧ W (i + 1) m' σ' H') ∧ ∀ x H', (Itr lo n).yld i H x H' → g x σ H' fun σ2 H2 => tb { D with nx := N, ct := N, bk := D.nx } σ2 H2) := by
  refine ⟨fun i m σ H => m = n - i ∧ i ≤ n ∧ Pv i σ H, ⟨n, by simp, Nat.zero_le _, h0⟩, ?_⟩
  rintro i m σ H ⟨rfl, hi, p⟩
  by_cases hlt : i < n
  · refine .inr ⟨hlt, Pv (i + 1), fun σ' H' p' => ⟨n - (i + 1), by omega, rfl, hlt, p'⟩, fun x H' y => ?_⟩
    obtain ⟨e, y⟩ := y
    subst e y
    exact hs i σ _ hlt p
  · have e : i = n := by omega
    subst e
    exact .inl ⟨Nat.le_refl _, hd σ H p⟩
end L2
namespace L2
open PySem PySem.Spec PyProof.Rows
abbrev R2 := V → V → Hp → VK → Prop
def OpR (X : Cx) (f : Value → Value → Sem Value) (r : R2) : Prop :=
  ∀ (pins : List (Addr × Obj)) (s : Shared) (σ : St) (H : Hp) (x y : V) (v u : Value) (Q : VK), Inv X pins σ H s → RelV x v → RelV y u → r x y H Q →
    wpAny (model X.prog X.w) X.A (f v u) (EP X pins σ Q) X.xe s
def UnR (X : Cx) (f : Value → Sem Value) (r : V → Hp → VK → Prop) : Prop :=
  ∀ (pins : List (Addr × Obj)) (s : Shared) (σ : St) (H : Hp) (x : V) (v : Value) (Q : VK), Inv X pins σ H s → RelV x v → r x H Q →
    wpAny (model X.prog X.w) X.A (f v) (EP X pins σ Q) X.xe s
def CallR (X : Cx) (f : Value) (r : List V → Hp → VK → Prop) : Prop :=
  ∀ (pins : List (Addr × Obj)) (s : Shared) (σ : St) (H : Hp) (xs : List V) (us : List Value) (Q : VK), Inv X pins σ H s → Vals xs us → r xs H Q →
    wpAny (model X.prog X.w) X.A (call f us) (EP X pins σ Q) X.xe s
def tOp (r : R2) (ta tb : TE) : TE := fun σ H Q => ta σ H fun x H1 => tb σ H1 fun y H2 => r x y H2 Q
def tUn (r : V → Hp → VK → Prop) (ta : TE) : TE := fun σ H Q => ta σ H fun x H1 => r x H1 Q
def rI (C : Int → Int → Prop) (g : Int → Int → V) : R2 := fun x y H Q => ∃ i j, x = .int i ∧ y = .int j ∧ C i j ∧ Q (g i j) H
def rI0 (g : Int → Int → V) : R2 := fun x y H Q => ∃ i j, x = .int i ∧ y = .int j ∧ Q (g i j) H
def rU (g : Int → V) : V → Hp → VK → Prop := fun x H Q => ∃ i, x = .int i ∧ Q (g i) H
section
variable {X : Cx} {a b c : Expr} {ta tb tc : TE} {pos : Pos}
theorem binT (ha : PE X a ta) (hb : PE X b tb) {pins : List (Addr × Obj)} {s : Shared} {σ : St} {H : Hp} {R : V → V → Hp → Prop} (I : Inv X pins σ H s)
    (h : ta σ H fun x H1 => tb σ H1 fun y H2 => R x y H2) {Q : Value → Shared → Prop} {f : Value → Value → Sem Value}
    (hf : ∀ v u s2 x y H2, Inv X pins σ H2 s2 → RelV x v → RelV y u → R x y H2 → wpAny (model X.prog X.w) X.A (f v u) Q X.xe s2) :
    wpAny (model X.prog X.w) X.A (eval a X.env) (fun v s₁ => wpAny (model X.prog X.w) X.A (eval b X.env) (fun u s₂ => wpAny (model X.prog X.w) X.A (f v u) Q X.xe s₂) X.xe s₁) X.xe s := by
  refine thn (ha pins s σ H _ I h) fun v s1 ⟨x, H1, I1, r1, q1⟩ => ?_
  refine thn (hb pins s1 σ H1 _ I1 q1) fun u s2 ⟨y, H2, I2, r2, q2⟩ => ?_
  exact hf v u s2 x y H2 I2 r1 r2 q2
theorem pe_op {op : Operator} {r : R2} (ho : OpR X (binaryOp op) r) (ha : PE X a ta) (hb : PE X b tb) : PE X (.BinOp a op b pos) (tOp r ta tb) := by
  intro pins s σ H Q I h
  exact wpAny_BinOp (binT ha hb I h fun v u s2 x y H2 I2 rx ry q => ho pins s2 σ H2 x y v u Q I2 rx ry q)
theorem pe_un {op : UnaryOp} {r : V → Hp → VK → Prop} (ho : UnR X (unaryOp op) r) (ha : PE X a ta) : PE X (.UnaryOp op a pos) (tUn r ta) := by
  intro pins s σ H Q I h
  exact UnaryOp_ (thn (ha pins s σ H _ I h) fun v s1 ⟨x, H1, I1, r1, q1⟩ => ho pins s1 σ H1 x v Q I1 r1 q1)
theorem opI {f : Value → Value → Sem Value} {C : Int → Int → Prop} {g : Int → Int → Int}
    (rule : ∀ (i j : Int) (t u : Tok) (s : Shared) (Q : Value → Shared → Prop) (E : Value → Shared → Prop), C i j → Q (.int (g i j) s.toks) { s with toks := s.toks + 1 } → wpAny (model X.prog X.w) X.A (f (.int i t) (.int j u)) Q E s) :
    OpR X f (rI C fun i j => .int (g i j)) := by
  intro pins s σ H x y v u Q I rx ry h
  obtain ⟨i, j, rfl, rfl, hc, q⟩ := h
  obtain ⟨t, rfl⟩ := rx
  obtain ⟨t', rfl⟩ := ry
  exact rule i j t t' s _ _ hc ⟨.int (g i j), H, I.tok _, ⟨_, rfl⟩, q⟩
theorem opI0 {f : Value → Value → Sem Value} {g : Int → Int → Int}
    (rule : ∀ (i j : Int) (t u : Tok) (s : Shared) (Q : Value → Shared → Prop) (E : Value → Shared → Prop), Q (.int (g i j) s.toks) { s with toks := s.toks + 1 } → wpAny (model X.prog X.w) X.A (f (.int i t) (.int j u)) Q E s) :
    OpR X f (rI0 fun i j => .int (g i j)) := by
  intro pins s σ H x y v u Q I rx ry h
  obtain ⟨i, j, rfl, rfl, q⟩ := h
  obtain ⟨t, rfl⟩ := rx
  obtain ⟨t', rfl⟩ := ry
  exact rule i j t t' s _ _ ⟨.int (g i j), H, I.tok _, ⟨_, rfl⟩, q⟩
theorem opB0 {f : Value → Value → Sem Value} {g : Int → Int → Bool}
    (rule : ∀ (i j : Int) (t u : Tok) (s : Shared) (Q : Value → Shared → Prop) (E : Value → Shared → Prop), Q (.bool (g i j)) s → wpAny (model X.prog X.w) X.A (f (.int i t) (.int j u)) Q E s) :
    OpR X f (rI0 fun i j => .bl (g i j)) := by
  intro pins s σ H x y v u Q I rx ry h
  obtain ⟨i, j, rfl, rfl, q⟩ := h
  obtain ⟨t, rfl⟩ := rx
  obtain ⟨t', rfl⟩ := ry
  exact rule i j t t' s _ _ ⟨.bl (g i j), H, I, rfl, q⟩
def CDiv (i j : Int) : Prop := 0 < j ∧ j < 1073741824
def CPow (i j : Int) : Prop := 0 ≤ j ∧ j ≤ 1000000 ∧ i.natAbs < 2 ^ 64
def CMul (i j : Int) : Prop := (-(2 ^ 64) < i ∧ i < 2 ^ 64) ∨ (-(2 ^ 64) < j ∧ j < 2 ^ 64)
theorem CMul.ok {i j : Int} (h : CMul i j) : IntMulOk i j := by
  rcases h with ⟨h1, h2⟩ | ⟨h1, h2⟩
  · exact .of_left (intBits_le_64 h1 h2)
  · exact .of_right (intBits_le_64 h1 h2)
theorem op_add : OpR X (binaryOp .Add) (rI0 fun i j => .int (i + j)) := opI0 fun _ _ _ _ _ _ _ q => add_int q
theorem op_sub : OpR X (binaryOp .Sub) (rI0 fun i j => .int (i - j)) := opI0 fun _ _ _ _ _ _ _ q => sub_int q
theorem op_mul : OpR X (binaryOp .Mult) (rI CMul fun i j => .int (i * j)) := opI fun _ _ _ _ _ _ _ hc q => mul_int q hc.ok
theorem op_fdiv : OpR X (binaryOp .FloorDiv) (rI CDiv fun i j => .int (i / j)) := opI fun i j _ _ _ _ _ hc q => by
  have h1 : (0 : Int) < j := hc.1
  have h2 : j < 1073741824 := hc.2
  exact floordiv_int (by omega) (by rw [Int.fdiv_eq_ediv_of_nonneg i (by omega)]; exact q) (.inl (PyProof.noPylong_small (by omega)))
theorem op_mod : OpR X (binaryOp .Mod) (rI (fun _ j => 0 < j) fun i j => .int (i % j)) := opI fun i j _ _ _ _ _ hc q => by
  have h1 : (0 : Int) < j := hc
  exact mod_int' (by omega) (by rw [Int.fmod_eq_emod_of_nonneg i (by omega)]; exact q)
theorem op_pow : OpR X (binaryOp .Pow) (rI CPow fun i j => .int (i ^ j.toNat)) := opI fun _ _ _ _ _ _ _ hc q => pow_int_small hc.1 hc.2.1 hc.2.2 q
theorem unI {f : Value → Sem Value} {g : Int → Int}
    (rule : ∀ (i : Int) (t : Tok) (s : Shared) (Q : Value → Shared → Prop) (E : Value → Shared → Prop), Q (.int (g i) s.toks) { s with toks := s.toks + 1 } → wpAny (model X.prog X.w) X.A (f (.int i t)) Q E s) :
    UnR X f (rU fun i => .int (g i)) := by
  intro pins s σ H x v Q I rx h
  obtain ⟨i, rfl, q⟩ := h
  obtain ⟨t, rfl⟩ := rx
  exact rule i t s _ _ ⟨.int (g i), H, I.tok _, ⟨_, rfl⟩, q⟩
theorem un_neg : UnR X (unaryOp .USub) (rU fun i => .int (-i)) := unI fun _ _ _ _ _ q => neg_int q
end
def scal : V → V → Bool
  | .non, .non => true | .non, .int _ => true | .int _, .non => true | .non, .bl _ => true | .bl _, .non => true | .non, .str _ => true | .str _, .non => true
  | .int _, .int _ => true | .bl _, .bl _ => true | .str _, .str _ => true | .byt _, .byt _ => true
  | .int _, .str _ => true | .str _, .int _ => true | .bl _, .str _ => true | .str _, .bl _ => true
  | _, _ => false
def rEq : R2 := fun x y H Q => scal x y = true ∧ Q (.bl (decide (x = y))) H
def rNe : R2 := fun x y H Q => scal x y = true ∧ Q (.bl (!decide (x = y))) H
theorem dec_int {i j : Int} : decide (V.int i = V.int j) = (i == j) := by
  rw [Bool.eq_iff_iff]
  simp
theorem dec_bl {i j : Bool} : decide (V.bl i = V.bl j) = (i == j) := by
  rw [Bool.eq_iff_iff]
  simp
theorem dec_str {i j : Str} : decide (V.str i = V.str j) = (i == j) := by
  rw [Bool.eq_iff_iff]
  simp
theorem dec_byt {i j : Array UInt8} : decide (V.byt i = V.byt j) = (i.toList == j.toList) := by
  rw [Bool.eq_iff_iff]
  cases i
  cases j
  simp
section
variable {X : Cx} {a b c : Expr} {ta tb tc : TE} {pos : Pos}
theorem fin_bl {pins : List (Addr × Obj)} {σ : St} {H : Hp} {s : Shared} {Q : VK} {k k' : Bool} (I : Inv X pins σ H s) (q : Q (.bl k) H) (e : k = k') : EP X pins σ Q (.bool k') s := by
  subst e
  exact ⟨.bl k, H, I, rfl, q⟩
theorem op_eq : OpR X (compareOp .Eq) rEq := by
  intro pins s σ H x y v u Q I rx ry h
  obtain ⟨hs, q⟩ := h
  cases x with
  | non =>
    cases rx
    cases y with
    | non => cases ry; exact PySem.EqNone.eq_none_none (fin_bl I q (by simp))
    | bl j => cases ry; exact PySem.EqNone.eq_none_bool (fin_bl I q (by simp))
    | int j => obtain ⟨t', rfl⟩ := ry; exact PySem.EqNone.eq_none_int (fin_bl I q (by simp))
    | str j => obtain ⟨t', rfl⟩ := ry; exact PySem.EqNone.eq_none_str (fin_bl I q (by simp))
    | _ => exact absurd (show false = true from hs) Bool.false_ne_true
  | bl i =>
    cases rx
    cases y with
    | non => cases ry; exact PySem.EqNone.eq_bool_none (fin_bl I q (by simp))
    | bl j => cases ry; exact eq_bool (fin_bl I q dec_bl)
    | str j => obtain ⟨t', rfl⟩ := ry; exact PySem.EqMixed.eq_bool_str (fin_bl I q (by simp))
    | _ => exact absurd (show false = true from hs) Bool.false_ne_true
  | int i =>
    obtain ⟨t, rfl⟩ := rx
    cases y with
    | non => cases ry; exact PySem.EqNone.eq_int_none (fin_bl I q (by simp))
    | int j => obtain ⟨t', rfl⟩ := ry; exact eq_int (fin_bl I q dec_int)
    | str j => obtain ⟨t', rfl⟩ := ry; exact PySem.EqMixed.eq_int_str (fin_bl I q (by simp))
    | _ => exact absurd (show false = true from hs) Bool.false_ne_true
  | str i =>
    obtain ⟨t, rfl⟩ := rx
    cases y with
    | non => cases ry; exact PySem.EqNone.eq_str_none (fin_bl I q (by simp))
    | bl j => cases ry; exact PySem.EqMixed.eq_str_bool (fin_bl I q (by simp))
    | int j => obtain ⟨t', rfl⟩ := ry; exact PySem.EqMixed.eq_str_int (fin_bl I q (by simp))
    | str j => obtain ⟨t', rfl⟩ := ry; exact eq_str (fin_bl I q dec_str)
    | _ => exact absurd (show false = true from hs) Bool.false_ne_true
  | byt i =>
    obtain ⟨t, rfl⟩ := rx
    cases y with
    | byt j => obtain ⟨t', rfl⟩ := ry; exact PySem.W.eq_bytes (fin_bl I q dec_byt)
    | _ => exact absurd (show false = true from hs) Bool.false_ne_true
  | _ => cases y <;> exact absurd (show false = true from hs) Bool.false_ne_true
theorem op_ne : OpR X (compareOp .NotEq) rNe := by
  intro pins s σ H x y v u Q I rx ry h
  obtain ⟨hs, q⟩ := h
  cases x with
  | non =>
    cases rx
    cases y with
    | non => cases ry; exact PySem.EqNone.ne_none_none (fin_bl I q (by simp))
    | bl j => cases ry; exact PySem.EqNone.ne_none_bool (fin_bl I q (by simp))
    | int j => obtain ⟨t', rfl⟩ := ry; exact PySem.EqNone.ne_none_int (fin_bl I q (by simp))
    | str j => obtain ⟨t', rfl⟩ := ry; exact PySem.EqNone.ne_none_str (fin_bl I q (by simp))
    | _ => exact absurd (show false = true from hs) Bool.false_ne_true
  | bl i =>
    cases rx
    cases y with
    | non => cases ry; exact PySem.EqNone.ne_bool_none (fin_bl I q (by simp))
    | bl j => cases ry; exact ne_bool (fin_bl I q (congrArg not dec_bl))
    | str j => obtain ⟨t', rfl⟩ := ry; exact PySem.EqMixed.ne_bool_str (fin_bl I q (by simp))
    | _ => exact absurd (show false = true from hs) Bool.false_ne_true
  | int i =>
    obtain ⟨t, rfl⟩ := rx
    cases y with
    | non => cases ry; exact PySem.EqNone.ne_int_none (fin_bl I q (by simp))
    | int j => obtain ⟨t', rfl⟩ := ry; exact ne_int (fin_bl I q (congrArg not dec_int))
    | str j => obtain ⟨t', rfl⟩ := ry; exact PySem.EqMixed.ne_int_str (fin_bl I q (by simp))
    | _ => exact absurd (show false = true from hs) Bool.false_ne_true
  | str i =>
    obtain ⟨t, rfl⟩ := rx
    cases y with
    | non => cases ry; exact PySem.EqNone.ne_str_none (fin_bl I q (by simp))
    | bl j => cases ry; exact PySem.EqMixed.ne_str_bool (fin_bl I q (by simp))
    | int j => obtain ⟨t', rfl⟩ := ry; exact PySem.EqMixed.ne_str_int (fin_bl I q (by simp))
    | str j => obtain ⟨t', rfl⟩ := ry; exact ne_str (fin_bl I q (congrArg not dec_str))
    | _ => exact absurd (show false = true from hs) Bool.false_ne_true
  | byt i =>
    obtain ⟨t, rfl⟩ := rx
    cases y with
    | byt j => obtain ⟨t', rfl⟩ := ry; exact PySem.W.ne_bytes (fin_bl I q (congrArg not dec_byt))
    | _ => exact absurd (show false = true from hs) Bool.false_ne_true
  | _ => cases y <;> exact absurd (show false = true from hs) Bool.false_ne_true
theorem op_lt : OpR X (compareOp .Lt) (rI0 fun i j => .bl (decide (i < j))) := opB0 fun _ _ _ _ _ _ _ q => lt_int q
theorem op_le : OpR X (compareOp .LtE) (rI0 fun i j => .bl (decide (i ≤ j))) := opB0 fun _ _ _ _ _ _ _ q => le_int q
theorem op_gt : OpR X (compareOp .Gt) (rI0 fun i j => .bl (decide (j < i))) := opB0 fun _ _ _ _ _ _ _ q => gt_int q
theorem op_ge : OpR X (compareOp .GtE) (rI0 fun i j => .bl (decide (j ≤ i))) := opB0 fun _ _ _ _ _ _ _ q => ge_int q
theorem op_isN : OpR X (compareOp .Is) (fun x y H Q => y = .non ∧ Q (.bl (decide (x = .non))) H) := by
  intro pins s σ H x y v u Q I rx ry h
  obtain ⟨rfl, q⟩ := h
  cases ry
  refine is_none_gen (fin_bl I q ?_)
  cases x <;> first
    | (cases rx; rfl)
    | (obtain ⟨t, rfl⟩ := rx; rfl)
theorem op_notN : OpR X (compareOp .IsNot) (fun x y H Q => y = .non ∧ Q (.bl (!decide (x = .non))) H) := by
  intro pins s σ H x y v u Q I rx ry h
  obtain ⟨rfl, q⟩ := h
  cases ry
  refine isnot_none_gen (fin_bl I q ?_)
  cases x <;> first
    | (cases rx; rfl)
    | (obtain ⟨t, rfl⟩ := rx; rfl)
theorem nomark (b : Expr) {op : CmpOp} (h : op ≠ .In := by decide) (h2 : op ≠ .NotIn := by decide) : behindInMarks op b = false := by
  have e1 : (op == CmpOp.In) = false := by cases op <;> first | rfl | exact absurd rfl h
  have e2 : (op == CmpOp.NotIn) = false := by cases op <;> first | rfl | exact absurd rfl h2
  cases b <;> simp [behindInMarks, e1, e2]
theorem pe_cmpR {op : CmpOp} {r : R2} (ho : OpR X (compareOp op) r) (ha : PE X a ta) (hb : PE X b tb) (hm : behindInMarks op b = false) : PE X (.Compare a [op] [b] pos) (tOp r ta tb) := by
  intro pins s σ H Q I h
  exact wpAny_Compare1 (binT ha hb I h fun v u s2 x y H2 I2 rx ry q => ho pins s2 σ H2 x y v u Q I2 rx ry q) hm
def tTest (t : TE) : TT := fun σ H Q => t σ H fun x H' => ∃ k, x = .bl k ∧ Q k H'
theorem pt_cmpR {op : CmpOp} {r : R2} (ho : OpR X (compareOp op) r) (ha : PE X a ta) (hb : PE X b tb) (hm : behindInMarks op b = false) : PT X (.Compare a [op] [b] pos) (tTest (tOp r ta tb)) := by
  intro pins s σ H Q I h
  refine wpAny_isTrue_Compare1 (thn (ha pins s σ H _ I h) fun v s1 ⟨x, H1, I1, r1, q1⟩ => thn (hb pins s1 σ H1 _ I1 q1) fun u s2 ⟨y, H2, I2, r2, q2⟩ =>
    thn (ho pins s2 σ H2 x y v u _ I2 r1 r2 q2) fun c s3 ⟨z, H3, I3, r3, k, e, q3⟩ => ?_) hm
  subst e
  cases r3
  exact wpAny_truthy_bool ⟨H3, I3, q3⟩
theorem line63 : (sizeLine : Nat) < 2 ^ 63 := by rw [sizeLine_eq]; decide
theorem op_add_str : OpR X (binaryOp .Add) (fun x y H Q => ∃ i j, x = .str i ∧ y = .str j ∧ i.length + j.length ≤ sizeLine ∧ Q (.str (i ++ j)) H) := by
  intro pins s σ H x y v u Q I rx ry h
  obtain ⟨i, j, rfl, rfl, hz, q⟩ := h
  obtain ⟨t, rfl⟩ := rx
  obtain ⟨t', rfl⟩ := ry
  exact add_str (fun t' tk => ⟨.str (i ++ j), H, I.tok _, ⟨_, rfl⟩, q⟩) hz
theorem vals1 {x : V} {us : List Value} (r : Vals [x] us) : ∃ u, us = [u] ∧ RelV x u := by
  cases r with
  | cons r1 r2 => cases r2; exact ⟨_, rfl, r1⟩
theorem vals2 {x y : V} {us : List Value} (r : Vals [x, y] us) : ∃ u w', us = [u, w'] ∧ RelV x u ∧ RelV y w' := by
  cases r with
  | cons r1 r2 =>
    cases r2 with
    | cons r3 r4 => cases r4; exact ⟨_, _, rfl, r1, r3⟩
theorem call_max2 (hc : X.calm = true) : CallR X (.builtin "max") (fun xs H Q => ∃ i j, xs = [.int i, .int j] ∧ Q (.int (if j > i then j else i)) H) := by
  intro pins s σ H xs us Q I r h
  obtain ⟨i, j, rfl, q⟩ := h
  obtain ⟨u, w', rfl, ⟨t, rfl⟩, ⟨t', rfl⟩⟩ := vals2 r
  refine max_two_ints (I.ok.hd hc) fun h' tk k => ⟨_, H, I.kept k, ?_, q⟩
  by_cases hj : j > i
  · rw [if_pos hj, if_pos hj]; exact ⟨_, rfl⟩
  · rw [if_neg hj, if_neg hj]; exact ⟨_, rfl⟩
end
end L2
namespace L2
open PySem PySem.Spec PyProof.Rows
structure ObjM (h : Heap) (x dx C : Addr) (mA : Str → Option Value) : Prop where
  obj : h.get? x = some (PySem.W.instObj C dx)
  ns : h.Ns1 dx mA
  ne : dx ≠ x
theorem lookIn_ns {h : Heap} {dx : Addr} {mA : Str → Option Value} (n : h.Ns1 dx mA) : ∃ od, h.get? dx = some od ∧ ∀ name, PySem.W.lookIn name od = some (mA name) := by
  obtain ⟨o, es, ep, ho, hd, hk, _, hm⟩ := n
  refine ⟨o, ho, fun name => ?_⟩
  have e := hm name
  unfold nsFind findBy at e
  rw [← Array.find?_toList] at e
  unfold PySem.W.lookIn
  rw [hd]
  dsimp only
  split
  · rename_i y q
    rw [q] at e
    exact congrArg some e
  · rename_i q
    rw [q] at e
    have a : es.toList.any (·.refKey) = false := by
      rw [List.any_eq_false]
      intro y hy
      obtain ⟨z, t, hkey⟩ := hk y (Array.mem_toList_iff.mp hy)
      simp [DictEntry.refKey, hkey]
    have a' : ¬ es.toList.any (·.refKey) = true := by rw [a]; exact Bool.false_ne_true
    rw [if_neg a']
    exact congrArg some e
theorem ObjM.look {h : Heap} {x dx C : Addr} {mA : Str → Option Value} (I : ObjM h x dx C mA) : ∃ od, PySem.W.InstAt h x (PySem.W.instObj C dx) C (some od) ∧ ∀ name, PySem.W.lookIn name od = some (mA name) :=
  let ⟨od, ho, hl⟩ := lookIn_ns I.ns
  ⟨od, ⟨I.obj, rfl, rfl, ho⟩, hl⟩
section
variable {prog : Program} {w : World} {A : Around} {E : Value → Shared → Prop} {s : Shared} {K : PySem.W.Frag} {x dx C f : Addr} {mA : Str → Option Value} {name : Str} {v : Value}
end
theorem RelO.some_of {v : V} {o : Option Value} (r : RelO (some v) o) : ∃ u, o = some u ∧ RelV v u := by
  cases o with
  | none => exact (show False from r).elim
  | some u => exact ⟨u, rfl, r⟩
section
variable {P : Program} {w : World} {H H' : Hp} {h h' : Heap} {a C dx : Addr} {fs fs' : List (Str × V)}
theorem ins_get (hok : HOk P w H h) (e : H a = some (.ins C dx fs)) : ∃ mA, ObjM h a dx C mA ∧ (∀ f, RelO (fs.lookup f) (mA f)) ∧ PySem.Within mA (fs.map (·.1)) ∧ fs.length ≤ 1000 ∧ H dx = some (.own a) := by
  obtain ⟨d, z, ne, ob, mA, n, r, q⟩ := (show ObjOk P w H h a (.ins C dx fs) from hok a _ e)
  exact ⟨mA, ⟨ob, n, ne⟩, r, q, z, d⟩
end
structure Cls (K : PySem.W.Frag) (C : Addr) : Prop where
  pg : PySem.W.plainGet K C Str.empty = true
  hd : PySem.W.hasDictIn K C = true
  po : PySem.W.plainOver K C = true
  sa : PySem.W.findIn K (.ref C) "__setattr__" = some (some (.builtin "object.__setattr__"))
theorem Cls.get {K : PySem.W.Frag} {C : Addr} (c : Cls K C) (f : Str) : PySem.W.plainGet K C f = true := c.pg
structure Con (K : PySem.W.Frag) (C : Addr) (f : Str) (v : V) (u : Value) : Prop where
  at_ : PySem.W.findIn K (.ref C) f = some (some u)
  rel : RelV v u
  get : PySem.W.specialIn K u "__get__" = some none
  cp : PySem.W.copiedNames.contains f = false
structure Meth (K : PySem.W.Frag) (C : Addr) (m : Str) (f : Addr) : Prop where
  at_ : PySem.W.findIn K (.ref C) m = some (some (.ref f))
  fn : PySem.W.isFn K (.ref f) = true
  kp : PySem.W.keepIn K (.ref f) = true
section
variable {X : Cx} {pins : List (Addr × Obj)} {σ : St} {H : Hp} {s : Shared} {a C dx : Addr} {fs : List (Str × V)} {f : Str} {v : V} {A : Around} {E : Value → Shared → Prop}
end
section
variable {X : Cx} {o e value : Expr} {f : Str} {pos pos' tpos : Pos} {ta tv : TE}
end
section
variable {X : Cx} {pins : List (Addr × Obj)} {σ : St} {H : Hp} {s : Shared} {A : Around} {E : Value → Shared → Prop} {Q : Value → Shared → Prop} {c : Value} {b : Bool}
inductive TyOf (K : PySem.W.Frag) (H : Hp) : V → Value → Prop where
  | non : TyOf K H .non (.type "NoneType")
  | bl (x : Bool) : TyOf K H (.bl x) (.type "bool")
  | int (i : Int) : TyOf K H (.int i) (.type "int")
  | str (x : Str) : TyOf K H (.str x) (.type "str")
  | flt (x : UInt64) : TyOf K H (.flt x) (.type "float")
  | lst {a : Addr} {xs : List V} (e : H a = some (.lst xs)) : TyOf K H (.ref a) (.type "list")
  | frz {a : Addr} {o : Obj} {xs : List V} (e : H a = some (.frz o (.lst xs))) : TyOf K H (.ref a) (.type "list")
  | tup {a : Addr} {xs : List V} (e : H a = some (.tup xs)) : TyOf K H (.ref a) (.type "tuple")
  | dK {a : Addr} {kvs : List (Key × V)} (e : H a = some (.dK kvs)) : TyOf K H (.ref a) (.type "dict")
  | dT {a : Addr} {kvs : List (List Key × V)} (e : H a = some (.dT kvs)) : TyOf K H (.ref a) (.type "dict")
  | ins {a C dx : Addr} {fs : List (Str × V)} (e : H a = some (.ins C dx fs)) (cl : Cls K C) (ha : PySem.W.findIn K (.ref C) "__class__" = some (some (.builtin "object.__class__")))
      (hn : PySem.W.specialIn K (.builtin "object.__class__") "__get__" = some (some (.builtin "getset_descriptor.__get__"))) (htk : PySem.W.takesIn K (.builtin "object.__class__") = some true)
      (hm : PySem.W.mroIn K C (.type "object") = some true) : TyOf K H (.ref a) (.ref C)
theorem isinst_ok {x : V} {u t : Value} (I : Inv X pins σ H s) (rx : RelV x u) (ty : TyOf X.K H x t) (e : PySem.W.kitOne X.K t c = some b) (h : ∀ tk, Q (.bool b) { s with toks := tk }) :
    wpAny (model X.prog X.w) A (call (.builtin "isinstance") [u, c]) Q E s := by
  cases ty with
  | non => cases (show u = Value.none from rx); exact PySem.W.kia_one PySem.W.kitx_none I.kIn True.intro e (fun z => nomatch z) h
  | bl y => cases (show u = Value.bool y from rx); exact PySem.W.kia_one PySem.W.kitx_bool I.kIn True.intro e (fun z => nomatch z) h
  | int i => obtain ⟨t, q⟩ := (show ∃ t, u = Value.int i t from rx); cases q; exact PySem.W.kia_one PySem.W.kitx_int I.kIn True.intro e (fun z => nomatch z) h
  | str y => obtain ⟨t, q⟩ := (show ∃ t, u = Value.str y t from rx); cases q; exact PySem.W.kia_one PySem.W.kitx_str I.kIn True.intro e (fun z => nomatch z) h
  | flt y => obtain ⟨t, q⟩ := (show ∃ t, u = Value.float y t from rx); cases q; exact PySem.W.kia_one PySem.W.kitx_float I.kIn True.intro e (fun z => nomatch z) h
  | @lst a xs ea =>
    cases (show u = Value.ref a from rx)
    obtain ⟨_, _, n, _, h1⟩ := (show ObjOk X.prog X.w H s.heap a (.lst xs) from I.hok a _ ea)
    exact PySem.W.kia_one PySem.W.kitx_list I.kIn ⟨_, h1, rfl⟩ e (fun z => nomatch z) h
  | @frz a ob xs ea =>
    cases (show u = Value.ref a from rx)
    obtain ⟨_, _, _, n, _, h1⟩ := (show ObjOk X.prog X.w H s.heap a (.frz ob (.lst xs)) from I.hok a _ ea)
    exact PySem.W.kia_one PySem.W.kitx_list I.kIn ⟨_, h1, rfl⟩ e (fun z => nomatch z) h
  | @tup a xs ea =>
    cases (show u = Value.ref a from rx)
    obtain ⟨_, _, _, p⟩ := (show ObjOk X.prog X.w H s.heap a (.tup xs) from I.hok a _ ea)
    obtain ⟨o, h1, _, h2, _⟩ := p
    exact PySem.W.kia_one PySem.W.kitx_tuple I.kIn ⟨o, h1, h2⟩ e (fun z => nomatch z) h
  | @dK a kvs ea =>
    cases (show u = Value.ref a from rx)
    obtain ⟨_, _, vs, _, p⟩ := (show ObjOk X.prog X.w H s.heap a (.dK kvs) from I.hok a _ ea)
    obtain ⟨o, es, ep, h1, h2, _⟩ := p
    exact PySem.W.kia_one PySem.W.kitx_dict I.kIn ⟨o, h1, h2.1⟩ e (fun z => nomatch z) h
  | @dT a kvs ea =>
    cases (show u = Value.ref a from rx)
    obtain ⟨_, _, xs, _, o, es, ep, h1, h2, _⟩ := (show ObjOk X.prog X.w H s.heap a (.dT kvs) from I.hok a _ ea)
    exact PySem.W.kia_one PySem.W.kitx_dict I.kIn ⟨o, h1, h2.1⟩ e (fun z => nomatch z) h
  | @ins a C dx fs ea cl ha hn htk hm =>
    cases (show u = Value.ref a from rx)
    obtain ⟨mA, O, _⟩ := ins_get I.hok ea
    obtain ⟨od, J, _⟩ := O.look
    exact PySem.W.kia_one (PySem.W.kitx_own (cl.get _) cl.hd ha hn htk hm) I.kIn J e (fun z => nomatch z) h
end
end L2
namespace L2
open PySem PySem.Spec PyProof.Rows
structure Room (k : Nat) (A : Around) : Prop where
  hd : A.handled = none
  dp : A.depth + 3 * k + 5 < recursionLimit
  un : A.units + 16 * k + 200 < cLine
theorem Room.mono {j k : Nat} {A : Around} (r : Room k A) (h : j ≤ k) : Room j A := ⟨r.hd, by have := r.dp; omega, by have := r.un; omega⟩
theorem Room.deeper {k : Nat} {A : Around} (r : Room (k + 1) A) (env : Env) : Room k (A.deeper env) :=
  ⟨r.hd, by have := r.dp; show A.depth + 1 + 3 * k + 5 < _; omega, by have := r.un; show A.units + 3 + 16 * k + 200 < _; omega⟩
theorem Room.in1 {k : Nat} {A : Around} (r : Room (k + 1) A) : Room k A.in1 :=
  ⟨r.hd, by have := r.dp; show A.depth + 3 * k + 5 < _; omega, by have := r.un; show A.units + 1 + 16 * k + 200 < _; omega⟩
theorem Room.depth {k : Nat} {A : Around} (r : Room k A) : A.depth < recursionLimit := by have := r.dp; omega
theorem Room.units {k : Nat} {A : Around} (r : Room k A) : A.units + 64 < cLine := by have := r.un; omega
theorem Room.units0 {k : Nat} {A : Around} (r : Room k A) : A.units < cLine := by have := r.un; omega
def tNil : TA := fun _ H Q => Q [] H
def tCons (ta : TE) (tr : TA) : TA := fun σ H Q => ta σ H fun x H1 => tr σ H1 fun xs H2 => Q (x :: xs) H2
section
variable {X : Cx} {e : Expr} {es : List Expr} {te : TE} {t : TA} {pos : Pos}
theorem pa_nil : PA X [] tNil := fun _ _ _ _ H Q I h => Calls.spliced_nil ⟨[], H, I, .nil, h⟩
theorem pa_cons (ha : PE X e te) (hr : PA X es t) (hs : starEach (e :: es) X.env = (false, eval e X.env) :: starEach es X.env := by rfl) : PA X (e :: es) (tCons te t) := by
  intro pos pins s σ H Q I h
  rw [hs]
  show wpAny _ _ (spliced ((false, eval e X.env) :: backTo pos (starEach es X.env))) _ _ s
  refine Calls.spliced_cons (thn (ha pins s σ H _ I h) fun u s1 ⟨x, H1, I1, r1, q1⟩ => ?_)
  exact thn (hr pos pins s1 σ H1 _ I1 q1) fun us s2 ⟨xs, H2, I2, r2, q2⟩ => ⟨x :: xs, H2, I2, .cons r1 r2, q2⟩
def tTup (t : TA) : TE := fun σ H Q => t σ H fun xs H1 => xs.length ≤ sizeLine ∧ ∀ p, H1 p = none → Q (.ref p) (upd H1 p (.tup xs))
def tLst (t : TA) : TE := fun σ H Q => t σ H fun xs H1 => xs.length ≤ sizeLine ∧ ∀ p, H1 p = none → Q (.ref p) (upd H1 p (.lst xs))
theorem pe_tup {x1} (h : PA X es t) : PE X (.Tuple es x1 pos) (tTup t) := by
  intro pins s σ H Q I hq
  refine wpAny_Tuple_spliced (thn (h pos pins s σ H _ I hq) fun us s1 ⟨xs, H1, I1, r, z, q⟩ => ⟨by rw [← r.length]; exact z, ?_⟩)
  have hf : H1 s1.heap.objs.size = none := I1.hok.fresh (Nat.le_refl _)
  refine ⟨.ref s1.heap.objs.size, upd H1 s1.heap.objs.size (.tup xs), I1.laid (t' := s1.toks) (fun b u e => Heap.get?_push_of_some _ e) (Nat.le_refl _) ?_, rfl, q _ hf⟩
  exact ⟨z, us, r, ⟨_, Heap.get?_push_size _ rfl, rfl, rfl, _, rfl⟩⟩
theorem pe_lst (h : PA X es t) : PE X (.List es pos) (tLst t) := by
  intro pins s σ H Q I hq
  refine wpAny_List_spliced (thn (h pos pins s σ H _ I hq) fun us s1 ⟨xs, H1, I1, r, z, q⟩ => ⟨by rw [← r.length]; exact z, ?_⟩)
  have hf : H1 s1.heap.objs.size = none := I1.hok.fresh (Nat.le_refl _)
  refine ⟨.ref s1.heap.objs.size, upd H1 s1.heap.objs.size (.lst xs), I1.laid (t' := s1.toks) (fun b u e => Heap.get?_push_of_some _ e) (Nat.le_refl _) ?_, rfl, q _ hf⟩
  exact ⟨z, us, 0, r, Heap.get?_push_size _ rfl⟩
end
abbrev Sp := List V → Hp → VK → XK → Prop
abbrev CXT := List Env → Hp → Shared → XK → Value → Shared → Prop
structure Env0 (P : Program) (w : World) (K : PySem.W.Frag) (mg : Str → Option Value) (base : Heap) (A : Around) (outer : List Env) (s : Shared) (H : Hp) : Prop where
  frames : A.frames = some outer
  mod : Mod K mg base
  bs : ∀ b o, base.get? b = some o → s.heap.get? b = some o ∧ H b = none
  bsz : base.objs.size ≤ s.heap.objs.size
  funs : s.heap.FunFrames base outer
  frf : ∀ b ∈ frs outer, H b = none
  hok : HOk P w H s.heap
  bare : AllBare s.gens
def CE (outer : List Env) (P : Program) (w : World) (H : Hp) (s : Shared) (Q : VK) (u : Value) (s' : Shared) : Prop :=
  ∃ v H', s'.os = s.os ∧ AllBare s'.gens ∧ Un (frs outer) [] H H' s.heap s'.heap ∧ HOk P w H' s'.heap ∧ RelV v u ∧ Q v H'
def CR (CX : CXT) (outer : List Env) (P : Program) (w : World) (H : Hp) (s : Shared) (Q : VK) (E : XK) (r : Result) (s' : Shared) : Prop :=
  match r with
  | .ok (.ret u) => CE outer P w H s Q u s'
  | .ok _ => False
  | .error e => CX outer H s E e s'
structure FnOk (P : Program) (w : World) (K : PySem.W.Frag) (mg : Str → Option Value) (base : Heap) (CX : CXT) (k : Nat) (f : Addr) (fd : FuncData) (ps : List Str) (sp : Sp) : Prop where
  len : ∀ vs H Q E, sp vs H Q E → vs.length = ps.length
  run : ∀ (A : Around) (outer : List Env) (s : Shared) (H : Hp) (args : Args) (us : List Value) (vs : List V) (Q : VK) (E : XK), Room k A → Env0 P w K mg base A outer s H → BindsTo s fd args (ps.zip us) → Vals vs us → sp vs H Q E →
    codeAny (model P w) A (.call (.ref f) args) (CR CX outer P w H s Q E) s
theorem FnOk.mono {P : Program} {w : World} {K : PySem.W.Frag} {mg : Str → Option Value} {base : Heap} {CX : CXT} {j k : Nat} {f : Addr} {fd : FuncData} {ps : List Str} {sp : Sp} (F : FnOk P w K mg base CX j f fd ps sp) (h : j ≤ k) :
    FnOk P w K mg base CX k f fd ps sp := ⟨F.len, fun A outer s H args us vs Q E hr => F.run A outer s H args us vs Q E (hr.mono h)⟩
section
variable {X : Cx} {pins : List (Addr × Obj)} {σ : St} {H : Hp} {s s' : Shared}
theorem Inv.env0 (I : Inv X pins σ H s) : Env0 X.prog X.w X.K X.mg X.base X.A X.stack s H :=
  ⟨I.ok.frames, I.ok.mod, I.bs, Nat.le_trans I.ok.bsz I.sz, I.stack, I.stkFree, I.hok, I.bare⟩
theorem Inv.after {Q : VK} {u : Value} (I : Inv X pins σ H s) (h : CE X.stack X.prog X.w H s Q u s') : EP X pins σ Q u s' := by
  obtain ⟨v, H', os, bare, un, hok, r, q⟩ := h
  obtain ⟨hh, g, d, t, os'⟩ := s'
  obtain rfl : os' = s.os := os
  exact ⟨v, H', I.call (h' := hh) (g' := g) (d' := d) (t' := t) (ch := []) un hok bare (fun b z => absurd z (by simp)), r, q⟩
end
def tCall (sp : Sp) (dvs : List V) (E : XK) (t : TA) : TE := fun σ H Q => t σ H fun vs H1 => sp (vs ++ dvs) H1 Q E
def Binds (K : PySem.W.Frag) (fd : FuncData) (ps : List Str) (ds : List Value) : Prop :=
  ∀ (s : Shared) (us : List Value), K.In s.heap → (us ++ ds).length = ps.length → BindsTo s fd ⟨us, []⟩ (ps.zip (us ++ ds))
theorem Binds.all {K : PySem.W.Frag} {fd : FuncData} {ps : List Str} (h : ∀ us : List Value, us.length = ps.length → bindArgs fd ⟨us, []⟩ = pure (ps.zip us)) : Binds K fd ps [] := fun s us _ hl => by
  rw [List.append_nil] at hl ⊢
  exact .of_eq (h us hl)
def Passes (CX : CXT) (X : Cx) (E : XK) : Prop := ∀ (pins : List (Addr × Obj)) (σ : St) (H : Hp) (s : Shared) (e : Value) (s' : Shared), Inv X pins σ H s → CX X.stack H s E e s' → X.xe e s'
section
variable {X : Cx} {CX : CXT} {k : Nat} {f C : Addr} {fd : FuncData} {ps : List Str} {sp : Sp} {dvs : List V} {ds : List Value} {E : XK} {x m : Str} {p pos apos : Pos} {e o : Expr} {es : List Expr} {ta : TE} {t : TA}
theorem run_fn {pins : List (Addr × Obj)} {σ : St} {H : Hp} {s : Shared} {Q : VK} {us : List Value} {vs : List V} (F : FnOk X.prog X.w X.K X.mg X.base CX k f fd ps sp) (hr : Room k X.A) (hb : Binds X.K fd ps ds) (hd : Vals dvs ds) (hx : Passes CX X E)
    (I : Inv X pins σ H s) (r : Vals vs us) (h : sp (vs ++ dvs) H Q E) : wpAny (model X.prog X.w) X.A (call (.ref f) us) (EP X pins σ Q) X.xe s := by
  have r2 : Vals (vs ++ dvs) (us ++ ds) := r.append hd
  have hl : (us ++ ds).length = ps.length := by rw [← r2.length]; exact F.len _ _ _ _ h
  refine wpAny_call (codeAny_mono (F.run X.A X.stack s H ⟨us, []⟩ (us ++ ds) (vs ++ dvs) Q E hr I.env0 (hb s us I.kIn hl) r2 h) fun r s' hq => ?_)
  cases r with
  | error e => exact hx pins σ H s e s' I hq
  | ok fl =>
    cases fl with
    | ret u => exact I.after hq
    | next => exact False.elim hq
    | brk => exact False.elim hq
    | cont => exact False.elim hq
theorem pe_call (F : FnOk X.prog X.w X.K X.mg X.base CX k f fd ps sp) (hr : Room k X.A) (hg : Gl X x) (hm : X.mg x = some (.ref f)) (hk : PySem.W.keepIn X.K (.ref f) = true) (hb : Binds X.K fd ps ds) (hd : Vals dvs ds) (hx : Passes CX X E)
    (ha : PA X (e :: es) t) (hdb : (x == ("__debug__" : Str)) = false := by decide) (he : starEach (e :: es) X.env = (false, eval e X.env) :: starEach es X.env := by rfl) (hpl : (backTo pos (starEach es X.env)).any (·.1) = false := by rfl) :
    PE X (.Call (.Name x p) (e :: es) [] pos) (tCall sp dvs E t) := by
  intro pins s σ H Q I h
  refine wpAny_Call_Name_kw (ld_glob I hg hm ?_ hdb)
  refine PySem.W.callWith_K (h₀ := X.base) I.ok.mod.kin hk (thn (ha pos pins s σ H _ I h) fun us s1 ⟨vs, H1, I1, r, q⟩ => ⟨I1.kIn, ?_⟩) he hpl
  exact run_fn F hr hb hd hx I1 r q
structure Mk (K : PySem.W.Frag) (C f : Addr) : Prop where
  makes : PySem.W.makesIn K C = true
  init : PySem.W.findIn K (.ref C) "__init__" = some (some (.ref f))
  fn : PySem.W.isFn K (.ref f) = true
  kp : PySem.W.keepIn K (.ref C) = true
end
section
variable {X : Cx} {CX : CXT} {k : Nat} {f C : Addr} {fd : FuncData} {ps ks : List Str} {sp : Sp} {E : XK} {x m : Str} {p pos apos kpos : Pos} {e o : Expr} {es : List Expr} {kws : List Keyword} {te ta : TE} {t tk : TA} {nm : Option Str}
structure KBinds (K : PySem.W.Frag) (fd : FuncData) (ps ks : List Str) (g : List Value → List Value → List Value) (gV : List V → List V → List V) : Prop where
  to : ∀ (s : Shared) (us ws : List Value), K.In s.heap → (g us ws).length = ps.length → BindsTo s fd ⟨us, ks.zip ws⟩ (ps.zip (g us ws))
  rel : ∀ {vs : List V} {us : List Value} {zs : List V} {ws : List Value}, Vals vs us → Vals zs ws → Vals (gV vs zs) (g us ws)
variable {g : List Value → List Value → List Value} {gV : List V → List V → List V}
end
structure FnScope (N P : List Str) (sc : Scope) : Prop where
  kind : sc.kind = .function
  co : sc.isCoroutine = false
  gen : sc.isGenerator = false
  nd : N.Nodup
  pre : N.take P.length = P
  par : ∀ x ∈ P, sc.names.lookup x = some .local ∨ sc.names.lookup x = some .cell
  nofree : ∀ y ∈ sc.names, y.2 ≠ .free
theorem bindL_out {kindOf : Str → Option NameKind} {x : Str} : ∀ {binds : List (Str × Value)} {m : Str → Option Value}, (∀ v, (x, v) ∉ binds) → bindL kindOf binds m x = m x
  | [], _, _ => rfl
  | (n, v) :: r, m, h => by
    unfold bindL
    rw [bindL_out fun w hw => h w (List.mem_cons_of_mem _ hw)]
    split
    · have : x ≠ n := by rintro rfl; exact h v List.mem_cons_self
      simp [this]
    · rfl
theorem bindC_out {kindOf : Str → Option NameKind} {x : Str} : ∀ {binds : List (Str × Value)} {m : Str → Option Value}, (∀ v, (x, v) ∉ binds) → bindC kindOf binds m x = m x
  | [], _, _ => rfl
  | (n, v) :: r, m, h => by
    unfold bindC
    rw [bindC_out fun w hw => h w (List.mem_cons_of_mem _ hw)]
    split
    · rfl
    · have : x ≠ n := by rintro rfl; exact h v List.mem_cons_self
      simp [this]
theorem bindL_get {kindOf : Str → Option NameKind} {x : Str} {v : Value} : ∀ {P : List Str} {vs : List Value} {i : Nat} {m : Str → Option Value}, P.Nodup → P[i]? = some x → vs[i]? = some v → kindOf x = some .local →
    bindL kindOf (P.zip vs) m x = some v
  | [], _, _, _, _, h, _, _ => by simp at h
  | _ :: _, [], _, _, _, _, h, _ => by simp at h
  | p :: P, w :: vs, 0, m, nd, h1, h2, hk => by
    simp at h1 h2; subst h1; subst h2
    show bindL kindOf ((p, w) :: P.zip vs) m p = _
    unfold bindL
    rw [bindL_out fun v hv => (List.nodup_cons.mp nd).1 (List.of_mem_zip hv).1, if_pos hk]
    simp
  | p :: P, w :: vs, i + 1, m, nd, h1, h2, hk => by
    show bindL kindOf ((p, w) :: P.zip vs) m x = _
    unfold bindL
    exact bindL_get (i := i) (List.nodup_cons.mp nd).2 (by simpa using h1) (by simpa using h2) hk
theorem bindC_get {kindOf : Str → Option NameKind} {x : Str} {v : Value} : ∀ {P : List Str} {vs : List Value} {i : Nat} {m : Str → Option Value}, P.Nodup → P[i]? = some x → vs[i]? = some v → kindOf x ≠ some .local →
    bindC kindOf (P.zip vs) m x = some v
  | [], _, _, _, _, h, _, _ => by simp at h
  | _ :: _, [], _, _, _, _, h, _ => by simp at h
  | p :: P, w :: vs, 0, m, nd, h1, h2, hk => by
    simp at h1 h2; subst h1; subst h2
    show bindC kindOf ((p, w) :: P.zip vs) m p = _
    unfold bindC
    rw [bindC_out fun v hv => (List.nodup_cons.mp nd).1 (List.of_mem_zip hv).1, if_neg hk]
    simp
  | p :: P, w :: vs, i + 1, m, nd, h1, h2, hk => by
    show bindC kindOf ((p, w) :: P.zip vs) m x = _
    unfold bindC
    exact bindC_get (i := i) (List.nodup_cons.mp nd).2 (by simpa using h1) (by simpa using h2) hk
def start (N : List Str) (vs : List V) : St := vs.map some ++ List.replicate (N.length - vs.length) none
def cxOf (CX : CXT) (P : Program) (w : World) (K : PySem.W.Frag) (mg : Str → Option Value) (base : Heap) (N : List Str) (qual : Str) (scope : Scope) (f : Addr) (cd : Value) (A : Around) (outer : List Env) (s : Shared) (H : Hp) (E : XK) : Cx where
  prog := P
  w := w
  K := K
  mg := mg
  base := base
  A := A.deeper (envOfC qual scope s.heap.objs.size f cd)
  N := N
  s₀ := s
  H₀ := H
  env := envOfC qual scope s.heap.objs.size f cd
  outer := outer
  stack := envOfC qual scope s.heap.objs.size f cd :: outer
  ex := []
  calm := true
  fn := fun _ => true
  pn := []
  xe := fun e s' => wpAny (model P w) (A.deeper (envOfC qual scope s.heap.objs.size f cd)) (leaving (envOfC qual scope s.heap.objs.size f cd) e) (fun _ s'' => CX outer H s E e s'') (fun e' s'' => CX outer H s E e' s'') s'
theorem cell_has {sc : Scope} {n : Nat} {x : Str} (h : sc.names.lookup x = some .cell) : ∃ c, (cellsFrom n sc.names []).lookup x = some c := by
  have q := PySem.W.cellsFrom_some sc.names n [] (.inl h)
  exact Option.isSome_iff_exists.mp q
theorem inv_start {CX : CXT} {P : Program} {w : World} {K : PySem.W.Frag} {mg : Str → Option Value} {base : Heap} {N ps : List Str} {qual : Str} {scope : Scope} {f : Addr} {cd : Value} {A : Around} {outer : List Env} {s s1 : Shared} {H : Hp} {E : XK} {us : List Value} {vs : List V}
    (S : FnScope N ps scope) (hd : A.handled = none) (e0 : Env0 P w K mg base A outer s H) (hl : vs.length = ps.length) (r : Vals vs us)
    (x : InCallC s s.heap.objs.size (bindL (envOfC qual scope s.heap.objs.size f cd).kindOf (ps.zip us) fun _ => none) (cellsFrom (s.heap.objs.size + 1) scope.names []) (bindC (envOfC qual scope s.heap.objs.size f cd).kindOf (ps.zip us) fun _ => none) s1) :
    Inv (cxOf CX P w K mg base N qual scope f cd A outer s H E) [] (start N vs) H s1 := by
  have hpl : ps.length ≤ N.length := by have := congrArg List.length S.pre; rw [List.length_take] at this; omega
  obtain ⟨h1, tk, rfl, hk⟩ := x.done
  have noA : ∀ b : Addr, b ∉ (cxOf CX P w K mg base N qual scope f cd A outer s H E).ex := fun b z => absurd (show b ∈ ([] : List Addr) from z) (by simp)
  refine ⟨⟨e0.mod, S.kind, rfl, rfl, Nat.le_refl _, fun y z c h1 h2 => ?_, fun y hy => ?_, fun y c _ h => ?_, fun _ => hd, Around.frames_deeper e0.frames, .inr ⟨rfl, rfl⟩, fun b z => absurd z (noA b), e0.bs, e0.bsz, fun b _ _ => noA b, fun b z => absurd z (noA b), e0.funs, e0.frf⟩,
    rfl, e0.bare, Un.kept hk, ⟨_, x.toInCall.ns, fun i y v h1 h2 h3 => ?_⟩, fun y c h => ⟨_, x.cell y c h⟩, e0.hok.fresh (Nat.le_refl _), fun y c h => ?_, fun p hp => absurd (show p ∈ ([] : List (Addr × Obj)) from hp) (by simp), e0.hok.kept hk, ?_⟩
  · exact name_of_addr x.apart (PySem.mem_of_lookup h1) (PySem.mem_of_lookup h2)
  · have hy : scope.names.lookup y = some .cell ∨ scope.names.lookup y = some .free := hy
    rcases hy with hy | hy
    · exact cell_has hy
    · exact absurd rfl (S.nofree _ (PySem.mem_of_lookup hy))
  · exact Nat.le_of_lt (x.above y c (PySem.mem_of_lookup h))
  · have hi : i < vs.length := by
      unfold start at h2
      by_cases hi : i < vs.length
      · exact hi
      · rw [List.getElem?_append_right (by simpa using hi)] at h2
        rw [List.getElem?_replicate] at h2
        split at h2 <;> cases h2
    have ha : vs[i]? = some v := by
      unfold start at h2
      rw [List.getElem?_append_left (by simpa using hi), List.getElem?_map] at h2
      cases e : vs[i]? with
      | none => rw [e] at h2; cases h2
      | some a => rw [e] at h2; cases h2; rfl
    obtain ⟨u, hu, rv⟩ := r.get ha
    have hp : ps[i]? = some y := by
      rw [← S.pre, List.getElem?_take_of_lt (by omega)]; exact h1
    have ndP : ps.Nodup := by rw [← S.pre]; exact S.nd.sublist (List.take_sublist _ _)
    refine ⟨u, rv, ?_⟩
    rcases S.par y (List.mem_of_getElem? hp) with k | k
    · exact .inl ⟨k, bindL_get ndP hp hu k⟩
    · obtain ⟨c, e⟩ := cell_has (n := s.heap.objs.size + 1) k
      refine .inr ⟨.inl k, c, e, ?_⟩
      have q := x.cell y c e
      rw [bindC_get ndP hp hu (by show scope.names.lookup y ≠ _; rw [k]; decide)] at q
      exact q
  · exact e0.hok.fresh (Nat.le_of_lt (x.above y c (PySem.mem_of_lookup h)))
  · unfold start
    show _ = N.length
    rw [List.length_append, List.length_map, List.length_replicate]
    omega
theorem fn_of {CX : CXT} {P : Program} {w : World} {K : PySem.W.Frag} {mg : Str → Option Value} {base : Heap} {k : Nat} {f : Addr} {name qual : Str} {params : Arguments} {body : List Stmt} {scope : Scope} {dV kV doc pm cdv ct oc : Value} {an od : Option Addr}
    {osl : Array (Option Value)} {N ps : List Str} {sp : Sp} (lk : K.lookup f = some ⟨oc, od, .func (PySem.W.fnOf name qual params body scope dV kV doc pm an cdv ct), osl⟩) (hcd : PySem.W.codeIn K cdv qual = true) (S : FnScope N ps scope)
    (len : ∀ vs H Q E, sp vs H Q E → vs.length = ps.length)
    (hbody : ∀ (A : Around) (outer : List Env) (s : Shared) (H : Hp) (vs : List V) (Q : VK) (E : XK), Room k (A.deeper (envOfC qual scope s.heap.objs.size f cdv)) → sp vs H Q E →
      ∃ t, PSs (cxOf CX P w K mg base N qual scope f cdv A outer s H E) body t ∧ t { nx := fun _ H' => Q .non H', rt := Q } (start N vs) H) :
    FnOk P w K mg base CX (k + 1) f (PySem.W.fnOf name qual params body scope dV kV doc pm an cdv ct) ps sp := by
  refine ⟨len, fun A outer s H args us vs Q E hr e0 hb r hsp => ?_⟩
  have hl := len _ _ _ _ hsp
  have KX : K.In s.heap := e0.mod.kin.keeps fun b o e => (e0.bs b o e).1
  have lim : s.heap.NoLimit := e0.mod.nolimit.keeps fun b o e => (e0.bs b o e).1
  have hkind : ∀ y ∈ ps.zip us, scope.names.lookup y.1 = some .local ∨ (scope.names.lookup y.1 = some .cell ∧ ((cellsFrom (s.heap.objs.size + 1) scope.names []).lookup y.1).isSome = true) := fun ⟨n, v⟩ hy => by
    rcases S.par n (List.of_mem_zip hy).1 with q | q
    · exact .inl q
    · exact .inr ⟨q, PySem.W.cellsFrom_some _ _ _ (.inl q)⟩
  refine codeAny_call_function hr.depth (KX _ _ lk) rfl S.co S.gen rfl (PySem.W.codeRec_of KX hcd) (hb _ _ _ _ ?_)
  refine wpAny_newFunctionEnv_cells S.kind hkind fun env he s1 x => ?_
  subst he
  refine ⟨lim.keeps x.toInCall.keep, codeAny_func ?_⟩
  obtain ⟨t, ht, hq⟩ := hbody A outer s H vs Q E (hr.deeper _) hsp
  have I : Inv (cxOf CX P w K mg base N qual scope f cdv A outer s H E) [] (start N vs) H s1 := inv_start S hr.hd e0 hl r x
  refine wpAny_mono (ht [] s1 (start N vs) H _ I hq) (fun fl s' hs => ?_) fun e s' hs => hs
  have fin : ∀ {σ' : St} {H' : Hp} {v : V} {u : Value}, Inv (cxOf CX P w K mg base N qual scope f cdv A outer s H E) [] σ' H' s' → RelV v u → Q v H' → CE outer P w H s Q u s' :=
    fun {σ' H' v u} J rv q => ⟨v, H', J.os, J.bare, J.base, J.hok, rv, q⟩
  cases fl with
  | ret u =>
    obtain ⟨v, σ', H', J, rv, q⟩ := hs
    exact fin J rv q
  | next =>
    obtain ⟨σ', H', J, q⟩ := hs
    exact fin (v := V.non) (u := Value.none) J rfl q
  | brk =>
    obtain ⟨_, _, _, q⟩ := hs
    exact False.elim q
  | cont =>
    obtain ⟨_, _, _, q⟩ := hs
    exact False.elim q
end L2
namespace L2
open PySem PySem.Spec PyProof.Rows
section
variable {X : Cx} {x : Str} {p pos : Pos} {e : Expr} {es : List Expr} {t : TA} {id T : String} {r : List V → Hp → VK → Prop}
def tCB (r : List V → Hp → VK → Prop) (t : TA) : TE := fun σ H Q => t σ H fun vs H1 => r vs H1 Q
theorem pe_callB (hc : CallR X (.builtin id) r) (hg : Gl X x) (hm : X.mg x = none) (hv : bootBuiltins x = some (.builtin id)) (ha : PA X (e :: es) t) (hn : x ≠ "__name__" := by decide) (hdb : (x == ("__debug__" : Str)) = false := by decide)
    (he : starEach (e :: es) X.env = (false, eval e X.env) :: starEach es X.env := by rfl) (hpl : (backTo pos (starEach es X.env)).any (·.1) = false := by rfl) : PE X (.Call (.Name x p) (e :: es) [] pos) (tCB r t) := by
  intro pins s σ H Q I h
  refine wpAny_Call_Name_kw (ld_blt I hg hm hv ?_ hn hdb)
  exact PyProof.Rows.callWith_builtin1 (thn (ha pos pins s σ H _ I h) fun us s1 ⟨vs, H1, I1, r1, q1⟩ => hc pins s1 σ H1 vs us Q I1 r1 q1) he hpl
theorem pe_callTy (hc : CallR X (.type T) r) (hg : Gl X x) (hm : X.mg x = none) (hv : bootBuiltins x = some (.type T)) (ha : PA X (e :: es) t) (hn : x ≠ "__name__" := by decide) (hdb : (x == ("__debug__" : Str)) = false := by decide)
    (he : starEach (e :: es) X.env = (false, eval e X.env) :: starEach es X.env := by rfl) (hpl : (backTo pos (starEach es X.env)).any (·.1) = false := by rfl) : PE X (.Call (.Name x p) (e :: es) [] pos) (tCB r t) := by
  intro pins s σ H Q I h
  refine wpAny_Call_Name_kw (ld_blt I hg hm hv ?_ hn hdb)
  exact PyProof.Rows.callWith_type1 (thn (ha pos pins s σ H _ I h) fun us s1 ⟨vs, H1, I1, r1, q1⟩ => hc pins s1 σ H1 vs us Q I1 r1 q1) he hpl
end
end L2
namespace HT
open PySem PyProof.Rows
section
open PySem.SeqAt
open PySem.AutoSeq1 (wpAny_loadPart')
open PySem.MeetsSeq PySem.MeetsSeq2 PySem.MeetsSeq3
end
section
variable {prog : Program} {w : World} {A : Around} {E : Value → Shared → Prop} {s : Shared}
def sIx (n d : Nat) : Option Int → Nat
  | none => d
  | some v => if v < 0 then (v + (n : Int)).toNat else min v.toNat n
theorem sIx_none (n d : Nat) : sIx n d none = d := rfl
theorem sIx_nat (n d k : Nat) : sIx n d (some (k : Int)) = min k n := by
  show (if (k : Int) < 0 then ((k : Int) + (n : Int)).toNat else min (k : Int).toNat n) = min k n
  rw [if_neg (by omega), Int.toNat_natCast]
end
end HT
namespace L2
open PySem PySem.Spec PyProof.Rows
abbrev TO := St → Hp → (Option Int → Hp → Prop) → Prop
def PO (X : Cx) (e : Option Expr) (t : TO) : Prop :=
  ∀ (pins : List (Addr × Obj)) (s : Shared) (σ : St) (H : Hp) (Q : Option Int → Hp → Prop), Inv X pins σ H s → t σ H Q →
    wpAny (model X.prog X.w) X.A (evalPart e X.env) (fun u s' => ∃ o H', Inv X pins σ H' s' ∧ IsPart u o ∧ Q o H') X.xe s
def tNoPart : TO := fun _ H Q => Q none H
def tPart (t : TE) : TO := fun σ H Q => t σ H fun x H1 => ∃ i, x = .int i ∧ Q (some i) H1
section
variable {X : Cx} {e : Expr} {te : TE} {lo hi : Option Expr} {tl th : TO} {pos p2 : Pos}
theorem po_none : PO X none tNoPart := by
  intro pins s σ H Q I h
  rw [evalPart_none]
  exact wpAny_pure ⟨none, H, I, .none, h⟩
theorem po_some (h : PE X e te) : PO X (some e) (tPart te) := by
  intro pins s σ H Q I hw
  rw [evalPart_some]
  refine thn (h pins s σ H _ I hw) fun u s1 ⟨x, H1, I1, r1, q1⟩ => ?_
  obtain ⟨i, rfl, q⟩ := q1
  obtain ⟨t, rfl⟩ := r1
  exact ⟨some i, H1, I1, .int i t, q⟩
def SlR (X : Cx) (r : V → Option Int → Option Int → Hp → VK → Prop) : Prop :=
  ∀ (pins : List (Addr × Obj)) (s : Shared) (σ : St) (H : Hp) (x : V) (v vl vu : Value) (lo hi : Option Int) (sl : Addr) (Q : VK), Inv X pins σ H s → RelV x v → s.heap.IsSliceOf sl vl vu .none → IsPart vl lo → IsPart vu hi → r x lo hi H Q →
    ∃ T id, typeLookup (.type T) "__getitem__" = pure (some (.builtin id)) ∧ s.TypeIs v T ∧ wpAny (model X.prog X.w) X.A (getItem v (.ref sl)) (EP X pins σ Q) X.xe s
def tSl (r : V → Option Int → Option Int → Hp → VK → Prop) (te : TE) (tl th : TO) : TE := fun σ H Q => te σ H fun x H1 => tl σ H1 fun l H2 => th σ H2 fun u H3 => r x l u H3 Q
theorem pe_slice {r : V → Option Int → Option Int → Hp → VK → Prop} (hr : SlR X r) (he : PE X e te) (hl : PO X lo tl) (hu : PO X hi th) : PE X (.Subscript e (.Slice lo hi none p2) pos) (tSl r te tl th) := by
  intro pins s σ H Q I h
  refine Subscript_ (thn (he pins s σ H _ I h) fun v s1 ⟨x, H1, I1, r1, q1⟩ => ?_)
  refine wpAny_Slice (thn (hl pins s1 σ H1 _ I1 q1) fun vl s2 ⟨l, H2, I2, pl, q2⟩ => thn (hu pins s2 σ H2 _ I2 q2) fun vu s3 ⟨u, H3, I3, pu, q3⟩ => ?_)
  rw [evalPart_none]
  refine wpAny_pure ?_
  have I4 : Inv X pins σ H3 { s3 with heap := s3.heap.push { cls := .type "slice", data := .fields #[vl, vu, .none] } } := I3.kept (t' := s3.toks) fun b ob q => Heap.get?_push_of_some _ q
  obtain ⟨T, id, hT, ht, hg⟩ := hr pins { s3 with heap := s3.heap.push { cls := .type "slice", data := .fields #[vl, vu, .none] } } σ H3 x v vl vu l u s3.heap.objs.size Q I4 r1 (Heap.IsSliceOf.new ..) pl pu q3
  show wpAny (model X.prog X.w) X.A (subscriptTail e (.Slice lo hi none p2) v (.ref s3.heap.objs.size)) (EP X pins σ Q) X.xe { s3 with heap := s3.heap.push { cls := .type "slice", data := .fields #[vl, vu, .none] } }
  exact tail_any (ops := [.ref s3.heap.objs.size, v]) ht hT hg (by with_unfolding_all rfl)
def cutV (xs : List V) (lo hi : Option Int) : List V := (xs.drop (HT.sIx xs.length 0 lo)).take (HT.sIx xs.length xs.length hi - HT.sIx xs.length 0 lo)
theorem cutV_length (xs : List V) (lo hi : Option Int) : (cutV xs lo hi).length ≤ xs.length := by
  unfold cutV
  rw [List.length_take, List.length_drop]
  omega
end
end L2
namespace L2
open PySem PySem.Spec PyProof.Rows
def ixN (n : Nat) (i : Int) : Option Nat := if 0 ≤ i then (if i < n then some i.toNat else none) else if -(n : Int) ≤ i then some (i + n).toNat else none
def atI {α : Type} (xs : List α) (i : Int) : Option α := (ixN xs.length i).bind fun j => xs[j]?
theorem ixN_seq {n : Nat} {i : Int} {j : Nat} (h : ixN n i = some j) : seqIndex? i n = some j ∧ j < n ∧ -(n : Int) ≤ i ∧ i < n := by
  unfold ixN at h
  by_cases h0 : 0 ≤ i
  · rw [if_pos h0] at h
    by_cases h1 : i < n
    · rw [if_pos h1] at h
      have e : i.toNat = j := Option.some.inj h
      exact ⟨by rw [seqIndex_of h0 h1, e], by omega, by omega, h1⟩
    · rw [if_neg h1] at h; cases h
  · rw [if_neg h0] at h
    by_cases h1 : -(n : Int) ≤ i
    · rw [if_pos h1] at h
      have e : (i + n).toNat = j := Option.some.inj h
      exact ⟨by rw [seqIndex_neg (by omega) h1, e], by omega, h1, by omega⟩
    · rw [if_neg h1] at h; cases h
theorem atI_get {α : Type} {xs : List α} {i : Int} {v : α} (h : atI xs i = some v) : ∃ j, seqIndex? i xs.length = some j ∧ xs[j]? = some v ∧ j < xs.length ∧ -(xs.length : Int) ≤ i ∧ i < xs.length := by
  unfold atI at h
  cases e : ixN xs.length i with
  | none => rw [e] at h; cases h
  | some j =>
    rw [e] at h
    obtain ⟨h1, h2, h3, h4⟩ := ixN_seq e
    exact ⟨j, h1, h, h2, h3, h4⟩
theorem atI_nat {α : Type} {xs : List α} {j : Nat} {v : α} (h : xs[j]? = some v) : atI xs (j : Int) = some v := by
  have hj : j < xs.length := (List.getElem?_eq_some_iff.mp h).1
  have e : ixN xs.length (j : Int) = some j := by
    unfold ixN
    rw [if_pos (by omega), if_pos (by omega)]; simp
  unfold atI; rw [e]; exact h
def PlainIx (b : Expr) : Prop := ∀ o i, subscripted b false o i = operate [o, i] (getItem o i)
def IxR (X : Cx) (r : R2) : Prop :=
  ∀ (value slice : Expr) (pins : List (Addr × Obj)) (s : Shared) (σ : St) (H : Hp) (x y : V) (v u : Value) (Q : VK), Inv X pins σ H s → RelV x v → RelV y u → r x y H Q →
    subscripted slice false v u = operate [v, u] (getItem v u) → wpAny (model X.prog X.w) X.A (subscriptTail value slice v u) (EP X pins σ Q) X.xe s
def MtR (X : Cx) (id : String) (r : V → List V → Hp → VK → Prop) : Prop :=
  ∀ (pins : List (Addr × Obj)) (s : Shared) (σ : St) (H : Hp) (x : V) (xs : List V) (v : Value) (us : List Value) (Q : VK), Inv X pins σ H s → RelV x v → Vals xs us → r x xs H Q →
    wpAny (model X.prog X.w) X.A (call (.builtin id) (v :: us)) (EP X pins σ Q) X.xe s
section
variable {X : Cx} {a b : Expr} {ta tb : TE} {pos : Pos}
theorem pe_ix {r : R2} (hr : IxR X r) (ha : PE X a ta) (hb : PE X b tb) (hs : PlainIx b) : PE X (.Subscript a b pos) (tOp r ta tb) := by
  intro pins s σ H Q I h
  exact Subscript_ (binT ha hb I h fun v u s2 x y H2 I2 rx ry q => hr a b pins s2 σ H2 x y v u Q I2 rx ry q (hs _ _))
def rIxL (K : PySem.W.Frag) : R2 := fun x y H Q => ∃ p xs i v, x = .ref p ∧ y = .int i ∧ SqL K H p xs ∧ atI xs i = some v ∧ Q v H
def rIxT (K : PySem.W.Frag) : R2 := fun x y H Q => ∃ p xs i v, x = .ref p ∧ y = .int i ∧ SqT K H p xs ∧ atI xs i = some v ∧ Q v H
def rIxS : R2 := fun x y H Q => ∃ z i c, x = .str z ∧ y = .int i ∧ z.length ≤ sizeLine ∧ atI z.cps.toList i = some c ∧ Q (.str ⟨#[c]⟩) H
theorem ix_list : IxR X (rIxL X.K) := by
  intro value slice pins s σ H x y v u Q I rx ry h hs
  obtain ⟨p, xs, i, z, rfl, rfl, hq, he, q⟩ := h
  cases rx
  obtain ⟨t, rfl⟩ := ry
  obtain ⟨its, r, pl, hz⟩ := I.list hq
  obtain ⟨j, h1, h2, h3, h4, h5⟩ := atI_get he
  obtain ⟨w, ew, rw'⟩ := r.get h2
  have hl := r.length
  have hn := line63
  have fin : EP X pins σ Q w s := ⟨z, H, I, rw', q⟩
  by_cases h0 : 0 ≤ i
  · have hj : i.toNat = j := by
      rw [seqIndex_of h0 h5] at h1
      exact Option.some.inj h1
    exact item_listR pl.isList h0 (by omega) (by rw [hj]; simpa using ew) fin hs
  · have hj : (i + (its.toArray.size : Int)).toNat = j := by
      rw [seqIndex_neg (by omega) h4] at h1
      rw [List.size_toArray, ← hl]
      exact Option.some.inj h1
    exact subscriptTail_builtinR (x := w) pl.isList.typeIs slot_list_getitem.lookup
      (wpAny_getItem_list_neg (Q := fun r s' => r = w ∧ EP X pins σ Q r s') pl.isList (by omega) (by rw [List.size_toArray] <;> omega) (by omega) (by rw [hj]; simpa using ew) ⟨rfl, fin⟩) hs
theorem ix_tup : IxR X (rIxT X.K) := by
  intro value slice pins s σ H x y v u Q I rx ry h hs
  obtain ⟨p, xs, i, z, rfl, rfl, hq, he, q⟩ := h
  cases rx
  obtain ⟨t, rfl⟩ := ry
  obtain ⟨its, r, pl, hz⟩ := I.tuple hq
  obtain ⟨j, h1, h2, h3, h4, h5⟩ := atI_get he
  obtain ⟨w, ew, rw'⟩ := r.get h2
  have hl := r.length
  have hn := line63
  have fin : EP X pins σ Q w s := ⟨z, H, I, rw', q⟩
  exact subscriptTail_builtinR (x := w) pl.typeIs slot_tuple_getitem.lookup
    (getItem_tuple (j := j) (Q := fun r s' => r = w ∧ EP X pins σ Q r s') pl (by omega) (by omega) (by rw [List.size_toArray, ← hl]; exact h1) (by simpa using ew) ⟨rfl, fin⟩) hs
theorem ix_str : IxR X rIxS := by
  intro value slice pins s σ H x y v u Q I rx ry h hs
  obtain ⟨z, i, c, rfl, rfl, hz, he, q⟩ := h
  obtain ⟨t, rfl⟩ := rx
  obtain ⟨t', rfl⟩ := ry
  obtain ⟨j, h1, h2, h3, h4, h5⟩ := atI_get he
  have hl : z.cps.toList.length = z.length := by simp [Str.length]
  rw [hl] at h1 h4 h5
  have hn := line63
  exact tail_any (typeIs_str s z t) slot_str_getitem.lookup (getItem_str (c := c) (by
    have e1 : decide (i < -(2 ^ 63 : Int)) = false := decide_eq_false (by omega)
    have e2 : decide (i ≥ 2 ^ 63) = false := decide_eq_false (by omega)
    rw [e1, e2, Bool.or_false]) (by rw [h1]; simpa using h2) ⟨.str ⟨#[c]⟩, H, I.tok _, ⟨_, rfl⟩, q⟩) hs
theorem mapSeq_set (its : List Value) (n j : Nat) (u : Value) : Obj.mapSeq (·.setIfInBounds j u) { cls := .type "list", data := .seq its.toArray n } = { cls := .type "list", data := .seq (its.set j u).toArray n } := by
  simp [Obj.mapSeq]
theorem Inv.lst {pins : List (Addr × Obj)} {σ : St} {H : Hp} {s : Shared} {p : Addr} {xs : List V} (I : Inv X pins σ H s) (h : H p = some (.lst xs)) :
    ∃ (its : List Value) (n : Nat), Vals xs its ∧ s.heap.get? p = some { cls := .type "list", data := .seq its.toArray n } ∧ xs.length ≤ sizeLine := by
  obtain ⟨z, its, n, r, e⟩ := I.hok p _ h
  exact ⟨its, n, r, e, z⟩
theorem Inv.lstUpd {pins : List (Addr × Obj)} {σ : St} {H : Hp} {s : Shared} {p : Addr} {xs ys : List V} {its its' : List Value} {n n' : Nat} {f : Obj → Obj} (I : Inv X pins σ H s) (h : H p = some (.lst xs))
    (ho : s.heap.get? p = some { cls := .type "list", data := .seq its.toArray n }) (hf : f { cls := .type "list", data := .seq its.toArray n } = { cls := .type "list", data := .seq its'.toArray n' }) (r : Vals ys its') (hz : ys.length ≤ sizeLine) (t : Nat) :
    Inv X pins σ (upd H p (.lst ys)) { s with heap := s.heap.update p f, toks := t } := by
  have e : (s.heap.update p f).get? p = some { cls := .type "list", data := .seq its'.toArray n' } := by
    rw [Heap.get?_update_self f ho (by rw [hf] <;> rfl), hf]
  refine I.write (x := p) (e := p) (by rw [h]; trivial) (.inl rfl) (fun b u hb q => (Heap.get?_update_other _ _ (Ne.symm hb)).trans q) ⟨_, e⟩ ?_
  exact ⟨hz, its', n', r, e⟩
def rSetL : V → V → V → Hp → (Hp → Prop) → Prop := fun o i v H Q => ∃ p xs k j, o = .ref p ∧ i = .int k ∧ H p = some (.lst xs) ∧ ixN xs.length k = some j ∧ Q (upd H p (.lst (xs.set j v)))
theorem set_list : PSet X rSetL := by
  intro pins s σ H o i v ov iv u Q I ro ri rv h
  obtain ⟨p, xs, k, j, rfl, rfl, hp, hj, q⟩ := h
  cases ro
  obtain ⟨t, rfl⟩ := ri
  obtain ⟨its, n, r, ho, hz⟩ := I.lst hp
  obtain ⟨h1, h2, h3, h4⟩ := ixN_seq hj
  have hl := r.length
  have hn := line63
  have I' : Inv X pins σ (upd H p (.lst (xs.set j v))) { s with heap := s.heap.update p (Obj.mapSeq (·.setIfInBounds j u)) } :=
    I.lstUpd hp ho (mapSeq_set its n j u) (r.set rv j) (by rw [List.length_set]; exact hz) s.toks
  by_cases h0 : 0 ≤ k
  · have hk : k.toNat = j := by
      rw [seqIndex_of h0 h4] at h1
      exact Option.some.inj h1
    exact PySem.W.ki_setAt ho h0 (by omega) (by rw [List.size_toArray, ← hl]; exact h4) (by rw [hk]; exact ⟨_, I', q⟩)
  · have hk : (k + (its.toArray.size : Int)).toNat = j := by
      rw [seqIndex_neg (by omega) h3] at h1
      rw [List.size_toArray, ← hl]
      exact Option.some.inj h1
    exact PySem.W.ki_setBack ho (by omega) (by rw [List.size_toArray, ← hl]; exact h3) (by omega) (by rw [hk]; exact ⟨_, I', q⟩)
theorem slice_bounds (lo hi : Option Int) (n : Nat) : (sliceBounds lo hi none n).1 = ((HT.sIx n 0 lo : Nat) : Int) ∧ (sliceBounds lo hi none n).2.1 = ((HT.sIx n n hi : Nat) : Int) ∧ (sliceBounds lo hi none n).2.2 = 1 := by
  refine ⟨?_, ?_, rfl⟩
  · cases lo with
    | none => simp [sliceBounds, HT.sIx]
    | some i =>
      simp only [sliceBounds, HT.sIx, Option.getD_none, show (1 : Int) > 0 by decide, if_true]
      by_cases h : i < 0
      · simp only [h, if_true] <;> omega
      · simp only [h, if_false] <;> omega
  · cases hi with
    | none => simp [sliceBounds, HT.sIx]
    | some i =>
      simp only [sliceBounds, HT.sIx, Option.getD_none, show (1 : Int) > 0 by decide, if_true]
      by_cases h : i < 0
      · simp only [h, if_true] <;> omega
      · simp only [h, if_false] <;> omega
theorem slicePick_cut (its : List Value) (lo hi : Option Int) : slicePick its.toArray lo hi none = ((its.drop (HT.sIx its.length 0 lo)).take (HT.sIx its.length its.length hi - HT.sIx its.length 0 lo)).toArray := by
  obtain ⟨h1, h2, h3⟩ := slice_bounds lo hi its.toArray.size
  unfold slicePick
  rw [h1, h2, h3]
  simp only [sliceRange_one, pick_run, List.size_toArray] <;> rfl
def rSlL (K : PySem.W.Frag) : V → Option Int → Option Int → Hp → VK → Prop := fun x lo hi H Q => ∃ a xs, x = .ref a ∧ SqL K H a xs ∧ ∀ p, H p = none → Q (.ref p) (upd H p (.lst (cutV xs lo hi)))
theorem sl_list : SlR X (rSlL X.K) := by
  intro pins s σ H x v vl vu lo hi sl Q I rx hs pl pu h
  obtain ⟨a, xs, rfl, hx, q⟩ := h
  cases rx
  obtain ⟨its, r, ht, hz⟩ := I.list hx
  have hlen := r.length
  refine ⟨"list", _, slot_list_getitem.lookup, ht.isList.typeIs, ?_⟩
  refine wpAny_getItem_list_slice ht.isList hs pl pu .none (by simp) ?_ (by rw [List.size_toArray] <;> omega)
  rw [slicePick_cut, ← hlen]
  refine ⟨.ref s.heap.objs.size, _, I.laid (t' := s.toks) (o := .lst (cutV xs lo hi)) (fun b ob q => Heap.get?_push_of_some _ q) (Nat.le_refl _) ?_, rfl, q _ (I.hok.fresh (Nat.le_refl _))⟩
  exact ⟨Nat.le_trans (cutV_length xs lo hi) hz, _, 0, (r.drop (HT.sIx xs.length 0 lo)).take (HT.sIx xs.length xs.length hi - HT.sIx xs.length 0 lo), Heap.get?_push_size _ rfl⟩
theorem call_len_seq : CallR X (.builtin "len") (fun xs H Q => ∃ p ys, xs = [.ref p] ∧ (SqL X.K H p ys ∨ SqT X.K H p ys) ∧ Q (.int ys.length) H) := by
  intro pins s σ H xs us Q I r h
  obtain ⟨p, ys, rfl, hq, q⟩ := h
  obtain ⟨u, rfl, rx⟩ := vals1 r
  cases rx
  have hn := line63
  rcases hq with hq | hq
  · obtain ⟨its, r', pl, hz⟩ := I.list hq
    have hlen := r'.length
    exact Calls.call_len_list pl.isList (by simp only [List.size_toArray] <;> omega) ⟨.int ys.length, H, I.tok _, ⟨s.toks + 1, by rw [List.size_toArray, hlen]⟩, q⟩
  · obtain ⟨its, r', pl, hz⟩ := I.tuple hq
    have hlen := r'.length
    exact len_tuple pl (by simp only [List.size_toArray] <;> omega) ⟨.int ys.length, H, I.tok _, ⟨s.toks + 1, by rw [List.size_toArray, hlen]⟩, q⟩
theorem call_list_of : CallR X (.type "list") (fun xs H Q => ∃ p ys, xs = [.ref p] ∧ (SqL X.K H p ys ∨ SqT X.K H p ys) ∧ ∀ l, H l = none → Q (.ref l) (upd H l (.lst ys))) := by
  intro pins s σ H xs us Q I r h
  obtain ⟨p, ys, rfl, hq, q⟩ := h
  obtain ⟨u, rfl, rx⟩ := vals1 r
  cases rx
  have fin : ∀ (its : List Value), Vals ys its → ys.length ≤ sizeLine → ∀ (h' : Heap) (c' : Nat), (∀ b o', s.heap.get? b = some o' → h'.get? b = some o') →
      h'.get? s.heap.objs.size = some { cls := .type "list", dict := none, data := .seq its.toArray c', slots := #[] } → EP X pins σ Q (.ref s.heap.objs.size) { s with heap := h' } := fun its r' hz h' c' kp e =>
    ⟨.ref s.heap.objs.size, _, I.laid (t' := s.toks) kp (Nat.le_refl _) (show ObjOk X.prog X.w _ h' _ (.lst ys) from ⟨hz, its, c', r', e⟩), rfl, q _ (I.hok.fresh (Nat.le_refl _))⟩
  rcases hq with hq | hq
  · obtain ⟨its, r', pl, hz⟩ := I.list hq
    have hlen := r'.length
    obtain ⟨o, ho, hc, n, hd⟩ := pl.isList
    exact call_list_seq p (.inl rfl) ho hc hd (fun h' c' kp e => fin its r' hz h' c' kp e) (by simp only [List.size_toArray] <;> omega)
  · obtain ⟨its, r', pl, hz⟩ := I.tuple hq
    have hlen := r'.length
    obtain ⟨o, ho, hc, n, hd⟩ := pl
    exact call_list_seq p (.inr rfl) ho hc hd (fun h' c' kp e => fin its r' hz h' c' kp e) (by simp only [List.size_toArray] <;> omega)
theorem call_tuple_of : CallR X (.type "tuple") (fun xs H Q => ∃ p ys, xs = [.ref p] ∧ ((SqL X.K H p ys ∧ ∀ l, H l = none → Q (.ref l) (upd H l (.tup ys))) ∨ (SqT X.K H p ys ∧ Q (.ref p) H))) := by
  intro pins s σ H xs us Q I r h
  obtain ⟨p, ys, rfl, h⟩ := h
  obtain ⟨u, rfl, rx⟩ := vals1 r
  cases rx
  rcases h with ⟨hq, q⟩ | ⟨hq, q⟩
  · obtain ⟨its, r', pl, hz⟩ := I.list hq
    have hlen := r'.length
    refine call_tuple_list pl.isList (fun h' kp => ?_) (by simp only [List.size_toArray] <;> omega)
    have I1 : Inv X pins σ H { s with heap := h' } := I.kept (t' := s.toks) kp
    have I2 : Inv X pins σ (upd H h'.objs.size (.tup ys)) { s with heap := h'.push { cls := .type "tuple", data := .seq its.toArray } } :=
      I1.laid (t' := s.toks) (fun b o e => Heap.get?_push_of_some _ e) (Nat.le_refl _) (show ObjOk X.prog X.w _ _ _ (.tup ys) from ⟨hz, its, r', TupD.new _ _⟩)
    exact ⟨.ref h'.objs.size, _, I2, rfl, q _ (I1.hok.fresh (Nat.le_refl _))⟩
  · obtain ⟨its, r', pl, hz⟩ := I.tuple hq
    exact call_tuple_same pl ⟨.ref p, H, I, rfl, q⟩
def tyV (K : PySem.W.Frag) (T : String) (x : V) (H : Hp) : Prop := match x with
  | .str _ => T = "str"
  | .int _ => T = "int"
  | .ref p => (T = "list" ∧ ∃ xs, SqL K H p xs) ∨ (T = "tuple" ∧ ∃ o, K.lookup p = some o ∧ o.cls = .type "tuple" ∧ o.dict = none) ∨
      (T = "dict" ∧ ((∃ kvs, H p = some (.dK kvs)) ∨ ∃ kvs, H p = some (.dT kvs))) ∨ (T = "set" ∧ ∃ S n, H p = some (.set S n))
  | _ => False
theorem tyV_is {pins : List (Addr × Obj)} {σ : St} {H : Hp} {s : Shared} {T : String} {x : V} {v : Value} (I : Inv X pins σ H s) (r : RelV x v) (ty : tyV X.K T x H) :
    s.TypeIs v T ∧ ∀ a, v = .ref a → ∃ ob, s.heap.get? a = some ob ∧ ob.dict = none := by
  cases x with
  | str z =>
    obtain ⟨t, rfl⟩ := r
    cases (show T = "str" from ty)
    exact ⟨typeIs_str s z t, fun _ e => nomatch e⟩
  | int i =>
    obtain ⟨t, rfl⟩ := r
    cases (show T = "int" from ty)
    exact ⟨typeIs_int s i t, fun _ e => nomatch e⟩
  | ref p =>
    cases r
    rcases ty with ⟨rfl, xs, hq⟩ | ⟨rfl, o, hk, hc, hd⟩ | ⟨rfl, hk⟩ | ⟨rfl, S, n, hk⟩
    · obtain ⟨its, _, pl, _⟩ := I.list hq
      refine ⟨pl.isList.typeIs, fun a e => ?_⟩
      cases e
      obtain ⟨o, n, e, c, hd, _⟩ := pl
      exact ⟨o, e, hd⟩
    · refine ⟨⟨o, I.kIn p o hk, hc⟩, fun a e => ?_⟩
      cases e
      exact ⟨o, I.kIn _ o hk, hd⟩
    · have z : ∃ o, s.heap.get? p = some o ∧ o.ExactDict := by
        rcases hk with ⟨kvs, hk⟩ | ⟨kvs, hk⟩
        · obtain ⟨_, _, _, _, o, _, _, e, ex, _⟩ := I.hok p _ hk
          exact ⟨o, e, ex⟩
        · obtain ⟨_, _, _, _, o, _, _, e, ex, _⟩ := I.hok p _ hk
          exact ⟨o, e, ex⟩
      obtain ⟨o, e, ex⟩ := z
      refine ⟨⟨o, e, ex.1⟩, fun a e2 => ?_⟩
      cases e2
      exact ⟨o, e, ex.2.1⟩
    · obtain ⟨o, _, _, _, e, ex, _⟩ := I.hok p _ hk
      refine ⟨⟨o, e, ex.1⟩, fun a e2 => ?_⟩
      cases e2
      exact ⟨o, e, ex.2.1⟩
  | _ => exact False.elim ty
def tBM (K : PySem.W.Frag) (T : String) (r : V → List V → Hp → VK → Prop) (to : TE) (t : TA) : TE := fun σ H Q => to σ H fun x H1 => tyV K T x H1 ∧ t σ H1 fun xs H2 => r x xs H2 Q
variable {o e : Expr} {es : List Expr} {to : TE} {t : TA} {name : Str} {apos cpos : Pos} {T id : String} {r : V → List V → Hp → VK → Prop}
theorem pe_bm (pa : PlainAttrs T) (slot : Slot T name id) (hty : typeOf (.builtin id) = pure (.type "method_descriptor")) (hm : MtR X id r) (ho : PE X o to) (ha : PA X (e :: es) t)
    (hbase : attributeBase o name X.env (eval o X.env) = eval o X.env := by rfl)
    (hfew : ((backTo cpos (starEach (e :: es) X.env)).all (fun x => !x.1) && (backToKw cpos (keywordEach [] X.env)).all (fun x => x.1.isSome)
      && decide ((e :: es).length + ([] : List Keyword).length + (if ([] : List Keyword).isEmpty then 0 else 1) < 30)) = true := by rfl)
    (hline : (apos.endLine == cpos.line) = true := by rfl) (hs : starEach (e :: es) X.env = (false, eval e X.env) :: starEach es X.env := by rfl) (hplain : (backTo cpos (starEach es X.env)).any (·.1) = false := by rfl) :
    PE X (.Call (.Attribute o name apos) (e :: es) [] cpos) (tBM X.K T r to t) := by
  intro pins s σ H Q I h
  refine wpAny_Call_method_late hbase hfew hline rfl (thn (ho pins s σ H _ I h) fun v s1 ⟨x, H1, I1, r1, ty, q1⟩ => ?_)
  obtain ⟨h1, h2⟩ := tyV_is I1 r1 ty
  refine ⟨T, id, pa, slot, hty, h1, h2, ?_⟩
  have hA := ha cpos pins s1 σ H1 _ I1 q1
  rw [hs] at hA ⊢
  refine Calls.callWith_builtin (by show (false || (backTo cpos (starEach es X.env)).any (·.1)) = false; rw [hplain] <;> rfl) (Calls.evalArgs_plain ?_)
  exact thn hA fun us s2 ⟨vs, H2, I2, r2, q2⟩ => hm pins s2 σ H2 x vs v us Q I2 r1 r2 q2
end
end L2
namespace L2
open PySem PySem.Spec PyProof.Rows
def MtM (X : Cx) (id : String) (r : V → List V → Hp → VK → Prop) : Prop :=
  ∀ (pins : List (Addr × Obj)) (s : Shared) (σ : St) (H : Hp) (x : V) (xs : List V) (v : Value) (us : List Value) (Q : VK), Inv X pins σ H s → RelV x v → Vals xs us → r x xs H Q →
    wpAny (model X.prog X.w) X.A (call (.builtin id) (v :: us)) (EP X pins σ Q) X.xe s
theorem Vals.one : ∀ {x : V} {us : List Value}, Vals [x] us → ∃ u, us = [u] ∧ RelV x u
  | _, _, .cons r .nil => ⟨_, rfl, r⟩
section
variable {X : Cx} {pins : List (Addr × Obj)} {σ : St} {H : Hp} {s : Shared} {l b : Addr} {xs ys zs : List V}
theorem Inv.lset {its its' : List Value} {n : Nat} {f : Array Value → Array Value} {t' : Nat} (I : Inv X pins σ H s) (hH : H l = some (.lst xs))
    (e : s.heap.get? l = some { cls := .type "list", data := .seq its.toArray n }) (hf : f its.toArray = its'.toArray) (hv : Vals ys its') (hz : ys.length ≤ sizeLine) :
    Inv X pins σ (upd H l (.lst ys)) { s with heap := s.heap.update l (Obj.mapSeq f), toks := t' } := by
  have q := PySem.IsL.update e f
  rw [hf] at q
  refine I.write (x := l) (e := l) (by rw [hH]; exact trivial) (.inl rfl) (fun b' u hb hu => (Heap.get?_update_other s.heap (Obj.mapSeq f) (Ne.symm hb)).trans hu) ⟨_, q⟩ ?_
  exact ⟨hz, its', _, hv, q⟩
theorem Inv.lnew {its : List Value} {t' : Nat} (I : Inv X pins σ H s) (hv : Vals ys its) (hz : ys.length ≤ sizeLine) :
    Inv X pins σ (upd H s.heap.objs.size (.lst ys)) { s with heap := s.heap.push { cls := .type "list", data := .seq its.toArray }, toks := t' } :=
  I.laid (fun _ _ q => Heap.get?_push_of_some _ q) (Nat.le_refl _) ⟨hz, its, 0, hv, Heap.get?_push_size _ rfl⟩
theorem Inv.fresh (I : Inv X pins σ H s) : H s.heap.objs.size = none := I.hok.fresh (Nat.le_refl _)
theorem Inv.lstM (I : Inv X pins σ H s) (hH : H l = some (.lst xs)) : xs.length ≤ sizeLine ∧ ∃ (its : List Value) (n : Nat), Vals xs its ∧ xs.length = its.length ∧ s.heap.get? l = some { cls := .type "list", data := .seq its.toArray n } := by
  obtain ⟨z, its, n, r, e⟩ := I.hok l _ hH
  exact ⟨z, its, n, r, r.length, e⟩
end
section
variable {X : Cx}
def rAppend : V → List V → Hp → VK → Prop := fun x vs H Q => ∃ l xs y, x = .ref l ∧ vs = [y] ∧ H l = some (.lst xs) ∧ xs.length < sizeLine ∧ Q .non (upd H l (.lst (xs ++ [y])))
theorem mt_append : MtM X "list.append" rAppend := by
  intro pins s σ H x vs v us Q I rx rv h
  obtain ⟨l, xs, y, rfl, rfl, hH, hz, q⟩ := h
  cases rx
  obtain ⟨u, rfl, ru⟩ := rv.one
  obtain ⟨z, its, n, r, hl, e⟩ := I.lstM hH
  refine call_meets F.slot_list_append ⟨_, e, rfl⟩ F.entry_list_append (F.args_list_append_2 _ _) (PySem.list_append l its.toArray n u (by rw [List.size_toArray]; omega)) ⟨e, ?_⟩
  refine ⟨.non, _, I.lset (its' := its ++ [u]) hH e (by simp) (r.append (.cons ru .nil)) ?_, rfl, q⟩
  rw [List.length_append, List.length_singleton]
  omega
def rCat : R2 := fun x y H Q => ∃ l b xs zs, x = .ref l ∧ y = .ref b ∧ H l = some (.lst xs) ∧ H b = some (.lst zs) ∧ xs.length + zs.length ≤ sizeLine ∧ ∀ p, H p = none → Q (.ref p) (upd H p (.lst (xs ++ zs)))
theorem op_cat : OpR X (binaryOp .Add) rCat := by
  intro pins s σ H x y v u Q I rx ry h
  obtain ⟨l, b, xs, zs, rfl, rfl, hH, hB, hz, q⟩ := h
  cases rx
  cases ry
  obtain ⟨z, its, n, r, hl, e⟩ := I.lstM hH
  obtain ⟨z2, its2, n2, r2, hl2, e2⟩ := I.lstM hB
  refine PySem.P.add_list e e2 ?_ (by rw [List.size_toArray, List.size_toArray]; omega)
  have ea : its.toArray ++ its2.toArray = (its ++ its2).toArray := by simp
  rw [ea]
  exact ⟨.ref _, _, I.lnew (t' := s.toks) (r.append r2) (by rw [List.length_append]; omega), rfl, q _ I.fresh⟩
end
section
variable {prog : Program} {w : World} {A : Around} {E : Value → Shared → Prop} {s : Shared}
set_option maxRecDepth 100000 in
end
section
variable {X : Cx}
end
end L2
namespace L2
open PySem PySem.Spec PyProof.Rows
section
variable {κ : Type} [DecidableEq κ]
def valV (kvs : List (κ × V)) (k : κ) : Option V := (kvs.find? fun kv => decide (kv.1 = k)).map (·.2)
def putK (kvs : List (κ × V)) (k : κ) (v : V) : List (κ × V) :=
  if (kvs.any fun kv => decide (kv.1 = k)) = true then kvs.map (fun kv => if kv.1 = k then (kv.1, v) else kv) else kvs ++ [(k, v)]
theorem valV_pos {p : κ × V} {r : List (κ × V)} {k : κ} (e : p.1 = k) : valV (p :: r) k = some p.2 := by simp [valV, List.find?_cons, e]
theorem valV_neg {p : κ × V} {r : List (κ × V)} {k : κ} (e : ¬ p.1 = k) : valV (p :: r) k = valV r k := by simp [valV, List.find?_cons, e]
theorem valV_any (k : κ) : ∀ kvs : List (κ × V), (kvs.any fun kv => decide (kv.1 = k)) = (valV kvs k).isSome
  | [] => rfl
  | p :: r => by
    rw [List.any_cons]
    by_cases e : p.1 = k
    · simp only [valV_pos e, decide_eq_true e, Bool.true_or, Option.isSome_some]
    · rw [valV_neg e, decide_eq_false e, Bool.false_or]; exact valV_any k r
theorem valV_map (k j : κ) (y : V) : ∀ kvs : List (κ × V), valV (kvs.map fun kv => if kv.1 = k then (kv.1, y) else kv) j = (valV kvs j).map fun x => if j = k then y else x
  | [] => rfl
  | p :: r => by
    have ih := valV_map k j y r
    rw [List.map_cons]
    by_cases h : p.1 = k
    · rw [if_pos h]
      by_cases e : p.1 = j
      · rw [valV_pos (p := (p.1, y)) e, valV_pos e, Option.map_some, if_pos (e.symm.trans h)]
      · rw [valV_neg (p := (p.1, y)) e, valV_neg e, ih]
    · rw [if_neg h]
      by_cases e : p.1 = j
      · rw [valV_pos (p := p) e, valV_pos e, Option.map_some, if_neg (fun z => h (e.trans z))]
      · rw [valV_neg (p := p) e, valV_neg e, ih]
theorem valV_snoc (k j : κ) (y : V) : ∀ kvs : List (κ × V), valV kvs k = none → valV (kvs ++ [(k, y)]) j = if j = k then some y else valV kvs j
  | [], _ => by
    by_cases e : k = j
    · rw [if_pos e.symm]; exact valV_pos (p := (k, y)) e
    · rw [if_neg (fun z => e z.symm)]; exact valV_neg (p := (k, y)) e
  | p :: r, hn => by
    rw [List.cons_append]
    have hk : ¬ p.1 = k := fun z => by rw [valV_pos z] at hn; cases hn
    rw [valV_neg hk] at hn
    have ih := valV_snoc k j y r hn
    by_cases e : p.1 = j
    · rw [valV_pos e, valV_pos e, if_neg (fun z => hk (e.trans z))]
    · rw [valV_neg e, valV_neg e, ih]
theorem valV_put (kvs : List (κ × V)) (k j : κ) (y : V) : valV (putK kvs k y) j = if j = k then some y else valV kvs j := by
  unfold putK
  by_cases a : (kvs.any fun kv => decide (kv.1 = k)) = true
  · rw [if_pos a, valV_map]
    rw [valV_any] at a
    by_cases e : j = k
    · obtain ⟨x, hx⟩ := Option.isSome_iff_exists.mp a
      rw [if_pos e, e, hx, Option.map_some, if_pos rfl]
    · rw [if_neg e]
      cases valV kvs j with
      | none => rfl
      | some x => rw [Option.map_some, if_neg e]
  · rw [if_neg a]
    refine valV_snoc k j y kvs ?_
    rw [valV_any] at a
    cases q : valV kvs k with
    | none => rfl
    | some x => rw [q] at a; exact (a rfl).elim
theorem length_putK (kvs : List (κ × V)) (k : κ) (v : V) : (putK kvs k v).length ≤ kvs.length + 1 := by
  unfold putK
  split
  · rw [List.length_map]; omega
  · rw [List.length_append, List.length_cons, List.length_nil]; omega
theorem RelO.isSome_eq {o : Option V} {u : Option Value} (r : RelO o u) : o.isSome = u.isSome := by
  cases o with
  | none => cases u with
    | none => rfl
    | some _ => exact (show False from r).elim
  | some _ => cases u with
    | none => exact (show False from r).elim
    | some _ => rfl
theorem KV.val {kvs : List (κ × V)} {vs : List (κ × Value)} (r : KV kvs vs) (k : κ) : RelO (valV kvs k) (valueAt vs k) := by
  unfold KV at r
  induction r with
  | nil => exact True.intro
  | @cons p q ps qs h t ih =>
    obtain ⟨h1, h2⟩ := h
    by_cases e : p.1 = k
    · have e' : q.1 = k := h1.symm.trans e
      have b : valueAt (q :: qs) k = some q.2 := by simp [valueAt, List.find?_cons, e']
      rw [valV_pos e, b]; exact h2
    · have e' : ¬ q.1 = k := fun z => e (h1.trans z)
      have b : valueAt (q :: qs) k = valueAt qs k := by simp [valueAt, List.find?_cons, e']
      rw [valV_neg e, b]; exact ih
theorem KV.any {kvs : List (κ × V)} {vs : List (κ × Value)} (r : KV kvs vs) (k : κ) : (kvs.any fun kv => decide (kv.1 = k)) = vs.any fun kv => decide (kv.1 = k) := by
  unfold KV at r
  induction r with
  | nil => rfl
  | cons h t ih => rw [List.any_cons, List.any_cons, ih, h.1]
theorem KV.repl {kvs : List (κ × V)} {vs : List (κ × Value)} (r : KV kvs vs) (k : κ) {y : V} {u : Value} (ry : RelV y u) :
    KV (kvs.map fun kv => if kv.1 = k then (kv.1, y) else kv) (vs.map fun kv => if kv.1 = k then (kv.1, u) else kv) := by
  unfold KV at r ⊢
  induction r with
  | nil => exact .nil
  | @cons p q ps qs h t ih =>
    rw [List.map_cons, List.map_cons]
    refine .cons ?_ ih
    obtain ⟨h1, h2⟩ := h
    by_cases e : p.1 = k
    · rw [if_pos e, if_pos (h1.symm.trans e)]; exact ⟨h1, ry⟩
    · rw [if_neg e, if_neg (fun z => e (h1.trans z))]; exact ⟨h1, h2⟩
theorem KV.put {kvs : List (κ × V)} {vs : List (κ × Value)} (r : KV kvs vs) (k : κ) {y : V} {u : Value} (ry : RelV y u) : KV (putK kvs k y) (stored vs k u) := by
  unfold putK stored
  rw [r.any k]
  by_cases e : (vs.any fun kv => decide (kv.1 = k)) = true
  · rw [if_pos e, if_pos e]; exact r.repl k ry
  · rw [if_neg e, if_neg e]; exact Paired.snoc r ⟨rfl, ry⟩
theorem KV.keys {kvs : List (κ × V)} {vs : List (κ × Value)} (r : KV kvs vs) : kvs.map (·.1) = vs.map (·.1) := by
  unfold KV at r
  induction r with
  | nil => rfl
  | cons h t ih => rw [List.map_cons, List.map_cons, ih, h.1]
theorem KV.length {kvs : List (κ × V)} {vs : List (κ × Value)} (r : KV kvs vs) : kvs.length = vs.length := Paired.length r
end
theorem kV_is {P : Program} {w : World} {k : Key} {u : Value} (r : RelV (kV k) u) : (mixKind P w).is k u = true := by
  cases k with
  | inl i => obtain ⟨t, e⟩ := (show ∃ t, u = Value.int i t from r); subst e; exact mixKind_int P w i t
  | inr x => obtain ⟨t, e⟩ := (show ∃ t, u = Value.str x t from r); subst e; exact mixKind_str P w x t
theorem items_are {P : Program} {w : World} : ∀ {ks : List Key} {us : List Value}, Vals (ks.map kV) us → ItemsAre (mixKind P w) ks us
  | [], _, r => by rw [List.map_nil] at r; cases r; exact .nil
  | k :: ks, _, r => by
    rw [List.map_cons] at r
    cases r with
    | cons h t => exact .cons (kV_is h) (items_are t)
abbrev KT (H : Hp) : List (List Key × V) → List (List Key × Addr × Value) → Prop := Paired fun p q => p.1 = q.1 ∧ H q.2.1 = some (.tup (p.1.map kV)) ∧ RelV p.2 q.2.2
theorem KT.val {H : Hp} {kvs : List (List Key × V)} {xs : List (List Key × Addr × Value)} (r : KT H kvs xs) (k : List Key) : RelO (valV kvs k) ((atKey xs k).map (·.2)) := by
  induction r with
  | nil => exact True.intro
  | @cons p q ps qs h t ih =>
    obtain ⟨h1, _, h2⟩ := h
    by_cases e : p.1 = k
    · have e' : q.1 = k := h1.symm.trans e
      have b : atKey (q :: qs) k = some q.2 := by simp [atKey, List.find?_cons, e']
      rw [valV_pos e, b]; exact h2
    · have e' : ¬ q.1 = k := fun z => e (h1.trans z)
      have b : atKey (q :: qs) k = atKey qs k := by simp [atKey, List.find?_cons, e']
      rw [valV_neg e, b]; exact ih
theorem KT.repl {H : Hp} {kvs : List (List Key × V)} {xs : List (List Key × Addr × Value)} (r : KT H kvs xs) (k : List Key) {y : V} {u : Value} (ry : RelV y u) :
    KT H (kvs.map fun kv => if kv.1 = k then (kv.1, y) else kv) (xs.map (putAt k u)) := by
  induction r with
  | nil => exact .nil
  | @cons p q ps qs h t ih =>
    rw [List.map_cons, List.map_cons]
    refine .cons ?_ ih
    obtain ⟨h1, h2, h3⟩ := h
    unfold putAt
    by_cases e : p.1 = k
    · rw [if_pos e, if_pos (h1.symm.trans e)]; exact ⟨h1, h2, ry⟩
    · rw [if_neg e, if_neg (fun z => e (h1.trans z))]; exact ⟨h1, h2, h3⟩
theorem KT.put {H : Hp} {kvs : List (List Key × V)} {xs : List (List Key × Addr × Value)} (r : KT H kvs xs) (k : List Key) {b : Addr} {y : V} {u : Value} (hb : H b = some (.tup (k.map kV))) (ry : RelV y u) :
    KT H (putK kvs k y) (storedH xs k b u) := by
  have e : (kvs.any fun kv => decide (kv.1 = k)) = (atKey xs k).isSome := by
    rw [valV_any, (r.val k).isSome_eq, Option.isSome_map]
  unfold putK storedH
  rw [e]
  by_cases q : (atKey xs k).isSome = true
  · rw [if_pos q, if_pos q]; exact r.repl k ry
  · rw [if_neg q, if_neg q]; exact Paired.snoc r ⟨rfl, hb, ry⟩
theorem KT.keeps {H H' : Hp} {kvs : List (List Key × V)} {xs : List (List Key × Addr × Value)} (r : KT H kvs xs) (ht : ∀ b ys, H b = some (.tup ys) → H' b = some (.tup ys)) : KT H' kvs xs :=
  Paired.mapP r fun _ _ z => ⟨z.1, ht _ _ z.2.1, z.2.2⟩
section
variable {P : Program} {w : World} {H : Hp} {h : Heap} {a : Addr}
theorem rd_of {u : HO} (ok : HOk P w H h) (e : Rd H a u) : ObjOk P w H h a u := e.ok ok
theorem dk_rd {kvs : List (Key × V)} (ok : HOk P w H h) (e : Rd H a (.dK kvs)) : kvs.length ≤ sizeLine ∧ (a == sysModules) = false ∧ ∃ vs, KV kvs vs ∧ h.DictOf (mixKind P w) a vs :=
  show ObjOk P w H h a (.dK kvs) from rd_of ok e
theorem dk_of {kvs : List (Key × V)} (ok : HOk P w H h) (e : H a = some (.dK kvs)) : kvs.length ≤ sizeLine ∧ (a == sysModules) = false ∧ ∃ vs, KV kvs vs ∧ h.DictOf (mixKind P w) a vs := dk_rd ok (.inl e)
theorem key_of {ks : List Key} (ok : HOk P w H h) (e : H a = some (.tup (ks.map kV))) : (tupleKind (mixKind P w)).is h ks a := by
  obtain ⟨_, its, r, o, h1, _, h2, n, h3⟩ := (show ObjOk P w H h a (.tup (ks.map kV)) from ok a _ e)
  exact ⟨o, its.toArray, n, h1, h2, h3, by simpa using items_are r⟩
theorem dt_rd {kvs : List (List Key × V)} (ok : HOk P w H h) (e : Rd H a (.dT kvs)) : kvs.length ≤ sizeLine ∧ (a == sysModules) = false ∧
    ∃ xs, KT H kvs xs ∧ h.DictOfH (tupleKind (mixKind P w)) a xs := by
  obtain ⟨z, y, xs, r, o, es, ep, h1, h2, h3, h4, h5⟩ := (show ObjOk P w H h a (.dT kvs) from rd_of ok e)
  refine ⟨z, y, xs, r, o, es, ep, h1, h2, h3, h4, fun x hx => ?_, h5⟩
  have all : ∀ {l : List (List Key × V)} {m : List (List Key × Addr × Value)}, KT H l m → ∀ x ∈ m, (tupleKind (mixKind P w)).is h x.1 x.2.1 := by
    intro l m q
    induction q with
    | nil => intro x hx; exact nomatch hx
    | @cons p q ps qs hq t ih =>
      intro x hx
      rcases List.mem_cons.mp hx with e | hx
      · subst e
        exact key_of ok (by rw [← hq.1]; exact hq.2.1)
      · exact ih x hx
  exact all r x hx
theorem dt_of {kvs : List (List Key × V)} (ok : HOk P w H h) (e : H a = some (.dT kvs)) : kvs.length ≤ sizeLine ∧ (a == sysModules) = false ∧
    ∃ xs, KT H kvs xs ∧ h.DictOfH (tupleKind (mixKind P w)) a xs := dt_rd ok (.inl e)
end
def DGet (H : Hp) (a : Addr) (y : V) (r : Option V) : Prop :=
  (∃ kvs k, Rd H a (.dK kvs) ∧ y = kV k ∧ r = valV kvs k) ∨ ∃ kvs k b, Rd H a (.dT kvs) ∧ y = .ref b ∧ H b = some (.tup (k.map kV)) ∧ r = valV kvs k
def DPut (H : Hp) (a : Addr) (y v : V) (H' : Hp) : Prop :=
  (∃ kvs k, H a = some (.dK kvs) ∧ y = kV k ∧ kvs.length < sizeLine ∧ H' = upd H a (.dK (putK kvs k v))) ∨
  ∃ kvs k b, H a = some (.dT kvs) ∧ y = .ref b ∧ H b = some (.tup (k.map kV)) ∧ kvs.length < sizeLine ∧ H' = upd H a (.dT (putK kvs k v))
theorem DGet.k {H : Hp} {a : Addr} {kvs : List (Key × V)} {k : Key} (e : H a = some (.dK kvs)) : DGet H a (kV k) (valV kvs k) := .inl ⟨kvs, k, .inl e, rfl, rfl⟩
theorem DPut.k {H : Hp} {a : Addr} {kvs : List (Key × V)} {k : Key} {v : V} (e : H a = some (.dK kvs)) (hl : kvs.length < sizeLine) : DPut H a (kV k) v (upd H a (.dK (putK kvs k v))) := .inl ⟨kvs, k, e, rfl, hl, rfl⟩
section
variable {X : Cx} {pins : List (Addr × Obj)} {σ : St} {H : Hp} {s : Shared} {a : Addr} {y v : V} {u r : Value} {o : Option V} {A : Around} {E : Value → Shared → Prop}
theorem Inv.big (I : Inv X pins σ H s) : sysModules < s.heap.objs.size := by
  have h : mainGlobals < s.heap.objs.size := (I.mod.glob.keeps I.bk).lt
  exact Nat.lt_trans (by decide) h
theorem d_getItem {Q : Value → Shared → Prop} (hu : A.units + 1 < cLine) (I : Inv X pins σ H s) (g : DGet H a y (some v)) (ry : RelV y u) (h : ∀ w' s', Inv X pins σ H s' → RelV v w' → Q w' s') :
    wpAny (model X.prog X.w) A (getItem (.ref a) u) Q E s := by
  rcases g with ⟨kvs, k, e, ey, l⟩ | ⟨kvs, k, b, e, ey, eb, l⟩
  · subst ey
    obtain ⟨z, hd, vs, rel, dd⟩ := dk_rd I.hok e
    obtain ⟨w', hw, rw'⟩ := RelO.some_of (v := v) (o := valueAt vs k) (by rw [l]; exact rel.val k)
    exact wpAny_getItem_of (kV_is ry) dd.mapOf hw (h w' _ (I.tok _) rw')
  · subst ey
    cases (show u = Value.ref b from ry)
    obtain ⟨z, hd, xs, rel, dd⟩ := dt_rd I.hok e
    obtain ⟨w', hw, rw'⟩ := RelO.some_of (v := v) (o := (atKey xs k).map (·.2)) (by rw [l]; exact rel.val k)
    obtain ⟨p, hp, hp2⟩ := Option.map_eq_some_iff.mp hw
    refine wpAny_getItem_heap (tupleKind_room_in1 hu) (key_of I.hok eb) dd hp ?_
    rw [hp2]
    exact h w' _ (I.tok _) rw'
theorem d_write {h' : Heap} {t' : Nat} {ob : HO} (I : Inv X pins σ H s) (mu : Mut (H a)) (hs : Heap.SameBut a s.heap h') (he : ∃ q, h'.get? a = some q) (new : ObjOk X.prog X.w (upd H a ob) h' a ob) :
    Inv X pins σ (upd H a ob) { s with heap := h', toks := t' } :=
  I.write (x := a) (e := a) mu (.inl rfl) (fun b q hb z => (hs.2 b hb).trans z) he new
theorem dk_new {P : Program} {w : World} {H' : Hp} {h' : Heap} {kvs : List (Key × V)} {vs : List (Key × Value)} (z : kvs.length ≤ sizeLine) (hd : (a == sysModules) = false) (rel : KV kvs vs) (dd : h'.DictOf (mixKind P w) a vs) :
    ObjOk P w H' h' a (.dK kvs) := ⟨z, hd, vs, rel, dd⟩
theorem d_setItem {H' : Hp} {Q : Unit → Shared → Prop} (hu : A.units + 1 < cLine) (I : Inv X pins σ H s) (g : DPut H a y v H') (ry : RelV y u) (rv : RelV v r) (h : ∀ s', Inv X pins σ H' s' → Q () s') :
    wpAny (model X.prog X.w) A (setItem (.ref a) u r) Q E s := by
  rcases g with ⟨kvs, k, e, ey, l, eH⟩ | ⟨kvs, k, b, e, ey, eb, l, eH⟩
  · subst ey eH
    obtain ⟨z, hd, vs, rel, dd⟩ := dk_of I.hok e
    have hz : vs.length ≤ sizeLine := by rw [← rel.length]; exact z
    have hl : (putK kvs k v).length ≤ sizeLine := by have := length_putK kvs k v; omega
    refine wpAny_setItem_pairs (hsz := hz) (kV_is ry) dd fun h' dd' hs => h _ ?_
    have he : ∃ q, h'.get? a = some q := let ⟨q, _, _, hq, _⟩ := dd'; ⟨q, hq⟩
    exact d_write I (by rw [e]; exact True.intro) hs he (dk_new hl hd (rel.put k rv) dd')
  · subst ey eH
    cases (show u = Value.ref b from ry)
    obtain ⟨z, hd, xs, rel, dd⟩ := dt_of I.hok e
    have hz : xs.length ≤ sizeLine := by rw [← Paired.length rel]; exact z
    have hl : (putK kvs k v).length ≤ sizeLine := by have := length_putK kvs k v; omega
    refine wpAny_setItem_heap (hsz := hz) (tupleKind_room_in1 hu) (key_of I.hok eb) dd fun h' dd' hs => h _ ?_
    obtain ⟨q, es, ep, hq, h2, h3, h4, _, h5⟩ := dd'
    refine d_write I (by rw [e]; exact True.intro) hs ⟨q, hq⟩ ⟨hl, hd, _, (rel.put k eb rv).keeps fun c ys ec => ?_, q, es, ep, hq, h2, h3, h4, h5⟩
    rw [upd_ne (ne_of ec e (fun z => nomatch z))]
    exact ec
end
section
variable {X : Cx} {pins : List (Addr × Obj)} {σ : St} {H : Hp} {s : Shared} {a : Addr} {kvs : List (Key × V)} {k : Key} {u : Value} {A : Around} {E : Value → Shared → Prop}
theorem d_len {Q : Value → Shared → Prop} (I : Inv X pins σ H s) (e : Rd H a (.dK kvs)) (h : ∀ t s', Inv X pins σ H s' → Q (.int kvs.length t) s') : wpAny (model X.prog X.w) A (call (.builtin "len") [.ref a]) Q E s := by
  obtain ⟨z, hd, vs, rel, dd⟩ := dk_rd I.hok e
  refine call_len_dict hd dd (by rw [← rel.length]; rw [sizeLine_eq] at z; omega) ?_
  rw [← rel.length]
  exact h _ _ (I.tok _)
end
def NoSl (i : Expr) : Prop := ∀ ov iv, subscripted i false ov iv = operate [ov, iv] (getItem ov iv)
theorem subD_of {prog : Program} {w : World} {A : Around} {E : Value → Shared → Prop} {s : Shared} {env : Env} {value slice : Expr} {pos : Pos} {T id : String} {Q : Value → Shared → Prop}
    (hl : typeLookup (.type T) "__getitem__" = pure (some (.builtin id))) (hs : NoSl slice)
    (h : wpAny (model prog w) A (eval value env) (fun o s₁ => wpAny (model prog w) A (eval slice env) (fun i s₂ => s₂.TypeIs o T ∧ wpAny (model prog w) A (getItem o i) Q E s₂) E s₁) E s) :
    wpAny (model prog w) A (eval (.Subscript value slice pos) env) Q E s := by
  refine Subscript_ (wpAny_mono h (fun o s₁ h₁ => wpAny_mono h₁ (fun i s₂ h₂ => ?_) fun _ _ x => x) fun _ _ x => x)
  obtain ⟨hT, h₂⟩ := h₂
  unfold subscriptTail
  refine wpAny_bind ?_
  rw [getitemInPython_of_ne hT.not_modules]
  refine wpAny_bind (wpAny_specialOf hT hl ?_)
  have fin : wpAny (model prog w) A (subscripted slice false o i) (fun r s₃ => wpAny (model prog w) A (letTemporaryGo value o r >>= fun _ => pure r) Q E s₃) E s₂ := by
    rw [hs o i]
    exact wpAny_operating (wpAny_mono h₂ (fun r s₃ h₃ => wpAny_bind (wpAny_letTemporaryGo (wpAny_pure h₃))) fun _ _ x => x)
  first
    | exact wpAny_pure (wpAny_bind fin)
    | exact wpAny_bind (wpAny_pure (wpAny_bind fin))
    | exact wpAny_bind fin
theorem dict_typeIs {X : Cx} {pins : List (Addr × Obj)} {σ : St} {H : Hp} {s : Shared} {a : Addr} {y : V} {o : Option V} (I : Inv X pins σ H s) (g : DGet H a y o) : s.TypeIs (.ref a) "dict" := by
  rcases g with ⟨kvs, k, e, _, _⟩ | ⟨kvs, k, b, e, _, _, _⟩
  · obtain ⟨_, _, vs, _, dd⟩ := dk_rd I.hok e
    exact dd.typeIs
  · obtain ⟨_, _, xs, _, dd⟩ := dt_rd I.hok e
    exact dd.typeIs
def tDGet (td ty : TE) : TE := fun σ H Q => td σ H fun x H1 => ty σ H1 fun y H2 => ∃ a v, x = .ref a ∧ DGet H2 a y (some v) ∧ Q v H2
def sDPut (td ty tv : TE) : TS := fun D σ H => tv σ H fun v H1 => td σ H1 fun x H2 => ty σ H2 fun y H3 => ∃ a H4, x = .ref a ∧ DPut H3 a y v H4 ∧ D.nx σ H4
section
variable {X : Cx} {o i e value : Expr} {pos pos' tpos : Pos} {td ty tv : TE}
theorem pe_dget (hu : X.A.units + 1 < cLine) (ho : PE X o td) (hi : PE X i ty) (hs : NoSl i) : PE X (.Subscript o i pos) (tDGet td ty) := by
  intro pins s σ H Q I h
  refine subD_of PySem.F.slot_dict_getitem.lookup hs (thn (ho pins s σ H _ I h) fun u s1 ⟨x, H1, I1, rx, q1⟩ => thn (hi pins s1 σ H1 _ I1 q1) fun iv s2 ⟨y, H2, I2, ry, a, v, ex, g, q2⟩ => ?_)
  subst ex
  obtain rfl : u = Value.ref a := rx
  exact ⟨dict_typeIs I2 g, d_getItem hu I2 g ry fun w' s3 I3 rw' => ⟨v, H2, I3, rw', q2⟩⟩
theorem ps_dput (hu : X.A.units + 1 < cLine) (ho : PE X o td) (hi : PE X i ty) (hv : PE X value tv) (hs : swapsWith value (some (.Subscript o i pos')) pos.line X.env = pure false) :
    PS X (.Assign [.Subscript o i pos'] value pos) (sDPut td ty tv) := by
  intro pins s σ H D I h
  refine wpAny_Assign_Subscript (thn (hv pins s σ H _ I h) fun r s1 ⟨v, H1, I1, rv, q1⟩ => thn (ho pins s1 σ H1 _ I1 q1) fun u s2 ⟨x, H2, I2, rx, q2⟩ => thn (hi pins s2 σ H2 _ I2 q2) fun iv s3 ⟨y, H3, I3, ry, a, H4, ex, g, q3⟩ => ?_) hs
  subst ex
  obtain rfl : u = Value.ref a := rx
  exact d_setItem hu I3 g ry rv fun s4 I4 => ⟨σ, H4, I4, q3⟩
end
theorem dk_empty {P : Program} {w : World} {H : Hp} (h : Heap) (hb : sysModules < h.objs.size) : ObjOk P w H (h.push { cls := .type "dict", data := .dict #[] }) h.objs.size (.dK []) :=
  ⟨Nat.zero_le _, beq_eq_false_iff_ne.mpr (Ne.symm (Nat.ne_of_lt hb)), [], .nil, Heap.DictOf.new h⟩
def tDNewK : TE := fun _ H Q => ∀ p, H p = none → Q (.ref p) (upd H p (.dK []))
section
variable {X : Cx} {pos : Pos}
theorem pe_dnewK : PE X (.Dict [] [] pos) tDNewK := fun pins s σ H Q I h =>
  wpAny_Dict_empty ⟨.ref s.heap.objs.size, _, I.laid (a := s.heap.objs.size) (o := .dK []) (t' := s.toks) (fun _ _ q => Heap.get?_push_of_some _ q) (Nat.le_refl _) (dk_empty s.heap I.big), rfl, h _ (I.hok.fresh (Nat.le_refl _))⟩
end
structure M1 (X : Cx) (o : Expr) (m : Str) (apos : Pos) (e : Expr) (cpos : Pos) : Prop where
  base : attributeBase o m X.env (eval o X.env) = eval o X.env
  few : ((backTo cpos (starEach [e] X.env)).all (fun x => !x.1) && (backToKw cpos (keywordEach [] X.env)).all (fun x => x.1.isSome)
    && decide (([e] : List Expr).length + ([] : List Keyword).length + (if ([] : List Keyword).isEmpty then 0 else 1) < 30)) = true
  line : (apos.endLine == cpos.line) = true
  trees : backTo cpos (starEach [e] X.env) = [(false, eval e X.env)]
structure M2 (X : Cx) (o : Expr) (m : Str) (apos : Pos) (e f : Expr) (cpos : Pos) : Prop where
  base : attributeBase o m X.env (eval o X.env) = eval o X.env
  few : ((backTo cpos (starEach [e, f] X.env)).all (fun x => !x.1) && (backToKw cpos (keywordEach [] X.env)).all (fun x => x.1.isSome)
    && decide (([e, f] : List Expr).length + ([] : List Keyword).length + (if ([] : List Keyword).isEmpty then 0 else 1) < 30)) = true
  line : (apos.endLine == cpos.line) = true
  trees : backTo cpos (starEach [e, f] X.env) = [(false, eval e X.env), (false, eval f X.env)]
section
variable {X : Cx} {pins : List (Addr × Obj)} {σ : St} {H : Hp} {s : Shared} {a : Addr} {y d : V} {u r : Value} {o : Option V} {A : Around} {E : Value → Shared → Prop}
end
section
variable {X : Cx} {o e f : Expr} {apos cpos : Pos} {td ty tx : TE}
end
section
variable {X : Cx} {pins : List (Addr × Obj)} {σ : St} {H : Hp} {s : Shared} {a : Addr} {kvs : List (Key × V)} {A : Around} {E : Value → Shared → Prop}
end
section
variable {X : Cx} {pins : List (Addr × Obj)} {σ : St} {H : Hp} {s : Shared} {a : Addr} {y : V} {u : Value} {A : Around} {E : Value → Shared → Prop}
end
end L2
namespace Att
open PySem PySem.W PySem.Calls PyProof.Rows
theorem ints_of_wellAll {P : Params} {h : Heap} : ∀ (ns : List Int) (vs : List Value), WellAll P h vs (ns.map WData.int) → IntsAre vs ns := by
  intro ns
  induction ns with
  | nil =>
    intro vs w
    rw [List.map_nil] at w
    cases w
    exact .nil
  | cons n ns ih =>
    intro vs w
    rw [List.map_cons] at w
    cases w with
    | cons a b =>
      cases a
      exact .cons _ _ (ih _ b)
theorem script_of {l : OpenLaw} {n : Nat} (hn : l.most = some n) {P : Params} {h : Heap} {args : List WData} {vals : List Value}
    (hpre : l.row.toRowW.claim.pre args = true) (hwl : WellAll P h vals args) :
    ∃ a vs ns, vals = [Value.ref a] ∧ args = [WData.list (ns.map WData.int)] ∧ h.get? a = some { cls := .type "list", data := .seq vs.toArray } ∧ IntsAre vs ns ∧ ns.length ≤ n := by
  have hsh : WShape.hasAll [] args [.list .int] = true := (pre_splitW hpre).1
  have hc : l.pre.holds [] { args := args } = true := (pre_splitW hpre).2
  obtain ⟨d, r, rfl, h1, h2⟩ := hasAllW_cons hsh
  obtain rfl := hasAllW_nil h2
  obtain ⟨xs, rfl, h3⟩ := hasW_list h1
  obtain ⟨ns, rfl⟩ := items_int h3
  have hlen : ns.length ≤ n := by
    unfold OpenLaw.pre at hc
    have h4 : (WTm.not (.lt (.lit (.int (n : Int))) (.len (.arg 0)))).holds [] { args := [.list (ns.map .int)] } = true := by
      have h4 := (holds_andW hc).1
      rw [hn] at h4
      exact h4
    have h5 := condW_of h4 (w_not (w_lt w_lit (w_len_list (w_arg rfl))))
    rw [List.length_map] at h5
    refine Nat.le_of_not_lt fun q => ?_
    have q' : (n : Int) < ((ns.length : Nat) : Int) := by omega
    first
      | (rw [decide_eq_true q'] at h5; exact absurd h5 (by decide))
      | (simp at h5; omega)
  cases hwl with
  | cons w1 w2 =>
    cases w2
    cases w1 with
    | list ho hall => exact ⟨_, _, ns, rfl, rfl, ho, ints_of_wellAll ns _ hall, hlen⟩
theorem post_true (l : OpenLaw) (args : List WData) : l.row.toRowW.claim.post args (.bool true) args = true :=
  postW_of (r := l.row.toRowW) (X := (true == true))
    (show WShape.has [] (.bool true) .bool = true by first | rfl | decide | simp [WShape.has, WShape.arms, WShape.armsAll])
    (show (WTm.eq .res (.lit (.bool true))).value [] { args := args, res := some (.bool true), after := args } = some (.bool (true == true)) from w_eq_bool (w_res rfl) w_lit) rfl
theorem attach_call {l : OpenLaw} {n : Nat} {q : Program} {loose : List Str} {XP : (Str → Option Value) → Heap → Prop} {YP : World → Heap → Prop} {d : DefRec}
    (hn : l.most = some n) (hdf : d.params.defaults = [])
    (call : ∀ (w : World) (s₀ s₁ : Shared) (mg mb : Str → Option Value) (fa : Addr) (o : Obj) (pm cd doc : Value) (a : Addr) (vs : List Value) (ns : List Int),
      Ground q loose [] XP w s₀ mg mb s₁.heap → YP w s₁.heap →
      s₁.heap.get? fa = some o → o.data = .func (docDef d.name d.params d.body d.scope pm cd doc) → s₁.heap.CodeRec cd d.name → mg d.name = some (.ref fa) →
      s₁.heap.get? a = some { cls := .type "list", data := .seq vs.toArray } → IntsAre vs ns → ns.length ≤ n → s₁.gens = #[] →
      codeAny (model l.prog w) callerA (.call (.ref fa) ⟨[.ref a], []⟩) (fun r s' => r = .ok (.ret (.bool true)) ∧ OldK s₁.heap s'.heap ∧ s'.os = s₁.os ∧ AllBare s'.gens) s₁) :
    WalkO q loose XP YP l.row.toRowW d [] (fun f vs => PySem.call f vs) := by
  intro w s₀ s₁ mg mb G Y fa o pm cd doc dV kV ho hd hcd hD hmg hg args vals as hpre hlay hrd hwl hlo
  obtain rfl : dV = .none := Dflts.none hD hdf
  obtain rfl : kV = .none := Dflts.noKw hD
  obtain ⟨a, vs, ns, rfl, rfl, hobj, hints, hlen⟩ := script_of hn hpre hwl
  refine enter_call (codeAny_mono (call w s₀ s₁ mg mb fa o pm cd doc a vs ns G Y ho (fd_plain hd) hcd hmg hobj hints hlen hg) fun r s' hq => ?_)
  obtain ⟨rfl, h2, h3, h4⟩ := hq
  exact ⟨.inl ⟨.bool true, .bool true, [], rfl, fun _ => rfl, .bool true, post_true l _, fun _ => ⟨List.Pairwise.nil, fun _ hm => (nomatch hm)⟩⟩, h2, h3, h4⟩
section
variable {prog : Program} {w : World} {A : Around} {E : Value → Shared → Prop} {s : Shared} {K : Frag}
end
end Att
namespace L2
open PySem PySem.Spec PyProof.Rows
theorem vals_ints : ∀ {vs : List Value} {ns : List Int}, IntsAre vs ns → Vals (ns.map V.int) vs
  | _, _, .nil => .nil
  | _, _, .cons n t h => .cons ⟨t, rfl⟩ (vals_ints h)
def Only (H : Hp) : Prop := ∀ b, H b = none ∨ ∃ o xs, H b = some (.frz o (.lst xs))
theorem law_call {P : Program} {w : World} {K : PySem.W.Frag} {mg mb : Str → Option Value} {CX : CXT} {k : Nat} {fa a : Addr} {fd : FuncData} {x : Str} {sp : Sp} {s₁ : Shared} {vs : List Value} {ns : List Int}
    (KX : K.In s₁.heap) (hns : s₁.heap.Ns mainGlobals mg) (hb : s₁.heap.Ns builtinsNs mb) (hbb : ∀ x : Str, x ≠ "__name__" → mb x = bootBuiltins x) (hlim : s₁.heap.NoLimit) (hg : s₁.gens = #[])
    (ha : s₁.heap.get? a = some { cls := .type "list", data := .seq vs.toArray }) (hi : IntsAre vs ns) (hl : ns.length ≤ sizeLine) (hr : Room k callerA)
    (F : ∀ base : Heap, K.In base → base.Ns mainGlobals mg → FnOk P w K mg base CX k fa fd [x] sp) (hbind : ∀ (s : Shared) (u : Value), BindsTo s fd ⟨[u], []⟩ [(x, u)])
    (hsp : ∀ H : Hp, Only H → SqL K H a (ns.map V.int) → sp [.ref a] H (fun v _ => v = .bl true) fun _ _ _ => False)
    (hCX : ∀ H e s', CX [] H s₁ (fun _ _ _ => False) e s' → False) :
    codeAny (model P w) callerA (.call (.ref fa) ⟨[.ref a], []⟩) (fun r s' => r = .ok (.ret (.bool true)) ∧ OldK s₁.heap s'.heap ∧ s'.os = s₁.os ∧ AllBare s'.gens) s₁ := by
  have rv := vals_ints hi
  have lenV := hi.length
  -- from an abstract heap in which nothing but the script may be tracked
  have core : ∀ H : Hp, Only H → SqL K H a (ns.map V.int) → HOk P w H s₁.heap → (∀ b, H b ≠ none → b = a) → (H a ≠ none → K.lookup a = none) →
      codeAny (model P w) callerA (.call (.ref fa) ⟨[.ref a], []⟩) (fun r s' => r = .ok (.ret (.bool true)) ∧ OldK s₁.heap s'.heap ∧ s'.os = s₁.os ∧ AllBare s'.gens) s₁ := by
    intro H hO hS hok hA hK
    have base_of : ∀ {b : Addr} {o : Obj}, s₁.heap.get? b = some o → H b = none → (hidT s₁.heap H).get? b = some o := fun e n => hidT_get e n
    have noA : ∀ {b : Addr} {o : Obj} {es : Array DictEntry} {ep : Nat}, s₁.heap.get? b = some o → o.data = .dict es ep → H b = none := fun {b o es ep} e d => by
      cases q : H b with
      | none => rfl
      | some u =>
        have e' : b = a := hA b (by rw [q]; simp)
        subst e'
        rw [ha] at e; cases e
        have d' : Data.seq vs.toArray _ = Data.dict es ep := d
        cases d'
    have nsK : ∀ {b : Addr} {m : Str → Option Value}, s₁.heap.Ns b m → (hidT s₁.heap H).Ns b m := fun {b m} ⟨o, es, ep, e, d, r⟩ => ⟨o, es, ep, base_of e (noA e d), d, r⟩
    have hKb : K.In (hidT s₁.heap H) := fun b o e => base_of (KX b o e) (by
      cases q : H b with
      | none => rfl
      | some u =>
        have e' : b = a := hA b (by rw [q]; simp)
        subst e'
        rw [hK (by rw [q]; simp)] at e; cases e)
    have hM : Mod K mg (hidT s₁.heap H) := ⟨hKb, nsK hns, ⟨mb, nsK hb, hbb⟩, let ⟨mc, h1, h2⟩ := hlim; ⟨mc, nsK h1, h2⟩⟩
    have e0 : Env0 P w K mg (hidT s₁.heap H) callerA [] s₁ H := ⟨rfl, hM, fun b o e => of_hidT e, Nat.le_of_eq (hidT_size _ _), trivial, fun b hb => absurd (show b ∈ ([] : List Addr) from hb) (by simp), hok, .of_eq hg⟩
    refine codeAny_mono ((F _ hKb (nsK hns)).run callerA [] s₁ H ⟨[.ref a], []⟩ [.ref a] [.ref a] _ _ hr e0 (hbind s₁ (.ref a)) (.cons rfl .nil) (hsp H hO hS)) fun r s' h => ?_
    cases r with
    | error e => exact (hCX H e s' h).elim
    | ok fl =>
      cases fl with
      | next => exact False.elim h
      | brk => exact False.elim h
      | cont => exact False.elim h
      | ret u =>
        obtain ⟨v, H', os, bare, un, hok', r', q⟩ := h
        have q' : v = .bl true := q
        subst q'
        obtain rfl : u = Value.bool true := r'
        refine ⟨rfl, OldK.of_keep fun b o e => ?_, os, bare⟩
        cases q : H b with
        | none => exact un.keep b o e q (by intro z; exact absurd (show b ∈ ([] : List Addr) from z) (by simp)) (by simp)
        | some u =>
          rcases hO b with z | ⟨ob, xs, z⟩
          · rw [q] at z; cases z
          · have z2 := un.frzs b ob _ z
            obtain ⟨e1, _⟩ := hok b _ z
            obtain ⟨e2, _⟩ := hok' b _ z2
            rw [e] at e1; cases e1
            exact e2
  cases hk : K.lookup a with
  | some o =>
    -- the script is one of the module's own objects
    have e := KX a o hk
    rw [ha] at e
    cases e
    refine core (fun _ => none) (fun _ => .inl rfl) (.inr ⟨_, vs.toArray, _, hk, rfl, rfl, rfl, by rw [List.size_toArray, lenV]; exact hl, by simpa using rv⟩) (fun b u z => by have z' : (none : Option HO) = some u := z; cases z') (fun b z => absurd rfl z) fun z => absurd rfl z
  | none =>
    refine core (fun b => if b = a then some (.frz { cls := .type "list", data := .seq vs.toArray } (.lst (ns.map V.int))) else none) (fun b => ?_) (.inl (.inr ⟨{ cls := .type "list", data := .seq vs.toArray }, if_pos rfl⟩)) (fun b u z => ?_) (fun b z => ?_) fun _ => hk
    · by_cases hb : b = a
      · exact .inr ⟨_, _, if_pos hb⟩
      · exact .inl (if_neg hb)
    · by_cases hb : b = a
      · have z' := (if_pos hb).symm.trans z
        cases z'
        subst hb
        exact ⟨ha, by rw [List.length_map]; exact hl, vs, _, rv, ha⟩
      · have z' := (if_neg hb).symm.trans z
        cases z'
    · by_cases hb : b = a
      · exact hb
      · exact absurd (if_neg hb) z
end L2
namespace L2
open PySem PySem.Spec PyProof.Rows
theorem walk_of {l : PySem.W.OpenLaw} {n k : Nat} {q : Program} {loose : List Str} {XP : (Str → Option Value) → Heap → Prop} {YP : World → Heap → Prop} {d : DefRec} {K : Params → PySem.W.Frag} {CX : World → CXT} {sp : World → Sp} {x : Str}
    (hn : l.most = some n) (hn2 : n ≤ sizeLine) (hdf : d.params.defaults = []) (hr : Room k callerA)
    (hY : ∀ (w : World) (h : Heap), YP w h → (K w.params).In h)
    (F : ∀ (w : World) (mg : Str → Option Value) (fa : Addr) (h : Heap), (K w.params).In h → h.Ns mainGlobals mg → mg d.name = some (.ref fa) →
      ∃ fd : FuncData, (∀ (s : Shared) (u : Value), BindsTo s fd ⟨[u], []⟩ [(x, u)]) ∧
        ∀ base : Heap, (K w.params).In base → base.Ns mainGlobals mg → FnOk l.prog w (K w.params) mg base (CX w) k fa fd [x] (sp w))
    (hsp : ∀ (w : World) (H : Hp) (a : Addr) (ns : List Int), ns.length ≤ n → Only H → SqL (K w.params) H a (ns.map V.int) → sp w [.ref a] H (fun v _ => v = .bl true) fun _ _ _ => False)
    (hCX : ∀ (w : World) (H : Hp) (s : Shared) (e : Value) (s' : Shared), CX w [] H s (fun _ _ _ => False) e s' → False) :
    PySem.W.WalkO q loose XP YP l.row.toRowW d [] (fun f vs => PySem.call f vs) := by
  refine Att.attach_call hn hdf fun w s₀ s₁ mg mb fa o pm cd doc a vs ns G Y ho hd hcd hmg hobj hints hlen hg => ?_
  have KX := hY w _ Y
  obtain ⟨fd, hb, hF⟩ := F w mg fa _ KX G.T.g hmg
  exact law_call KX G.T.g G.T.b G.T.builtins G.T.nolimit hg hobj hints (Nat.le_trans hlen hn2) hr hF hb (fun H hO hS => hsp w H a ns hlen hO hS) fun H e s' => hCX w H s₁ e s'
end L2
namespace L2
open PySem PySem.Spec PyProof.Rows
def defArgs (s : Stmt) : Arguments := match s with
  | .FunctionDef _ a _ _ _ _ _ _ _ _ => a
  | _ => { posonlyargs := [], args := [], vararg := none, kwonlyargs := [], kw_defaults := [], kwarg := none, defaults := [] }
def defBody (s : Stmt) : List Stmt := match s with
  | .FunctionDef _ _ b _ _ _ _ _ _ _ => b
  | _ => []
def defScope (s : Stmt) : Scope := match s with
  | .FunctionDef _ _ _ _ _ _ sc _ _ _ => sc
  | _ => { kind := .function, names := [], isGenerator := false, isCoroutine := false }
abbrev CX0 : CXT := fun _ _ _ _ _ _ => False
abbrev E0 : XK := fun _ _ _ => False
theorem pass0 {X : Cx} : Passes CX0 X E0 := fun _ _ _ _ _ _ _ h => h.elim
structure Fun (K : PySem.W.Frag) (x qual : Str) (st : Stmt) (f : Addr) (fd : FuncData) : Prop where
  ex : ∃ (oc : Value) (od : Option Addr) (kV doc pm : Value) (an : Option Addr) (cdv ct : Value) (osl : Array (Option Value)),
    fd = PySem.W.fnOf x qual (defArgs st) (defBody st) (defScope st) .none kV doc pm an cdv ct ∧ K.lookup f = some ⟨oc, od, .func fd, osl⟩ ∧ PySem.W.codeIn K cdv qual = true
  kp : PySem.W.keepIn K (.ref f) = true
section
variable {P : Program} {w : World} {K : PySem.W.Frag} {mg : Str → Option Value} {base : Heap}
theorem Fun.ok {x qual : Str} {st : Stmt} {f : Addr} {fd : FuncData} {N ps : List Str} {k : Nat} {sp : Sp} (F : Fun K x qual st f fd) (S : FnScope N ps (defScope st)) (len : ∀ vs H Q E, sp vs H Q E → vs.length = ps.length)
    (hbody : ∀ (cdv : Value) (A : Around) (outer : List Env) (s : Shared) (H : Hp) (vs : List V) (Q : VK) (E : XK), Room k (A.deeper (envOfC qual (defScope st) s.heap.objs.size f cdv)) → sp vs H Q E →
      ∃ t, PSs (cxOf CX0 P w K mg base N qual (defScope st) f cdv A outer s H E).nox (defBody st) t ∧ t { nx := fun _ H' => Q .non H', rt := Q } (start N vs) H) : FnOk P w K mg base CX0 (k + 1) f fd ps sp := by
  obtain ⟨oc, od, kV, doc, pm, an, cdv, ct, osl, rfl, lk, hcd⟩ := F.ex
  refine fn_of lk hcd S len fun A outer s H vs Q E hr hsp => ?_
  obtain ⟨t, h, q⟩ := hbody cdv A outer s H vs Q E hr hsp
  exact ⟨t, h.nox, q⟩
theorem Fun.binds {x qual : Str} {st : Stmt} {f : Addr} {fd : FuncData} {ps : List Str} (F : Fun K x qual st f fd)
    (h : ∀ (kV doc pm : Value) (an : Option Addr) (cdv ct : Value) (us : List Value), us.length = ps.length → bindArgs (PySem.W.fnOf x qual (defArgs st) (defBody st) (defScope st) .none kV doc pm an cdv ct) ⟨us, []⟩ = pure (ps.zip us)) : Binds K fd ps [] := by
  obtain ⟨oc, od, kV, doc, pm, an, cdv, ct, osl, rfl, lk, hcd⟩ := F.ex
  exact .all (h kV doc pm an cdv ct)
theorem fun_mk {x qual : Str} {st : Stmt} {f : Addr} {oc : Value} {od an : Option Addr} {osl : Array (Option Value)} {kV doc pm cdv ct : Value} (l : K.lookup f = some ⟨oc, od, .func (PySem.W.fnOf x qual (defArgs st) (defBody st) (defScope st) .none kV doc pm an cdv ct), osl⟩)
    (c : PySem.W.codeIn K cdv qual = true) (k : PySem.W.keepIn K (.ref f) = true) : Fun K x qual st f (PySem.W.fnOf x qual (defArgs st) (defBody st) (defScope st) .none kV doc pm an cdv ct) := ⟨⟨oc, od, kV, doc, pm, an, cdv, ct, osl, rfl, l, c⟩, k⟩
end
theorem hu_of {A : Around} {k : Nat} (hr : Room k A) : A.units + 1 < cLine := Nat.lt_of_le_of_lt (Nat.add_le_add_left (by decide : 1 ≤ 64) _) hr.units
theorem small1000 {n : Nat} (h : n ≤ 1000) : n < sizeLine := Nat.lt_of_le_of_lt h (by decide)
section
variable {X : Cx}
theorem pv (i : Nat) {x : Str} {pos : Pos} (hN : X.N[i]? = some x := by rfl) (hv : Vis X.env.scope x := by first | exact Or.inl rfl | exact Or.inr (Or.inl rfl) | exact Or.inr (Or.inr rfl)) (hd : (x == ("__debug__" : Str)) = false := by decide)
    (hcd : (x == ("__classdict__" : Str)) = false := by decide) : PE X (.Name x pos) (tVar i) := pe_var hN hv hd hcd
end
theorem ite2 {c A B : Prop} [Decidable c] (h1 : c → A) (h2 : ¬ c → B) : if c then A else B := by
  by_cases h : c
  · rw [if_pos h]
    exact h1 h
  · rw [if_neg h]
    exact h2 h
def Same (H H' : Hp) : Prop := ∀ b o, H b = some o → H' b = some o
theorem Same.refl (H : Hp) : Same H H := fun _ _ h => h
theorem Same.trans {H H1 H2 : Hp} (a : Same H H1) (b : Same H1 H2) : Same H H2 := fun c o h => b c o (a c o h)
theorem Same.free {H H' : Hp} (e : Same H H') {l : Addr} (h : H' l = Option.none) : H l = Option.none := by
  cases q : H l with
  | none => rfl
  | some o =>
    rw [e l o q] at h
    cases h
theorem Same.seq {K : PySem.W.Frag} {H H' : Hp} {a : Addr} {xs : List V} (e : Same H H') (h : SqL K H a xs) : SqL K H' a xs := by
  rcases h with (h | ⟨o, h⟩) | h
  · exact .inl (.inl (e _ _ h))
  · exact .inl (.inr ⟨o, e _ _ h⟩)
  · exact .inr h
section
variable {X : Cx}
theorem call_lenD : CallR X (.builtin "len") (fun xs H Q => ∃ a kvs, xs = [V.ref a] ∧ H a = some (.dK kvs) ∧ Q (.int kvs.length) H) := by
  intro pins s σ H xs us Q I r h
  obtain ⟨a, kvs, rfl, ha, q⟩ := h
  obtain ⟨u, rfl, ru⟩ := vals1 r
  cases ru
  exact d_len I (.inl ha) fun t s' I' => ⟨.int kvs.length, H, I', ⟨t, rfl⟩, q⟩
end
section
variable {κ : Type} [DecidableEq κ]
end
end L2
set_option Elab.async false
set_option linter.all false
set_option maxRecDepth 100000
namespace L2
open PySem PySem.Spec PyProof.Rows
theorem closure_go {env : Env} (cs : List (Str × NameKind)) : ∀ (acc : List (Str × Addr)), (∀ x ∈ cs, x.2 = .free → ∃ c, env.cells.lookup x.1 = some c) →
    ∃ cl, (forIn cs acc (fun (x : Str × NameKind) (r : List (Str × Addr)) => (if (x.2 == NameKind.free) = true then do let c ← cellOf env x.1; pure (ForInStep.yield ((x.1, c) :: r)) else pure (ForInStep.yield r) : Sem (ForInStep (List (Str × Addr))))) = pure cl) ∧
      (∀ x c, cl.lookup x = some c → env.cells.lookup x = some c ∨ acc.lookup x = some c) ∧ (∀ x, (x, NameKind.free) ∈ cs → ∃ c, cl.lookup x = some c) ∧ (∀ x c, acc.lookup x = some c → ∃ c', cl.lookup x = some c') := by
  induction cs with
  | nil => intro acc _; exact ⟨acc, rfl, fun x c h => .inr h, fun x h => (nomatch h), fun x c h => ⟨c, h⟩⟩
  | cons y r ih =>
    intro acc h
    obtain ⟨n, k⟩ := y
    by_cases hk : k = .free
    · subst hk
      obtain ⟨c, hc⟩ := h (n, .free) List.mem_cons_self rfl
      obtain ⟨cl, e1, e2, e3, e4⟩ := ih ((n, c) :: acc) fun x hx => h x (List.mem_cons_of_mem _ hx)
      refine ⟨cl, ?_, fun x c' hx => ?_, fun x hx => ?_, fun x c' hx => ?_⟩
      · rw [← e1]
        simp only [List.forIn_cons, beq_self_eq_true, if_true, cellOf, hc]
        rfl
      · rcases e2 x c' hx with q | q
        · exact .inl q
        · rw [List.lookup_cons] at q
          cases hb : x == n with
          | true =>
            rw [hb] at q
            have : x = n := by simpa using hb
            subst this
            cases q
            exact .inl hc
          | false => rw [hb] at q; exact .inr q
      · rcases List.mem_cons.mp hx with q | q
        · cases q
          exact e4 n c (by simp [List.lookup_cons])
        · exact e3 x q
      · cases hb : x == n with
        | true => exact e4 x c (by simp [List.lookup_cons, hb])
        | false => exact e4 x c' (by simp [List.lookup_cons, hb, hx])
    · obtain ⟨cl, e1, e2, e3, e4⟩ := ih acc fun x hx => h x (List.mem_cons_of_mem _ hx)
      have hb : (k == NameKind.free) = false := by simpa using hk
      refine ⟨cl, ?_, e2, fun x hx => ?_, e4⟩
      · rw [← e1]
        simp only [List.forIn_cons, hb, Bool.false_eq_true, if_false]
        rfl
      · rcases List.mem_cons.mp hx with q | q
        · cases q; exact absurd rfl hk
        · exact e3 x q
theorem closure_of {scope : Scope} {env : Env} (h : ∀ x ∈ scope.names, x.2 = .free → ∃ c, env.cells.lookup x.1 = some c) :
    ∃ cl, closureFor scope env = pure cl ∧ (∀ x c, cl.lookup x = some c → env.cells.lookup x = some c) ∧ (∀ x, (x, NameKind.free) ∈ scope.names → ∃ c, cl.lookup x = some c) := by
  obtain ⟨cl, e1, e2, e3, _⟩ := closure_go scope.names [] h
  refine ⟨cl, ?_, fun x c hx => (e2 x c hx).resolve_right (by simp), e3⟩
  rw [← bind_pure (pure cl : Sem (List (Str × Addr))), ← e1]
  rfl
theorem relabel_back {scope : Scope} {env : Env} {x : Str} : ∀ {names : List (Str × NameKind)}, (names.map fun (n, k) => if (k == NameKind.free && env.scope.kind == .function && env.kindOf n == some .cell) then (n, NameKind.cell) else (n, k)).lookup x = some .cell ∨
    (names.map fun (n, k) => if (k == NameKind.free && env.scope.kind == .function && env.kindOf n == some .cell) then (n, NameKind.cell) else (n, k)).lookup x = some .free → (∀ y ∈ names, y.2 ≠ .cell) → (x, NameKind.free) ∈ names
  | [], h, _ => by simp at h
  | (n, k) :: r, h, hc => by
    have ih := @relabel_back scope env x r
    rw [List.map_cons] at h
    have key : ∀ k' : NameKind, (∀ k₂, ((n, k') :: (r.map fun (n, k) => if (k == NameKind.free && env.scope.kind == .function && env.kindOf n == some .cell) then (n, NameKind.cell) else (n, k))).lookup x = some k₂ → (x = n ∧ k' = k₂) ∨ (r.map fun (n, k) => if (k == NameKind.free && env.scope.kind == .function && env.kindOf n == some .cell) then (n, NameKind.cell) else (n, k)).lookup x = some k₂) := fun k' k₂ q => by
      rw [List.lookup_cons] at q
      cases hb : x == n with
      | true => rw [hb] at q; exact .inl ⟨by simpa using hb, Option.some.inj q⟩
      | false => rw [hb] at q; exact .inr q
    dsimp only at h
    split at h
    · rename_i hk
      have kf : k = .free := by
        cases k <;> simp at hk
        rfl
      subst kf
      rcases h with h | h
      · rcases key _ _ h with ⟨e, _⟩ | q
        · subst e; exact List.mem_cons_self
        · exact List.mem_cons_of_mem _ (ih (.inl q) fun y hy => hc y (List.mem_cons_of_mem _ hy))
      · rcases key _ _ h with ⟨e, _⟩ | q
        · subst e; exact List.mem_cons_self
        · exact List.mem_cons_of_mem _ (ih (.inr q) fun y hy => hc y (List.mem_cons_of_mem _ hy))
    · rcases h with h | h
      · rcases key _ _ h with ⟨e, e2⟩ | q
        · exact absurd e2 (hc (n, k) List.mem_cons_self)
        · exact List.mem_cons_of_mem _ (ih (.inl q) fun y hy => hc y (List.mem_cons_of_mem _ hy))
      · rcases key _ _ h with ⟨e, e2⟩ | q
        · subst e; subst e2; exact List.mem_cons_self
        · exact List.mem_cons_of_mem _ (ih (.inr q) fun y hy => hc y (List.mem_cons_of_mem _ hy))
theorem compLoop_go {prog : Program} {w : World} {A : Around} {R : Result → Shared → Prop} {s : Shared} {elt target iter : Expr} {scope : Scope} {pos : Pos} {it acc : Value} {env : Env} (I : Nat → Shared → Prop)
    (turn : ∀ n s, I n s → wpAny (model prog w) A (pyNext it) (fun r s1 => match r with
      | none => R (.ok .next) s1
      | some v => wpAny (model prog w) A (letOwnedTupleGo target it v) (fun _ s1' => wpAny (model prog w) A (assign target env v) (fun _ s2 => wpAny (model prog w) A (eval elt env) (fun x s3 =>
          wpAny (model prog w) A (call (.builtin "list.append") [acc, x]) (fun _ s4 => ∃ m, m < n ∧ I m s4) (fun _ _ => False) s3)
          (fun _ _ => False) s2) (fun _ _ => False) s1') (fun _ _ => False) s1) (fun _ _ => False) s)
    (n : Nat) (h : I n s) : codeAny (model prog w) A
      (.compLoop (.ListComp elt [⟨target, iter, [], 0⟩] scope pos) 0 it acc env) R s := by
  refine codeAny_loop rfl I (fun n s hI => wpAny_noted (m := compTurn (.ListComp elt [⟨target, iter, [], 0⟩] scope pos) 0 it acc env) ?_) n h
  rw [compTurn_list1]
  refine wpAny_bind (wpAny_standAt (wpAny_bind (wpAny_mono (turn n s hI) (fun r s1 h1 => ?_) fun _ _ h' => h'.elim)))
  cases r with
  | none => exact wpAny_pure h1
  | some v =>
    exact wpAny_bind (wpAny_mono h1 (fun _ s1' h1' => wpAny_bind (wpAny_mono h1' (fun _ s2 h2 => wpAny_bind (wpAny_bind (wpAny_mono h2 (fun x s3 h3 => wpAny_bind (wpAny_mono h3
      (fun _ s4 h4 => wpAny_pure (wpAny_pure ⟨rfl, h4⟩)) fun _ _ h' => h'.elim)) fun _ _ h' => h'.elim))) fun _ _ h' => h'.elim)) fun _ _ h' => h'.elim)
end L2
set_option Elab.async false
set_option linter.all false
set_option maxRecDepth 100000
namespace L2
open PySem PySem.Spec PyProof.Rows
theorem relabel_fwd {env : Env} {x : Str} : ∀ {names : List (Str × NameKind)}, names.lookup x = some .free →
    (names.map fun (n, k) => if (k == NameKind.free && env.scope.kind == .function && env.kindOf n == some .cell) then (n, NameKind.cell) else (n, k)).lookup x ≠ some .local
  | [], h => by simp at h
  | (n, k) :: r, h => by
    have ih := @relabel_fwd env x r
    rw [List.map_cons]
    dsimp only
    rw [List.lookup_cons] at h
    cases hb : x == n with
    | true =>
      rw [hb] at h
      have kf : k = .free := Option.some.inj h
      subst kf
      split <;> simp [List.lookup_cons, hb]
    | false =>
      rw [hb] at h
      split <;> (simp only [List.lookup_cons, hb]; exact ih h)
def cxComp (X : Cx) (N' : List Str) (scope : Scope) (cl : List (Str × Addr)) (C : Addr) (fp : List Addr) (s : Shared) (H : Hp) : Cx :=
  { X with N := N', s₀ := s, H₀ := H, env := compEnvC scope cl C X.env, outer := X.stack, stack := X.stack, ex := fp, fn := fun _ => false, pn := [], xe := fun _ _ => False }
def compN (X : Cx) (own : List Str) (ix : List Nat) : List Str := own ++ ix.map fun j => X.N.getD j ("" : Str)
def compS (k : Nat) (ix : List Nat) (σ : St) : St := List.replicate k none ++ ix.map fun j => σ.getD j none
def GK (k : Nat) (g : TG) : Prop := ∀ x σ H Q, g x σ H Q → g x σ H fun σ2 H2 => Q σ2 H2 ∧ σ2.length = σ.length ∧ σ2.drop k = σ.drop k
theorem gk_name {k i : Nat} (h : i < k) : GK k (gName i) := fun x σ H Q q => ⟨q, by simp, by rw [List.drop_set, if_pos h]⟩
def GKs (k : Nat) (g : TGs) : Prop := ∀ x σ H Q, g x σ H Q → g x σ H fun σ2 H2 => Q σ2 H2 ∧ σ2.length = σ.length ∧ σ2.drop k = σ.drop k
theorem gk_nil {k : Nat} : GKs k gNil := fun x σ H Q q => ⟨q.1, q.2, rfl, rfl⟩
theorem gk_cons {k : Nat} {g : TG} {gs : TGs} (h1 : GK k g) (h2 : GKs k gs) (m1 : ∀ x σ H (Q Q' : St → Hp → Prop), (∀ a b, Q a b → Q' a b) → g x σ H Q → g x σ H Q') (m2 : ∀ x σ H (Q Q' : St → Hp → Prop), (∀ a b, Q a b → Q' a b) → gs x σ H Q → gs x σ H Q') : GKs k (gCons g gs) := fun x σ H Q q => by
  obtain ⟨v, r, e, q⟩ := q
  refine ⟨v, r, e, m1 _ _ _ _ _ (fun a b z => ?_) (h1 _ _ _ _ q)⟩
  obtain ⟨z1, z2, z3⟩ := z
  refine m2 _ _ _ _ _ (fun c d y => ?_) (h2 _ _ _ _ z1)
  exact ⟨y.1, y.2.1.trans z2, y.2.2.trans z3⟩
theorem gk_tup {K : PySem.W.Frag} {k n : Nat} {gs : TGs} (h : GKs k gs) : GK k (gTup K n gs) := fun x σ H Q q => by
  obtain ⟨a, xs, e, h1, h2, q⟩ := q
  exact ⟨a, xs, e, h1, h2, h _ _ _ _ q⟩
def CompW (J : It) (g : TG) (te : TE) (s0 : St) (Q : VK) (H1 : Hp) : Prop := ∃ W : Nat → Nat → List V → Hp → Prop, (∃ m, W 0 m [] H1) ∧ ∀ i m ys H, W i m ys H →
  ys.length < sizeLine ∧ ((J.stop i H ∧ ∀ p, H p = none → Q (.ref p) (upd H p (.lst ys))) ∨
    (J.go i H ∧ ∀ x H', J.yld i H x H' → g x s0 H' fun σ2 H2 => te σ2 H2 fun y H3 => ∃ m', m' < m ∧ W (i + 1) m' (ys ++ [y]) H3))
def tComp (k : Nat) (ix : List Nat) (wi : TI) (g : TG) (te : TE) : TE := fun σ H Q => wi σ H fun J H1 => CompW J g te (compS k ix σ) Q H1
theorem Inv.retrack {X : Cx} {pins : List (Addr × Obj)} {σ : St} {H : Hp} {s : Shared} {D : Addr} {o : HO} (I : Inv X pins σ H s) (hD : H D = none) (f : FpOk X pins H D) (new : ObjOk X.prog X.w (upd H D o) s.heap D o) : Inv X pins σ (upd H D o) s := by
  have ne : ∀ b u, H b = some u → b ≠ D := fun b u e => ne_of_none e hD
  have r := I.step (h' := s.heap) (H' := upd H D o) (g' := s.gens) (d' := s.drawn) (t' := s.toks) (ch := [D])
    (fun b hb => by
      have e : b = D := by simpa using hb
      subst e
      exact ⟨f.2.2.2.1, f.2.1, f.2.2.2.2.1, f.2.2.2.2.2⟩)
    (fun b o _ _ _ e _ => e) (fun b o _ _ _ e _ => ⟨o.slots, e⟩) (fun b o hb e n => by rw [upd_ne (fun z => hb (by simp [z]))]; exact n) (fun b o _ e => ⟨o, e⟩)
    (fun b xs e => by rw [upd_ne (ne _ _ e)]; exact e) (fun b o u e => by rw [upd_ne (ne _ _ e)]; exact e) (fun b ps e => ⟨#[], by rw [upd_ne (ne _ _ e), e]; simp⟩) (fun m hm => hm)
    (fun b u e => by
      by_cases hb : b = D
      · subst hb; rw [upd_same] at e; cases e; exact new
      · rw [upd_ne hb] at e
        exact (I.hok b u e).stay (fun c v _ q => q) (fun c q => by rw [upd_ne (ne _ _ q)]; exact q) fun c xs q => by rw [upd_ne (ne _ _ q)]; exact q) I.bare
  exact r
section
variable {X : Cx}
theorem pe_comp {elt tg iter : Expr} {scope : Scope} {pos : Pos} {wi : TI} {g : TG} {te : TE} (own : List Str) (ix : List Nat) (hc : X.calm = true) (hi : PI X tg iter wi)
    (hkind : scope.kind = .function) (hnames : ∀ x ∈ scope.names, x.2 = .local → scope.names.lookup x.1 = some .local) (hcell : ∀ x ∈ scope.names, x.2 ≠ .cell)
    (hcap : ∀ x ∈ scope.names, x.2 = .free → X.env.scope.names.lookup x.1 = some .cell ∨ X.env.scope.names.lookup x.1 = some .free)
    (hix : ∀ j ∈ ix, ∃ y, X.N[j]? = some y ∧ scope.names.lookup y = some .free) (hgk : GK own.length g)
    (hg : ∀ cl C fp s H, PG (cxComp X (compN X own ix) scope cl C fp s H) tg g) (he : ∀ cl C fp s H, PE (cxComp X (compN X own ix) scope cl C fp s H) elt te)
    (hs : ∀ x, foldedSetIterable iter X.env x = pure x := by intro _; rfl) :
    PE X (.ListComp elt [⟨tg, iter, [], 0⟩] scope pos) (tComp own.length ix wi g te) := by
  intro pins s σ H Q I h
  have hcells : ∀ x ∈ scope.names, x.2 = .free → ∃ c, X.env.cells.lookup x.1 = some c := fun x hx hf => I.ok.has x.1 (hcap x hx hf)
  obtain ⟨cl, hcl, hcl1, hcl2⟩ := closure_of hcells
  rw [eval_ListComp]
  refine wpAny_comprehension_free (use := none) rfl hs hcl hkind hnames ?_
  refine thn (hi pins s σ H _ I h) fun v s1 h1 => thn h1 fun itv s2 h2 => ?_
  obtain ⟨it, fp, tn, J, H2, e, I2, T, st2, f2, W, ⟨m0, w0⟩, turn⟩ := h2
  subst e
  refine wpAny_newObj_type (wpAny_newFunctionEnv hcell (by intro y hy; simp at hy) (fun h4 hns hsb => ?_) hkind)
  dsimp only at hns hsb ⊢
  -- the list
  generalize hh3 : s2.heap.push { cls := .type "list", dict := none, data := .seq ([] : List Value).toArray } = h3 at hns hsb ⊢
  have sz3 : h3.objs.size = s2.heap.objs.size + 1 := by rw [← hh3, Heap.size_push]
  have k23 : ∀ b u, s2.heap.get? b = some u → h3.get? b = some u := fun b u q => by rw [← hh3]; exact Heap.get?_push_of_some _ q
  have D3 : h3.get? s2.heap.objs.size = some { cls := .type "list", data := .seq #[] } := by rw [← hh3]; exact Heap.get?_push_size _ rfl
  obtain ⟨D, hD⟩ : ∃ D, D = s2.heap.objs.size := ⟨_, rfl⟩
  obtain ⟨C, hC⟩ : ∃ C, C = h3.objs.size := ⟨_, rfl⟩
  rw [← hC] at hns hsb
  rw [← hD] at D3 sz3
  have hCD : C = D + 1 := hC.trans sz3
  let s3 : Shared := { s2 with heap := h3 }
  have I3 : Inv X pins σ H2 s3 := I2.kept (t' := s2.toks) k23
  have lt3 : ∀ b u, h3.get? b = some u → b < C := fun b u q => by rw [hC]; exact Heap.lt_size q
  have k34 : ∀ b u, h3.get? b = some u → h4.get? b = some u := fun b u q => hsb.extBut b u (Nat.ne_of_lt (lt3 b u q)) (Heap.get?_push_of_some _ q)
  have H2D : H2 D = none := I2.hok.fresh (by rw [hD]; exact Nat.le_refl _)
  have H2C : H2 C = none := I2.hok.fresh (by rw [hCD, hD]; exact Nat.le_succ _)
  have fD : FpOk X pins H2 D := I2.fpOk (by rw [hD]; exact Nat.le_refl _) H2D
  have cellsLt : ∀ x c, X.env.cells.lookup x = some c → c < D := fun x c e => by
    obtain ⟨v, z⟩ := I2.cell x c e
    rw [hD]; exact z.lt
  -- the iterator's own objects stand below the list
  have fpLt : ∀ b ∈ fp, b < D := fun b hb => by
    obtain ⟨o, e, _⟩ := T.obj 0 _ st2 b hb
    rw [hD]; exact Heap.lt_size e
  let X' : Cx := cxComp X (compN X own ix) scope cl C (D :: fp) s3 H2
  have stkLt : ∀ b ∈ frs X.stack, b ∉ D :: fp := fun b hb z => by
    rcases List.mem_cons.mp z with z | z
    · have q := I2.stack
      obtain ⟨_, o, e, _⟩ := q.mem hb
      have := Heap.lt_size e
      rw [z, hD] at this
      exact Nat.lt_irrefl _ this
    · rcases List.mem_cons.mp (I2.stkSub b hb) with q | q
      · exact (f2 b z).2.1 q
      · exact (f2 b z).2.2.1 q
  have ok' : X'.Ok := by
    refine ⟨I.ok.mod, hkind, I.ok.glob, I.ok.blt, ?_, fun x y c h1 h2 => I.ok.inj x y c (hcl1 x c h1) (hcl1 y c h2), fun x hx => hcl2 x (relabel_back (scope := scope) hx hcell), (fun x c z => Bool.noConfusion (show false = true from z)), I.ok.hd, I.ok.frames, .inl rfl, fun b hb => ⟨?_, fun x c h1 => ?_⟩, fun b o e => ?_, ?_, fun b o e hb => ?_, fun b hb z => stkLt b z hb, ?_, fun b hb => I2.stkFree b hb⟩
    · show h3.objs.size ≤ C
      rw [hC]; exact Nat.le_refl _
    · show b ≠ C
      rcases List.mem_cons.mp hb with z | z
      · rw [z, hCD]; exact Nat.ne_of_lt (Nat.lt_succ_self _)
      · rw [hCD]; exact Nat.ne_of_lt (Nat.lt_succ_of_lt (fpLt b z))
    · rcases List.mem_cons.mp hb with z | z
      · rw [z]; exact Nat.ne_of_lt (cellsLt x c (hcl1 x c h1))
      · exact (f2 b z).2.2.2.2.1 x c (hcl1 x c h1)
    · exact I3.bs b o e
    · show X.base.objs.size ≤ h3.objs.size
      have := Nat.le_trans I.ok.bsz I2.sz
      rw [← hD] at this
      rw [← hC, hCD]
      exact Nat.le_succ_of_le this
    · rcases List.mem_cons.mp hb with z | z
      · have := Heap.lt_size (I2.bk b o e)
        rw [z, hD] at this
        exact Nat.lt_irrefl _ this
      · rcases (f2 b z).2.2.2.1 with q | q
        · exact I.ok.noex b o e q
        · have := Nat.lt_of_lt_of_le (Heap.lt_size (I.ok.bs b o e).1) q
          exact Nat.lt_irrefl _ this
    · exact I3.stack
  have lenN : (compS own.length ix σ).length = (compN X own ix).length := by simp [compS, compN]
  have I4 : ∀ t, Inv X' [] (compS own.length ix σ) H2 { s2 with heap := h4, toks := t } := fun t => by
    refine ⟨ok', rfl, I2.bare, Un.kept k34, ⟨_, hns, fun i x v e1 e2 e3 => ?_⟩, fun x c e => ?_, H2C, fun x c e => I2.freeC x c (hcl1 x c e), fun p hp => absurd (show p ∈ ([] : List (Addr × Obj)) from hp) (by simp), (I3.hok).kept k34, lenN⟩
    · -- a name of the def that the block reads
      have hi' : own.length ≤ i := by
        apply Nat.le_of_not_lt
        intro hlt
        unfold compS at e2
        rw [List.getElem?_append_left (by simpa using hlt), List.getElem?_replicate, if_pos hlt] at e2
        cases e2
      have e1' : (ix.map fun j => X.N.getD j ("" : Str))[i - own.length]? = some x := by
        have z : (own ++ ix.map fun j => X.N.getD j ("" : Str))[i]? = some x := e1
        rwa [List.getElem?_append_right hi'] at z
      have e2' : (ix.map fun j => σ.getD j none)[i - own.length]? = some (some v) := by
        unfold compS at e2
        rw [List.getElem?_append_right (by simpa using hi')] at e2
        simpa using e2
      rw [List.getElem?_map] at e1' e2'
      cases hj : ix[i - own.length]? with
      | none => rw [hj] at e1'; cases e1'
      | some j =>
        rw [hj] at e1' e2'
        obtain ⟨y, hy, hfree⟩ := hix j (List.mem_of_getElem? hj)
        have ex : x = y := by
          have z : X.N.getD j ("" : Str) = x := Option.some.inj e1'
          rw [← z, List.getD_eq_getElem?_getD, hy]; rfl
        subst ex
        have ev : σ[j]? = some (some v) := by
          have z : σ.getD j none = some v := Option.some.inj e2'
          rw [List.getD_eq_getElem?_getD] at z
          cases q : σ[j]? with
          | none => rw [q] at z; cases z
          | some a => rw [q] at z; exact congrArg some z
        have hxm := PySem.mem_of_lookup hfree
        have hvis := hcap _ hxm rfl
        obtain ⟨m, hn, hl⟩ := I2.loc
        obtain ⟨u, r, lk⟩ := hl j x v hy ev (.inr hvis)
        refine ⟨u, r, .inr ⟨?_, ?_⟩⟩
        · rcases e3 with z | z
          · exact absurd z (relabel_fwd hfree)
          · exact z
        · rcases lk with ⟨k, _⟩ | ⟨_, c, hc1, z⟩
          · rcases hvis with q | q
            · exact absurd (k.symm.trans q) (by simp)
            · exact absurd (k.symm.trans q) (by simp)
          · obtain ⟨c', hc'⟩ := hcl2 x hxm
            have := hcl1 x c' hc'
            rw [hc1] at this
            cases this
            obtain ⟨o, ho, hd⟩ := z
            exact ⟨c, hc', o, k34 _ _ (k23 _ _ ho), hd⟩
    · obtain ⟨v, z⟩ := I3.cell x c (hcl1 x c e)
      obtain ⟨o, ho, hd⟩ := z
      exact ⟨v, o, k34 _ _ ho, hd⟩
  have nfp : ∀ b ∈ fp, b ≠ D := fun b hb => Nat.ne_of_lt (fpLt b hb)
  have fp' : ∀ {H' : Hp} {pl : List (Addr × Obj)}, (∀ p ∈ pl, p.1 = D) → (∀ b ∈ fp, H' b = none) → ∀ b ∈ fp, FpOk X' pl H' b := fun {H' pl} hp hn b hb =>
    ⟨hn b hb, (ok'.exf b (List.mem_cons_of_mem _ hb)).1, ok'.exfs b (List.mem_cons_of_mem _ hb), .inl (List.mem_cons_of_mem _ hb), (ok'.exf b (List.mem_cons_of_mem _ hb)).2, fun p hp' z => nfp b hb (z ▸ hp p (by
      have q : p ∈ ([] : List (Addr × Obj)) ++ pl := hp'
      simpa using q))⟩
  have dX : D ≠ X'.env.locals := (ok'.exf D List.mem_cons_self).1
  have dF : D ∉ X'.fs := ok'.exfs D List.mem_cons_self
  have loop : ∀ t, codeAny (model X.prog X.w) X.A (.compLoop (.ListComp elt [⟨tg, iter, [], 0⟩] scope pos) 0 (.ref it) (.ref D) (compEnvC scope cl C X.env))
      (compPost (model X.prog X.w) X.A X.xe none (EP X pins σ Q) (.ref D) C) { s2 with heap := h4, toks := t } := fun t => by
    have st4 : tn 0 h4 := T.keep 0 _ _ st2 fun b _ o e => k34 _ _ (k23 _ _ e)
    refine compLoop_go (fun n s' => ∃ i ys its H', Inv X' [] (compS own.length ix σ) H' s' ∧ tn i s'.heap ∧ (∀ b ∈ fp, H' b = none) ∧ H' D = none ∧ s'.heap.PlainList D (List.toArray its) ∧ Vals ys its ∧ W i n ys H') ?_ m0
      ⟨0, [], [], H2, I4 t, st4, fun b hb => (f2 b hb).1, H2D, ⟨_, k34 _ _ D3⟩, .nil, w0⟩
    rintro n s5 ⟨i, ys, its, H5, I5, st5, fr5, d5, ⟨nn, l5⟩, v5, w5⟩
    obtain ⟨hz, hcase⟩ := turn i n ys H5 w5
    let oD : Obj := { cls := .type "list", data := .seq its.toArray nn }
    have onlyD : ∀ p ∈ [((D, oD) : Addr × Obj)], p.1 = D := fun p hp => by
      have e : p = (D, oD) := by simpa using hp
      rw [e]
    have I5' : Inv X' [(D, oD)] (compS own.length ix σ) H5 s5 := I5.pins_of fun p hp => by
      have e : p = (D, oD) := by simpa using hp
      subst e
      exact ⟨l5, d5, dX, dF, fun v z => nomatch z⟩
    rcases hcase with ⟨stop, qn⟩ | ⟨go, step⟩
    · refine thn (T.done X' rfl rfl rfl hc i _ s5 _ H5 _ I5' (fp' onlyD fr5) st5 stop) fun r s6 ⟨hr, I6⟩ => ?_
      subst hr
      obtain ⟨m, hn6, _⟩ := id I6.loc
      refine ⟨m, hn6, fun h' hs' => ?_⟩
      have ne : ∀ b u, h3.get? b = some u → h'.get? b = s6.heap.get? b := fun b u q => hs'.2 b (Nat.ne_of_lt (lt3 b u q))
      have b6 : Un (frs X.stack) (D :: fp) H2 H5 h3 s6.heap := I6.base
      have u6 : Un (frs X.stack) (D :: fp) H2 H5 h3 h' := ⟨fun b o q n hb hx => (ne b o q).trans (b6.keep b o q n hb hx), fun b o q n hb hx => by
          obtain ⟨sl, z⟩ := b6.slot b o q n hb hx
          exact ⟨sl, (ne b o q).trans z⟩, b6.free, fun b o q hx => by
          obtain ⟨o', z⟩ := b6.there b o q hx
          exact ⟨o', (ne b o q).trans z⟩, b6.tups, b6.frzs, b6.tbls⟩
      have hC6 : H5 C = none := I6.free
      have hok6 : HOk X.prog X.w H5 h' := fun b ob e => (I6.hok b ob e).stay (fun c w' hc q => (hs'.2 c (by
          rintro rfl
          rcases hc with rfl | hc
          · rw [hC6] at e; cases e
          · rw [hC6] at hc; cases hc)).trans q) (fun _ q => q) fun _ _ q => q
      have I7 : Inv X pins σ H5 { s6 with heap := h' } := I3.call' (s' := { s6 with heap := h' }) (ch := D :: fp) I6.os u6 hok6 I6.bare fun b hb => by
        rcases List.mem_cons.mp hb with z | z
        · subst z
          exact ⟨fD.2.2.2.1, fD.2.1, fD.2.2.2.2.1, fD.2.2.2.2.2⟩
        · have f := f2 b z
          exact ⟨f.2.2.2.1, f.2.1, f.2.2.2.2.1, f.2.2.2.2.2⟩
      obtain ⟨gD, nD, _⟩ := I6.pin (D, oD) (by simp)
      have gD' : h'.get? D = some oD := (hs'.2 D (by rw [hCD]; exact Nat.ne_of_lt (Nat.lt_succ_self _))).trans gD
      exact ⟨.ref D, _, I7.retrack (o := .lst ys) nD ⟨nD, fD.2⟩ ⟨Nat.le_of_lt hz, its, nn, v5, gD'⟩, rfl, qn D nD⟩
    · refine thn (T.item X' rfl rfl rfl hc i _ s5 _ H5 _ I5' (fp' onlyD fr5) st5 go) fun r s6 ⟨u, hr, h6⟩ => ?_
      subst hr
      refine thn h6 fun _ s7 ⟨x, H7, I7, r7, y7, st7, fr7⟩ => ?_
      have I7' := I7.pinned (fp' onlyD fr7) (T.obj _ _ st7)
      refine thn (hg cl C (D :: fp) s3 H2 _ s7 _ H7 x u _ I7' r7 (hgk _ _ _ _ (step x H7 y7))) fun _ s8 ⟨σ8, H8, I8, q8, l8, k8⟩ => ?_
      refine thn (he cl C (D :: fp) s3 H2 _ s8 σ8 H8 _ I8 q8) fun yv s9 ⟨y, H9, I9, r9, m', hm', w9⟩ => ?_
      obtain ⟨gD, nD, _⟩ := I9.pin (D, oD) (by simp)
      have hlen : its.length = ys.length := v5.length.symm
      refine wpAny_list_append_plain (l := D) (items := its.toArray) ⟨nn, gD⟩ (fun h' hl' hs' => ?_) (by rw [List.size_toArray, hlen]; exact Nat.le_of_lt hz)
      have kp : ∀ b o, b ≠ D → s9.heap.get? b = some o → h'.get? b = some o := fun b o hb q => (hs'.2 b hb).trans q
      have I9' : Inv X' (pinsAt fp s7.heap) σ8 H9 s9 := I9.pins_of fun p hp => I9.pin p (by
        refine List.mem_append_right _ (List.mem_append_right _ hp))
      have pinNe : ∀ p ∈ X'.pn ++ pinsAt fp s7.heap, p.1 ≠ D := fun p hp => by
        have q : p ∈ ([] : List (Addr × Obj)) ++ pinsAt fp s7.heap := hp
        exact nfp _ (of_pinsAt (by simpa using q)).1
      have I10 : Inv X' (pinsAt fp s7.heap) σ8 H9 { s9 with heap := h', toks := s9.toks } := I9'.turned (it := D) kp nD dX (.inl List.mem_cons_self) (ok'.exf D List.mem_cons_self).2 pinNe
      refine ⟨m', hm', i + 1, ys ++ [y], its ++ [yv], H9, ?_, ?_, ?_, nD, ?_, v5.append (.cons r9 .nil), w9⟩
      · refine Inv.weak (I10.pins_of (pins' := []) fun p hp => nomatch hp) (by rw [l8]) fun j v hj => ?_
        by_cases hlt : j < own.length
        · unfold compS at hj
          rw [List.getElem?_append_left (by simpa using hlt), List.getElem?_replicate, if_pos hlt] at hj
          cases hj
        · have e : σ8[j]? = (compS own.length ix σ)[j]? := by
            have q := congrArg (fun l : List (Option V) => l[j - own.length]?) k8
            simp only [List.getElem?_drop] at q
            rwa [Nat.add_sub_cancel' (Nat.le_of_not_lt hlt)] at q
          rw [e]; exact hj
      · exact T.keep _ _ _ st7 fun b hb o e => (I10.pin (b, o) (List.mem_append_right _ (mem_pinsAt hb e))).1
      · intro b hb
        obtain ⟨o, e, d⟩ := T.obj _ _ st7 b hb
        exact (I10.pin (b, o) (List.mem_append_right _ (mem_pinsAt hb e))).2.1
      · have e : (its ++ [yv]).toArray = its.toArray.push yv := by simp
        rw [e]; exact hl'
  rw [← hC, ← hD]
  exact codeAny_compStart_list (loop _) (T.self _ 0 _ _ _ (T.keep 0 _ _ st2 fun b _ o e => k34 _ _ (k23 _ _ e)) (loop _))
def compOk (sc : Scope) (outer : List (Str × NameKind)) (N : List Str) (ix : List Nat) : Bool :=
  sc.names.all (fun x => (decide (x.2 ≠ .local) || decide (sc.names.lookup x.1 = some .local)) && decide (x.2 ≠ .cell) && (decide (x.2 ≠ .free) || decide (outer.lookup x.1 = some .cell) || decide (outer.lookup x.1 = some .free))) &&
    ix.all fun j => match N[j]? with
      | some y => decide (sc.names.lookup y = some .free)
      | none => false
theorem pe_cmpr {elt tg iter : Expr} {scope : Scope} {pos : Pos} {wi : TI} {g : TG} {te : TE} (own : List Str) (ix : List Nat) (hi : PI X tg iter wi) (hgk : GK own.length g)
    (hg : ∀ cl C fp s H, PG (cxComp X (compN X own ix) scope cl C fp s H) tg g) (he : ∀ cl C fp s H, PE (cxComp X (compN X own ix) scope cl C fp s H) elt te)
    (hc : X.calm = true := by rfl) (hkind : scope.kind = .function := by rfl) (hok : compOk scope X.env.scope.names X.N ix = true := by rfl)
    (hs : ∀ x, foldedSetIterable iter X.env x = pure x := by intro _; rfl) :
    PE X (.ListComp elt [⟨tg, iter, [], 0⟩] scope pos) (tComp own.length ix wi g te) := by
  unfold compOk at hok
  rw [Bool.and_eq_true, List.all_eq_true, List.all_eq_true] at hok
  obtain ⟨h1, h2⟩ := hok
  refine pe_comp own ix hc hi hkind (fun x hx hl => ?_) (fun x hx => ?_) (fun x hx hf => ?_) (fun j hj => ?_) hgk hg he hs
  · have q := h1 x hx
    simp only [Bool.and_eq_true, Bool.or_eq_true, decide_eq_true_eq] at q
    exact q.1.1.resolve_left fun z => z hl
  · have q := h1 x hx
    simp only [Bool.and_eq_true, Bool.or_eq_true, decide_eq_true_eq] at q
    exact q.1.2
  · have q := h1 x hx
    simp only [Bool.and_eq_true, Bool.or_eq_true, decide_eq_true_eq] at q
    rcases q.2 with (z | z) | z
    · exact absurd hf z
    · exact .inl z
    · exact .inr z
  · have q := h2 j hj
    cases e : X.N[j]? with
    | none => rw [e] at q; cases q
    | some y => rw [e] at q; exact ⟨y, rfl, of_decide_eq_true q⟩
end
end L2
set_option Elab.async false
set_option linter.all false
set_option maxRecDepth 100000
set_option maxHeartbeats 1000000
namespace L2
open PySem PySem.Spec PyProof.Rows
section
variable {X : Cx}
def rIsi (K : PySem.W.Frag) : List V → Hp → VK → Prop := fun xs H Q => ∃ x T t b, xs = [x, .ty T] ∧ TyOf K H x t ∧ PySem.W.kitOne K t (.type T) = some b ∧ Q (.bl b) H
theorem call_isi : CallR X (.builtin "isinstance") (rIsi X.K) := by
  intro pins s σ H xs us Q I r h
  obtain ⟨x, T, t, b, rfl, ty, e, q⟩ := h
  obtain ⟨u, w', rfl, ru, rw'⟩ := vals2 r
  cases rw'
  exact isinst_ok I ru ty e fun tk => ⟨.bl b, H, I.tok _, rfl, q⟩
theorem vals_strs : ∀ {ys : List Str} {us : List Value}, Vals (ys.map V.str) us → StrsAre us ys
  | [], _, r => by cases r; exact .nil
  | y :: ys, _, r => by
    cases r with
    | cons h t =>
      obtain ⟨tk, e⟩ := h
      subst e
      exact .cons _ _ (vals_strs t)
def rJoin (K : PySem.W.Frag) : V → List V → Hp → VK → Prop := fun x vs H Q => ∃ z p ys, x = .str z ∧ vs = [.ref p] ∧ SqL K H p (ys.map V.str) ∧ (ys.map (·.length)).sum + ys.length * z.length ≤ 16777216 ∧ Q (.str (Txt.join z ys)) H
theorem mt_join : MtR X "str.join" (rJoin X.K) := by
  intro pins s σ H x vs v us Q I rx rv h
  obtain ⟨z, p, ys, rfl, rfl, hq, hz, q⟩ := h
  obtain ⟨t, rfl⟩ := rx
  obtain ⟨u, rfl, ru⟩ := vals1 rv
  cases ru
  obtain ⟨its, r, pl, hl⟩ := I.list hq
  exact join_list pl.isList (by simpa using vals_strs r) hz fun t' k => ⟨.str _, H, I.tok _, ⟨_, rfl⟩, q⟩
def rIndex : V → List V → Hp → VK → Prop := fun x vs H Q => ∃ z y i rest, x = .str z ∧ vs = [.str y] ∧ Builtin.Str.occurrences z y 0 z.length 1 = i :: rest ∧ Q (.int (i : Nat)) H
theorem mt_index : MtR X "str.index" rIndex := by
  intro pins s σ H x vs v us Q I rx rv h
  obtain ⟨z, y, i, rest, rfl, rfl, ho, q⟩ := h
  obtain ⟨t, rfl⟩ := rx
  obtain ⟨u, rfl, t', rfl⟩ := vals1 rv
  exact SC.index ho ⟨.int _, H, I.tok _, ⟨_, rfl⟩, q⟩
def rSlS : V → Option Int → Option Int → Hp → VK → Prop := fun x lo hi H Q => ∃ z, x = .str z ∧ z.length ≤ sizeLine ∧ Q (.str (Txt.slice z lo hi)) H
theorem sl_str : SlR X rSlS := by
  intro pins s σ H x v vl vu lo hi sl Q I rx hs pl pu h
  obtain ⟨z, rfl, hz, q⟩ := h
  obtain ⟨t, rfl⟩ := rx
  refine ⟨"str", _, F.slot_str_getitem.lookup, typeIs_str _ _ _, ?_⟩
  have fin : ∀ (l u : Option (Int × Tok)), l.map (·.1) = lo → u.map (·.1) = hi → s.heap.IsSlice sl l u none → wpAny (model X.prog X.w) X.A (getItem (.str z t) (.ref sl)) (EP X pins σ Q) X.xe s := fun l u el eu hsl => by
    subst el; subst eu
    exact wpAny_getItem_str_slice hsl rfl (post_val_or_str ⟨Nat.le_trans (Txt.slice_le z (l.map (·.1)) (u.map (·.1))) hz, fun t' k => ⟨.str _, H, I.tok _, ⟨_, rfl⟩, q⟩⟩)
  obtain ⟨o, h1, h2, h3⟩ := hs
  cases pl with
  | none =>
    cases pu with
    | none => exact fin none none rfl rfl ⟨o, h1, h2, h3⟩
    | int j tj => exact fin none (some (j, tj)) rfl rfl ⟨o, h1, h2, h3⟩
  | int i ti =>
    cases pu with
    | none => exact fin (some (i, ti)) none rfl rfl ⟨o, h1, h2, h3⟩
    | int j tj => exact fin (some (i, ti)) (some (j, tj)) rfl rfl ⟨o, h1, h2, h3⟩
theorem bools_get : ∀ {bs : List Bool} {us : List Value}, Vals (bs.map V.bl) us → ∀ (i : Nat) (v : Value), us[i]? = some v → ∃ b, bs[i]? = some b ∧ v = .bool b
  | [], _, r, i, v, e => by cases r; simp at e
  | b :: bs, _, r, i, v, e => by
    cases r with
    | cons h t =>
      cases i with
      | zero =>
        have e' : some _ = some v := e
        cases e'
        exact ⟨b, rfl, h⟩
      | succ j => exact bools_get t j v e
theorem all_range : ∀ (bs : List Bool), ((List.range bs.length).all fun i => (bs[i]?).getD true) = bs.all id := fun bs => by
  have e : ((List.range bs.length).map fun i => (bs[i]?).getD true) = bs := List.ext_getElem (by simp) fun i h1 h2 => by simp [h2]
  have z := List.all_map (l := List.range bs.length) (f := fun i => (bs[i]?).getD true) (p := id)
  rw [e] at z
  exact z.symm
theorem call_all (hc : X.calm = true) : CallR X (.builtin "all") (fun xs H Q => ∃ (p : Addr) (bs : List Bool), xs = [.ref p] ∧ SqL X.K H p (bs.map V.bl) ∧ Q (.bl (bs.all id)) H) := by
  intro pins s σ H xs us Q I r h
  obtain ⟨p, bs, rfl, hq, q⟩ := h
  obtain ⟨u, rfl, ru⟩ := vals1 r
  cases ru
  obtain ⟨its, r', pl, hz⟩ := I.list hq
  have hp : p < s.heap.objs.size := by
    obtain ⟨o, n, e, _⟩ := pl
    exact Heap.lt_size e
  have hlen : its.length = bs.length := by
    have := r'.length
    rw [List.length_map] at this
    exact this.symm
  refine call_all_walk (wpAny_pyIter_list pl.isList ?_)
  refine ⟨s.heap.objs.size, _, _, its.toArray.size, _, _, fun i => (bs[i]?).getD true, rfl, Walks.list (A := X.A.in1) (I.ok.hd hc) _ p (Nat.ne_of_lt hp) its.toArray, ?_, ?_, ?_⟩
  · exact ⟨⟨_, Heap.get?_push_size _ rfl, rfl, rfl⟩, pl.isList.push _⟩
  · intro i v s' Q' E' hP hQ
    obtain ⟨b, e, rfl⟩ := bools_get r' i v (by simpa using hP)
    have hb : (bs[i]?).getD true = b := by rw [e]; rfl
    exact wpAny_truthy_bool (hb ▸ hQ)
  · intro h' tk hk
    rw [List.size_toArray, hlen, all_range]
    refine ⟨.bl (bs.all id), H, I.kept fun b o e => hk b o (fun hm => ?_) (Heap.get?_push_of_some _ e), rfl, q⟩
    have e' : b = s.heap.objs.size := by simpa using hm
    rw [e'] at e
    exact Nat.lt_irrefl _ (Heap.lt_size e)
theorem vals_of_get : ∀ {xs : List V} {us : List Value}, xs.length = us.length → (∀ (j : Nat) (x : V) (u : Value), xs[j]? = some x → us[j]? = some u → RelV x u) → Vals xs us
  | [], [], _, _ => .nil
  | [], _ :: _, h, _ => absurd h (by simp)
  | _ :: _, [], h, _ => absurd h (by simp)
  | x :: xs, u :: us, h, hr => .cons (hr 0 x u rfl rfl) (vals_of_get (by simpa using h) fun j a b e1 e2 => hr (j + 1) a b e1 e2)
theorem call_list_dict (hc : X.calm = true) : CallR X (.type "list") (fun xs H Q => ∃ a kvs, xs = [.ref a] ∧ H a = some (.dK kvs) ∧ ∀ l, H l = none → Q (.ref l) (upd H l (.lst (kvs.map fun kv => kV kv.1)))) := by
  intro pins s σ H xs us Q I r h
  obtain ⟨a, kvs, rfl, ha, q⟩ := h
  obtain ⟨u, rfl, ru⟩ := vals1 r
  cases ru
  obtain ⟨hz, lo, vs, rv, hd⟩ := dk_of I.hok ha
  obtain ⟨ep, hat⟩ := hd.dictAt
  have hlen := rv.length
  refine PySem.W.kdl_call (PySem.W.kdl_dict (knd := mixKind X.prog X.w) (kvs := vs) (ep := ep) lo) (I.ok.hd hc) hat (by rw [← hlen]; exact hz) fun h' tk acc c hk hl hacc => ?_
  refine ⟨.ref s.heap.objs.size, _, I.laid (o := .lst (kvs.map fun kv => kV kv.1)) hk (Nat.le_refl _) ⟨by rw [List.length_map]; exact hz, acc.toList, c, ?_, by rw [Array.toArray_toList]; exact hl⟩, rfl, q _ (I.hok.fresh (Nat.le_refl _))⟩
  obtain ⟨hn, hp⟩ := hacc
  refine vals_of_get (by simp [hn, hlen]) fun j x u e1 e2 => ?_
  obtain ⟨k, y, hy, hk'⟩ := hp j u (by rw [← Array.getElem?_toList]; exact e2)
  rw [List.getElem?_map] at e1
  cases hkv : kvs[j]? with
  | none => rw [hkv] at e1; cases e1
  | some kv =>
    rw [hkv] at e1
    cases e1
    have hkeys := rv.keys
    have e3 : (kvs.map (·.1))[j]? = (vs.map (·.1))[j]? := by rw [hkeys]
    rw [List.getElem?_map, List.getElem?_map, hkv, hy] at e3
    have e4 : kv.1 = k := Option.some.inj e3
    have hk2 : keyIs kv.1 u = true := by rw [e4]; exact hk'
    rcases keyIs_shape hk2 with ⟨i, t, e5, e6⟩ | ⟨z, t, e5, e6⟩
    · show RelV (kV kv.1) u
      rw [e5, e6]; exact ⟨t, rfl⟩
    · show RelV (kV kv.1) u
      rw [e5, e6]; exact ⟨t, rfl⟩
end
end L2
set_option Elab.async false
set_option linter.all false
set_option maxRecDepth 100000
set_option maxHeartbeats 1000000
namespace L2
open PySem PySem.Spec PyProof.Rows
def SI (tp : Bool) (h : Heap) (i l : Addr) (k : Nat) (xs : Array Value) : Prop := match tp with
  | false => h.IsListIter i l k ∧ h.IsList l xs
  | true => h.IsTupleIter i l k ∧ h.IsTuple l xs
theorem SI.to {tp : Bool} {h h' : Heap} {i l : Addr} {k : Nat} {xs : Array Value} (z : SI tp h i l k xs) (kp : ∀ b o, (b = i ∨ b = l) → h.get? b = some o → h'.get? b = some o) : SI tp h' i l k xs := by
  cases tp with
  | false => exact ⟨let ⟨o, e, r⟩ := z.1; ⟨o, kp _ _ (.inl rfl) e, r⟩, let ⟨o, e, r⟩ := z.2; ⟨o, kp _ _ (.inr rfl) e, r⟩⟩
  | true => exact ⟨let ⟨o, e, r⟩ := z.1; ⟨o, kp _ _ (.inl rfl) e, r⟩, let ⟨o, e, r⟩ := z.2; ⟨o, kp _ _ (.inr rfl) e, r⟩⟩
theorem SI.but {tp : Bool} {h h' : Heap} {i l b : Addr} {k : Nat} {xs : Array Value} (z : SI tp h i l k xs) (e : Heap.ExtBut b h h') (h1 : i ≠ b) (h2 : l ≠ b) : SI tp h' i l k xs :=
  z.to fun c o hc q => e c o (by rcases hc with hc | hc <;> rw [hc] <;> assumption) q
theorem wp_else {α : Type} {M : Model} {A : Around} {E : Value → Shared → Prop} {s : Shared} {c : Bool} {a b : Sem α} {Q : α → Shared → Prop} (hc : c = false) (h : wpAny M A b Q E s) : wpAny M A (if c = true then a else b) Q E s := by
  subst hc
  rwa [if_neg (by decide)]
section
variable {prog : Program} {w : World} {A : Around} {E : Value → Shared → Prop} {s : Shared}
theorem si_item {tp : Bool} {i l : Addr} {k : Nat} {xs : Array Value} {x : Value} {Q : Value → Shared → Prop} (z : SI tp s.heap i l k xs) (ne : l ≠ i) (hx : xs[k]? = some x)
    (hQ : ∀ g, SI tp g i l (k + 1) xs → Heap.SameBut i s.heap g → Q x { s with heap := g }) : wpAny (model prog w) A (Builtin.SmallTypes.nextOf (.ref i)) Q E s := by
  cases tp with
  | false => exact wpAny_nextOf_list_item z.1 z.2 hx fun g a sb => hQ g ⟨a, z.2.extBut sb.extBut ne⟩ sb
  | true =>
    obtain ⟨z1, z2⟩ := z
    obtain ⟨ob, hob, cob, dob⟩ := id z1
    obtain ⟨ot, hot, _, nt, dt⟩ := id z2
    have sn := F.slot_tuple_iterator_next
    simp only [Builtin.SmallTypes.nextOf]
    refine wpAny_bind (wpAny_callSpecial?_slot (name := Str.ofString "__next__") z1.typeIs sn (wpAny_call_entry sn z1.typeIs F.entry_tuple_iterator_next ?_ (F.args_tuple_iterator_next_1 _)))
    refine wpAny_bind (m := field (.ref i) 0) (wpAny_field hob dob (x := .ref l) rfl (wp_else (c := Value.ref l == .none) rfl ?_))
    refine wpAny_bind (m := field (.ref i) 1) (wpAny_field hob dob (x := .int k 0) rfl (wpAny_bind (m := seqItems? (.ref l)) (wpAny_seqItems hot dt ?_)))
    simp only [hx, Int.toNat_natCast]
    refine wpAny_bind (wpAny_setField hob dob (by simp) (wpAny_pure ⟨x, rfl, wpAny_pure (hQ _ ⟨?_, ?_⟩ (Heap.SameBut.update ..))⟩))
    · refine ⟨_, Heap.get?_update_self _ hob (Obj.isFreed_of_fields (Obj.data_mapFields dob _)), (Obj.cls_mapFields ..).trans cob, ?_⟩
      rw [Obj.data_mapFields dob]; simp [rawInt]
    · exact z2.extBut (Heap.SameBut.update ..).extBut ne
theorem si_end {tp : Bool} {i l : Addr} {k : Nat} {xs : Array Value} {Q : Value → Shared → Prop} (hh : A.handled = none) (z : SI tp s.heap i l k xs) (hx : xs[k]? = none)
    (hE : ∀ g e, Heap.ExtBut i s.heap g → (∃ o, g.get? e = some o ∧ o.cls = .type "StopIteration") → E (.ref e) { s with heap := g }) : wpAny (model prog w) A (Builtin.SmallTypes.nextOf (.ref i)) Q E s := by
  cases tp with
  | false => exact wpAny_nextOf_list_end hh z.1 z.2 hx hE
  | true =>
    obtain ⟨z1, z2⟩ := z
    obtain ⟨ob, hob, cob, dob⟩ := id z1
    obtain ⟨ot, hot, _, nt, dt⟩ := id z2
    have sn := F.slot_tuple_iterator_next
    simp only [Builtin.SmallTypes.nextOf]
    refine wpAny_bind (wpAny_callSpecial?_slot (name := Str.ofString "__next__") z1.typeIs sn (wpAny_call_entry sn z1.typeIs F.entry_tuple_iterator_next ?_ (F.args_tuple_iterator_next_1 _)))
    refine wpAny_bind (m := field (.ref i) 0) (wpAny_field hob dob (x := .ref l) rfl (wp_else (c := Value.ref l == .none) rfl ?_))
    refine wpAny_bind (m := field (.ref i) 1) (wpAny_field hob dob (x := .int k 0) rfl (wpAny_bind (m := seqItems? (.ref l)) (wpAny_seqItems hot dt ?_)))
    simp only [hx, Int.toNat_natCast]
    refine wpAny_bind (wpAny_rule (wpAny_bind (wpAny_setField hob dob (by simp) ?_)))
    refine wpAny_bind (m := newExc (.type "StopIteration") []) ?_
    simp only [newExc, newTuple]
    refine wpAny_bind (wpAny_newObj_type (wpAny_bind (m := firstArgMember _ _) (wpAny_of_eq (a := .none) (by simp only [firstArgMember]; rfl) (wpAny_newObj_type ?_ (by size_fits)))) (by size_fits))
    have nh : A.in1.handled = none := hh
    simp only [raiseNew]
    refine wpAny_bind (wpAny_handled (?_))
    rw [nh]
    exact wpAny_bind (wpAny_pure (wpAny_throw (hE _ _ (((Heap.SameBut.update ..).extBut.push _).push _) ⟨_, Heap.get?_push_size _ rfl, rfl⟩)))
structure ZS (h : Heap) (z TI TO : Addr) (f0 : Value) (t1 : Bool) (i1 l1 : Addr) (xs : Array Value) (t2 : Bool) (i2 l2 : Addr) (ys : Array Value) (k : Nat) : Prop where
  zip : IsZip h z TI TO f0
  its : IsPair h TI (.ref i1) (.ref i2)
  out : ∃ a b, IsPair h TO a b
  one : SI t1 h i1 l1 k xs
  two : SI t2 h i2 l2 k ys
theorem zs_item {z TI TO i1 i2 l1 l2 : Addr} {t1 t2 : Bool} {k : Nat} {xs ys : Array Value} {x y : Value} {Q : Option Value → Shared → Prop} (D : ZipApart z TI TO i1 i2 l1 l2)
    (S : ZS s.heap z TI TO .none t1 i1 l1 xs t2 i2 l2 ys k) (hx : xs[k]? = some x) (hy : ys[k]? = some y)
    (hQ : ∀ g, ZS g z TI TO (rawInt s.heap.objs.size) t1 i1 l1 xs t2 i2 l2 ys (k + 1) → IsPair g s.heap.objs.size x y → g.objs.size = s.heap.objs.size + 1 →
      (∀ c o, c ≠ z → c ≠ TO → c ≠ i1 → c ≠ i2 → s.heap.get? c = some o → g.get? c = some o) → Q (some (.ref s.heap.objs.size)) { s with heap := g }) : wpAny (model prog w) A (pyNext (.ref z)) Q E s := by
  have hT : s.TypeIs (.ref z) "zip" := ⟨_, S.zip, rfl⟩
  obtain ⟨a, b, So⟩ := S.out
  simp only [pyNext]
  refine wpAny_bind (wpAny_attempt (wpAny_callSpecial?_slot (name := Str.ofString "__next__") hT F.slot_zip_next (wpAny_call_entry F.slot_zip_next hT F.entry_zip_next ?_ (F.args_zip_next_1 _))))
  refine wpAny_bind (m := field (.ref z) 2) (wpAny_field S.zip rfl (x := .bool false) rfl (wpAny_bind (m := field (.ref z) 3) (wpAny_field S.zip rfl (x := .ref TI) rfl (wpAny_bind (wpAny_seqItems S.its rfl ?_)))))
  refine wpAny_bind (m := Builtin.SmallTypes.ownedTupleIsFree (.ref z)) (wpAny_bind (m := field (.ref z) 0) (wpAny_field S.zip rfl (x := .none) rfl (wpAny_pure ?_)))
  simp only [if_true]
  refine wpAny_bind (wpAny_rule (wpAny_bind (wpAny_field S.zip rfl (x := .ref TO) rfl (wpAny_bind (wpAny_setField_rec S.zip (by simp) fun g1 z1 s1 => wpAny_bind ?_)))))
  replace z1 : IsZip g1 z TI TO .ellipsis := z1
  simp only [List.forIn_cons, List.forIn_nil, List.zipIdx_cons, List.zipIdx_nil]
  refine wpAny_bind (wpAny_bind (wpAny_onRaise (?_ : wpAny _ _ (Builtin.SmallTypes.nextOf (.ref i1) >>= _) _ _ _)))
  refine wpAny_bind (si_item (S.one.but s1.extBut D.i1z D.l1z) D.l1i1 hx fun g2 a2 s2 => wpAny_pure ?_)
  have o2 : IsPair g2 TO a b := s2.extBut _ _ D.TOi1 (s1.extBut _ _ D.TOz So)
  refine wpAny_bind (wpAny_seqItems o2 rfl ?_)
  refine wpAny_bind (wpAny_updateSeq_pair o2 fun g3 o3 s3 => ?_)
  replace o3 : IsPair g3 TO x b := o3
  refine wpAny_bind (wpAny_letGo (wpAny_pure (wpAny_bind (wpAny_bind (wpAny_onRaise (?_ : wpAny _ _ (Builtin.SmallTypes.nextOf (.ref i2) >>= _) _ _ _))))))
  have b3 : SI t2 g3 i2 l2 k ys := ((S.two.but s1.extBut D.i2z D.l2z).but s2.extBut D.i12.symm D.l2i1).but s3.extBut D.TOi2.symm D.l2TO
  refine wpAny_bind (si_item b3 D.l2i2 hy fun g4 b4 s4 => wpAny_pure ?_)
  have o4 : IsPair g4 TO x b := s4.extBut _ _ D.TOi2 o3
  refine wpAny_bind (wpAny_seqItems o4 rfl ?_)
  refine wpAny_bind (wpAny_updateSeq_pair o4 fun g5 o5 s5 => ?_)
  replace o5 : IsPair g5 TO x y := o5
  refine wpAny_bind (wpAny_letGo (wpAny_pure (wpAny_pure (wpAny_bind (wpAny_seqItems o5 rfl (wpAny_bind (wpAny_newTuple ?_)))))))
  have sz : g5.objs.size = s.heap.objs.size := by rw [s5.1, s4.1, s3.1, s2.1, s1.1]
  have z5 : IsZip g5 z TI TO .ellipsis := s5.extBut _ _ D.TOz.symm (s4.extBut _ _ D.i2z.symm (s3.extBut _ _ D.TOz.symm (s2.extBut _ _ D.i1z.symm z1)))
  have k5 : ∀ c o, c ≠ z → c ≠ TO → c ≠ i1 → c ≠ i2 → s.heap.get? c = some o → g5.get? c = some o := fun c o c1 c2 c3 c4 e =>
    s5.extBut _ _ c2 (s4.extBut _ _ c4 (s3.extBut _ _ c2 (s2.extBut _ _ c3 (s1.extBut _ _ c1 e))))
  have a5 : SI t1 g5 i1 l1 (k + 1) xs := ((a2.but s3.extBut D.TOi1.symm D.l1TO).but s4.extBut D.i12 D.l1i2).but s5.extBut D.TOi1.symm D.l1TO
  have b5 : SI t2 g5 i2 l2 (k + 1) ys := b4.but s5.extBut D.TOi2.symm D.l2TO
  have zlt : z < g5.objs.size := Heap.lt_size z5
  show wpAny _ _ (Builtin.SmallTypes.ownedTupleHandOut (.ref z) (.ref g5.objs.size) >>= _) _ _ _
  refine wpAny_bind ?_
  simp only [Builtin.SmallTypes.ownedTupleHandOut]
  have z6 : IsZip (g5.push { cls := .type "tuple", data := .seq #[x, y] }) z TI TO .ellipsis := Heap.get?_push_of_some _ z5
  refine wpAny_bind (wpAny_setField_rec z6 (by simp) fun g7 z7 s7 => ?_)
  replace z7 : IsZip g7 z TI TO (rawInt g5.objs.size) := z7
  refine wpAny_setField_rec z7 (by simp) fun g8 z8 s8 => ?_
  replace z8 : IsZip g8 z TI TO (rawInt g5.objs.size) := z8
  have up : ∀ c o, c ≠ z → g5.get? c = some o → g8.get? c = some o := fun c o c1 e => s8.extBut _ _ c1 (s7.extBut _ _ c1 (Heap.get?_push_of_some _ e))
  have t8 : IsPair g8 g5.objs.size x y := s8.extBut _ _ (Nat.ne_of_gt zlt) (s7.extBut _ _ (Nat.ne_of_gt zlt) (Heap.get?_push_size _ rfl))
  have sz8 : g8.objs.size = g5.objs.size + 1 := by rw [s8.1, s7.1, Heap.size_push]
  rw [sz] at z8 t8 sz8
  refine wpAny_pure ⟨_, rfl, wpAny_pure ?_⟩
  show Q (some (.ref g5.objs.size)) _
  rw [sz]
  refine hQ g8 ⟨z8, up _ _ D.TIz (k5 _ _ D.TIz D.TITO D.TIi1 D.TIi2 S.its), ⟨_, _, up _ _ D.TOz o5⟩, ?_, ?_⟩ t8 sz8 fun c o c1 c2 c3 c4 e => up c o c1 (k5 c o c1 c2 c3 c4 e)
  · exact a5.to fun c o hc e => up c o (hc.elim (fun q => q ▸ D.i1z) fun q => q ▸ D.l1z) e
  · exact b5.to fun c o hc e => up c o (hc.elim (fun q => q ▸ D.i2z) fun q => q ▸ D.l2z) e
theorem zs_end {z TI TO i1 i2 l1 l2 : Addr} {t1 t2 : Bool} {k : Nat} {xs ys : Array Value} {Q : Option Value → Shared → Prop} (hh : A.handled = none) (D : ZipApart z TI TO i1 i2 l1 l2)
    (S : ZS s.heap z TI TO .none t1 i1 l1 xs t2 i2 l2 ys k) (hend : xs[k]? = none ∨ ys[k]? = none)
    (hQ : ∀ g, (∀ c o, c ≠ z → c ≠ TO → c ≠ i1 → c ≠ i2 → s.heap.get? c = some o → g.get? c = some o) → Q none { s with heap := g }) : wpAny (model prog w) A (pyNext (.ref z)) Q E s := by
  have hT : s.TypeIs (.ref z) "zip" := ⟨_, S.zip, rfl⟩
  obtain ⟨a, b, So⟩ := S.out
  have stop : ∀ (g : Heap) (e : Addr), (∀ c o, c ≠ z → c ≠ TO → c ≠ i1 → c ≠ i2 → s.heap.get? c = some o → g.get? c = some o) → (∃ o, g.get? e = some o ∧ o.cls = .type "StopIteration") →
      wpAny (model prog w) A (do if (← isInstance (.ref e) (.type "StopIteration")) then pure none else throw (.ref e) : Sem (Option Value)) Q E { s with heap := g } := fun g e kp ⟨o, ho, hc⟩ =>
    wpAny_bind (wpAny_isInstance (T := "StopIteration") (b := true) ⟨o, ho, hc⟩ isSubtype_stop (wpAny_pure (hQ g kp)))
  simp only [pyNext]
  refine wpAny_bind (wpAny_attempt (wpAny_callSpecial?_slot (name := Str.ofString "__next__") hT F.slot_zip_next (wpAny_call_entry F.slot_zip_next hT F.entry_zip_next ?_ (F.args_zip_next_1 _))))
  refine wpAny_bind (m := field (.ref z) 2) (wpAny_field S.zip rfl (x := .bool false) rfl (wpAny_bind (m := field (.ref z) 3) (wpAny_field S.zip rfl (x := .ref TI) rfl (wpAny_bind (wpAny_seqItems S.its rfl ?_)))))
  refine wpAny_bind (m := Builtin.SmallTypes.ownedTupleIsFree (.ref z)) (wpAny_bind (m := field (.ref z) 0) (wpAny_field S.zip rfl (x := .none) rfl (wpAny_pure ?_)))
  simp only [if_true]
  refine wpAny_bind (wpAny_rule (wpAny_bind (wpAny_field S.zip rfl (x := .ref TO) rfl (wpAny_bind (wpAny_setField_rec S.zip (by simp) fun g1 z1 s1 => wpAny_bind ?_)))))
  replace z1 : IsZip g1 z TI TO .ellipsis := z1
  simp only [List.forIn_cons, List.forIn_nil, List.zipIdx_cons, List.zipIdx_nil]
  refine wpAny_bind (wpAny_bind (wpAny_onRaise (?_ : wpAny _ _ (Builtin.SmallTypes.nextOf (.ref i1) >>= _) _ _ _)))
  cases hx : xs[k]? with
  | none =>
    refine wpAny_bind (si_end hh (S.one.but s1.extBut D.i1z D.l1z) hx fun g2 e e2 he => ?_)
    obtain ⟨oe, hoe, hce⟩ := he
    have z2 : IsZip g2 z TI TO .ellipsis := e2 _ _ D.i1z.symm z1
    have hez : e ≠ z := fun q => by subst q; rw [z2] at hoe; cases hoe; simp at hce
    refine wpAny_setField_rec z2 (by simp) fun g3 _ s3 => ?_
    exact stop g3 e (fun c o c1 _ c3 _ q => s3.extBut _ _ c1 (e2 _ _ c3 (s1.extBut _ _ c1 q))) ⟨oe, s3.extBut _ _ hez hoe, hce⟩
  | some x =>
    have hy : ys[k]? = none := by rcases hend with q | q; rw [hx] at q; cases q; exact q
    refine wpAny_bind (si_item (S.one.but s1.extBut D.i1z D.l1z) D.l1i1 hx fun g2 a2 s2 => wpAny_pure ?_)
    have o2 : IsPair g2 TO a b := s2.extBut _ _ D.TOi1 (s1.extBut _ _ D.TOz So)
    refine wpAny_bind (wpAny_seqItems o2 rfl ?_)
    refine wpAny_bind (wpAny_updateSeq_pair o2 fun g3 o3 s3 => ?_)
    refine wpAny_bind (wpAny_letGo (wpAny_pure (wpAny_bind (wpAny_bind (wpAny_onRaise (?_ : wpAny _ _ (Builtin.SmallTypes.nextOf (.ref i2) >>= _) _ _ _))))))
    have b3 : SI t2 g3 i2 l2 k ys := ((S.two.but s1.extBut D.i2z D.l2z).but s2.extBut D.i12.symm D.l2i1).but s3.extBut D.TOi2.symm D.l2TO
    refine wpAny_bind (si_end hh b3 hy fun g4 e e4 he => ?_)
    obtain ⟨oe, hoe, hce⟩ := he
    have z4 : IsZip g4 z TI TO .ellipsis := e4 _ _ D.i2z.symm (s3.extBut _ _ D.TOz.symm (s2.extBut _ _ D.i1z.symm z1))
    have hez : e ≠ z := fun q => by subst q; rw [z4] at hoe; cases hoe; simp at hce
    refine wpAny_setField_rec z4 (by simp) fun g5 _ s5 => ?_
    exact stop g5 e (fun c o c1 c2 c3 c4 q => s5.extBut _ _ c1 (e4 _ _ c4 (s3.extBut _ _ c2 (s2.extBut _ _ c3 (s1.extBut _ _ c1 q))))) ⟨oe, s5.extBut _ _ hez hoe, hce⟩
def Wk (tp : Bool) (h : Heap) (l : Addr) (xs : Array Value) : Prop := match tp with
  | false => h.IsList l xs
  | true => h.IsTuple l xs
def iterObj (tp : Bool) (l : Addr) : Obj := { cls := .type (if tp then "tuple_iterator" else "list_iterator"), data := .fields #[.ref l, .int 0 0] }
theorem wk_iter {tp : Bool} {l : Addr} {xs : Array Value} {Q : Value → Shared → Prop} (h : Wk tp s.heap l xs) (q : Q (.ref s.heap.objs.size) { s with heap := s.heap.push (iterObj tp l) }) : wpAny (model prog w) A (pyIter (.ref l)) Q E s := by
  cases tp with
  | false => exact wpAny_pyIter_list h q
  | true => exact wpAny_pyIter_tuple h q
theorem Wk.push {tp : Bool} {h : Heap} {l : Addr} {xs : Array Value} (z : Wk tp h l xs) (o : Obj) : Wk tp (h.push o) l xs := by
  cases tp with
  | false => exact Heap.IsList.push z o
  | true => exact Heap.IsTuple.push z o
end
abbrev zg1 (h : Heap) (t1 : Bool) (l1 : Addr) : Heap := h.push (iterObj t1 l1)
abbrev zg2 (h : Heap) (t1 : Bool) (l1 : Addr) (t2 : Bool) (l2 : Addr) : Heap := (zg1 h t1 l1).push (iterObj t2 l2)
abbrev zg3 (h : Heap) (t1 : Bool) (l1 : Addr) (t2 : Bool) (l2 : Addr) : Heap := (zg2 h t1 l1 t2 l2).push { cls := .type "tuple", data := .seq #[.ref h.objs.size, .ref (zg1 h t1 l1).objs.size] }
abbrev zg4 (h : Heap) (t1 : Bool) (l1 : Addr) (t2 : Bool) (l2 : Addr) : Heap := (zg3 h t1 l1 t2 l2).push { cls := .type "tuple", data := .seq #[.none, .none] }
abbrev zg5 (h : Heap) (t1 : Bool) (l1 : Addr) (t2 : Bool) (l2 : Addr) : Heap := (zg4 h t1 l1 t2 l2).push { cls := .type "zip", data := .fields #[.none, .bool false, .bool false, .ref (zg2 h t1 l1 t2 l2).objs.size, .ref (zg3 h t1 l1 t2 l2).objs.size] }
theorem zip_new_go (t1 t2 : Bool) (l1 l2 : Addr) (xs ys : Array Value) :
    Meets (Builtin.«zip.__new__» ⟨[.type "zip", .ref l1, .ref l2], []⟩) (fun _ R s => Wk t1 s.heap l1 xs ∧ Wk t2 s.heap l2 ys ∧
      R (.ok (.ret (.ref (zg4 s.heap t1 l1 t2 l2).objs.size))) { s with heap := zg5 s.heap t1 l1 t2 l2 }) :=
  .of_wp fun prog w A R s h => by
    obtain ⟨hp, g, d, tk, os⟩ := s; obtain ⟨h1, h2, h⟩ := h
    have hsub := sub_zip
    have k1 : Wk t1 (Shared.heap ⟨hp, g, d, tk, os⟩) l1 xs := h1
    have k2 : Wk t2 (Shared.heap ⟨hp.push (iterObj t1 l1), g, d, tk, os⟩) l2 ys := Wk.push h2 _
    wp_walk using wk_iter k1, wk_iter k2
    exact ⟨_, rfl, h⟩
end L2
set_option Elab.async false
set_option linter.all false
set_option maxRecDepth 100000
set_option maxHeartbeats 1000000
namespace L2
open PySem PySem.Spec PyProof.Rows
def SJ (tp : Bool) (h : Heap) (i l : Addr) (k : Nat) : Prop := match tp with
  | false => h.IsListIter i l k
  | true => h.IsTupleIter i l k
theorem SJ.si {tp : Bool} {h : Heap} {i l : Addr} {k : Nat} {xs : Array Value} (z : SJ tp h i l k) (c : Wk tp h l xs) : SI tp h i l k xs := by
  cases tp <;> exact ⟨z, c⟩
theorem SI.sj {tp : Bool} {h : Heap} {i l : Addr} {k : Nat} {xs : Array Value} (z : SI tp h i l k xs) : SJ tp h i l k := by
  cases tp <;> exact z.1
theorem SJ.to {tp : Bool} {h h' : Heap} {i l : Addr} {k : Nat} (z : SJ tp h i l k) (kp : ∀ o, h.get? i = some o → h'.get? i = some o) : SJ tp h' i l k := by
  cases tp with
  | false => exact let ⟨o, e, r⟩ := z; ⟨o, kp _ e, r⟩
  | true => exact let ⟨o, e, r⟩ := z; ⟨o, kp _ e, r⟩
theorem SJ.obj {tp : Bool} {h : Heap} {i l : Addr} {k : Nat} (z : SJ tp h i l k) : ∃ o, h.get? i = some o ∧ ∀ v, o.data ≠ .cell v := by
  cases tp with
  | false => obtain ⟨o, e, _, d⟩ := z; exact ⟨o, e, fun v q => by rw [d] at q; cases q⟩
  | true => obtain ⟨o, e, _, d⟩ := z; exact ⟨o, e, fun v q => by rw [d] at q; cases q⟩
theorem SJ.new (tp : Bool) (h : Heap) (l : Addr) : SJ tp (h.push (iterObj tp l)) h.objs.size l 0 := by
  cases tp <;> exact ⟨_, Heap.get?_push_size _ rfl, rfl, rfl⟩
structure ZR (h : Heap) (z TI TO : Addr) (t1 : Bool) (i1 l1 : Addr) (t2 : Bool) (i2 l2 : Addr) (k : Nat) : Prop where
  zip : IsZip h z TI TO .none
  its : IsPair h TI (.ref i1) (.ref i2)
  out : ∃ a b, IsPair h TO a b
  one : SJ t1 h i1 l1 k
  two : SJ t2 h i2 l2 k
section
variable {prog : Program} {w : World} {A : Around} {E : Value → Shared → Prop} {s : Shared}
theorem call_zip {t1 t2 : Bool} {l1 l2 : Addr} {xs ys : Array Value} {Q : Value → Shared → Prop} (h1 : Wk t1 s.heap l1 xs) (h2 : Wk t2 s.heap l2 ys)
    (h : ∀ g, ZR g (s.heap.objs.size + 4) (s.heap.objs.size + 2) (s.heap.objs.size + 3) t1 s.heap.objs.size l1 t2 (s.heap.objs.size + 1) l2 0 →
      (∀ c o, s.heap.get? c = some o → g.get? c = some o) → Q (.ref (s.heap.objs.size + 4)) { s with heap := g }) : wpAny (model prog w) A (call (.type "zip") [.ref l1, .ref l2]) Q E s := by
  refine callType_new F.called_zip (by decide) (F.typeCall_zip_2 _ _) (F.newCall_zip_2 _ _) (fun obj => F.args_object_init_3 obj _ _) F.entry_zip_new (zip_new_go t1 t2 l1 l2 xs ys) ⟨h1, h2, ?_⟩
  have e1 : (zg1 s.heap t1 l1).objs.size = s.heap.objs.size + 1 := Heap.size_push ..
  have e2 : (zg2 s.heap t1 l1 t2 l2).objs.size = s.heap.objs.size + 2 := by rw [Heap.size_push, e1]
  have e3 : (zg3 s.heap t1 l1 t2 l2).objs.size = s.heap.objs.size + 3 := by rw [Heap.size_push, e2]
  have e4 : (zg4 s.heap t1 l1 t2 l2).objs.size = s.heap.objs.size + 4 := by rw [Heap.size_push, e3]
  have p5 : (zg5 s.heap t1 l1 t2 l2).get? (zg4 s.heap t1 l1 t2 l2).objs.size = some _ := Heap.get?_push_size _ rfl
  have p4 : (zg5 s.heap t1 l1 t2 l2).get? (zg3 s.heap t1 l1 t2 l2).objs.size = some _ := Heap.get?_push_of_some _ (Heap.get?_push_size _ rfl)
  have p3 : (zg5 s.heap t1 l1 t2 l2).get? (zg2 s.heap t1 l1 t2 l2).objs.size = some _ := Heap.get?_push_of_some _ (Heap.get?_push_of_some _ (Heap.get?_push_size _ rfl))
  have p2 : SJ t2 (zg5 s.heap t1 l1 t2 l2) (zg1 s.heap t1 l1).objs.size l2 0 := (SJ.new t2 (zg1 s.heap t1 l1) l2).to fun o q => Heap.get?_push_of_some _ (Heap.get?_push_of_some _ (Heap.get?_push_of_some _ q))
  have p1 : SJ t1 (zg5 s.heap t1 l1 t2 l2) s.heap.objs.size l1 0 := (SJ.new t1 s.heap l1).to fun o q => Heap.get?_push_of_some _ (Heap.get?_push_of_some _ (Heap.get?_push_of_some _ (Heap.get?_push_of_some _ q)))
  show _ ∧ _
  rw [e2, e3, e4] at p5
  rw [e1, e2] at p3
  rw [e3] at p4
  rw [e1] at p2
  rw [e4]
  exact ⟨⟨_, p5, rfl⟩, h _ ⟨p5, p3, ⟨_, _, p4⟩, p1, p2⟩ fun c o q =>
    Heap.get?_push_of_some _ (Heap.get?_push_of_some _ (Heap.get?_push_of_some _ (Heap.get?_push_of_some _ (Heap.get?_push_of_some _ q))))⟩
end
def Sq (K : PySem.W.Frag) (tp : Bool) (H : Hp) (l : Addr) (xs : List V) : Prop := match tp with
  | false => SqL K H l xs
  | true => SqT K H l xs
theorem Inv.sq {X : Cx} {pins : List (Addr × Obj)} {σ : St} {H : Hp} {s : Shared} {tp : Bool} {l : Addr} {xs : List V} (I : Inv X pins σ H s) (h : Sq X.K tp H l xs) : ∃ its : List Value, Vals xs its ∧ Wk tp s.heap l its.toArray := by
  cases tp with
  | false =>
    obtain ⟨its, r, p, _⟩ := I.list h
    exact ⟨its, r, p.isList⟩
  | true =>
    obtain ⟨its, r, p, _⟩ := I.tuple h
    exact ⟨its, r, p⟩
theorem Inv.sq_inj {X : Cx} {pins : List (Addr × Obj)} {σ : St} {H : Hp} {s : Shared} {tp : Bool} {l : Addr} {xs ys : List V} (I : Inv X pins σ H s) (h : Sq X.K tp H l xs) (h' : Sq X.K tp H l ys) : xs = ys := by
  cases tp with
  | false => exact I.list_inj h h'
  | true => exact I.tuple_inj h h'
theorem Wk.lt {tp : Bool} {h : Heap} {l : Addr} {xs : Array Value} (z : Wk tp h l xs) : l < h.objs.size := by
  cases tp with
  | false => obtain ⟨_, e, _⟩ := z; exact Heap.lt_size e
  | true => obtain ⟨_, e, _⟩ := z; exact Heap.lt_size e
def Itz (K : PySem.W.Frag) (t1 : Bool) (l1 : Addr) (t2 : Bool) (l2 : Addr) : It :=
  ⟨fun i H => ∃ xs ys x y, Sq K t1 H l1 xs ∧ Sq K t2 H l2 ys ∧ xs[i]? = some x ∧ ys[i]? = some y,
   fun i H v H' => ∃ p x y, v = .ref p ∧ H p = none ∧ H' = upd H p (.tup [x, y]) ∧ (∀ xs, Sq K t1 H l1 xs → xs[i]? = some x) ∧ ∀ ys, Sq K t2 H l2 ys → ys[i]? = some y,
   fun i H => ∃ xs ys, Sq K t1 H l1 xs ∧ Sq K t2 H l2 ys ∧ (xs.length ≤ i ∨ ys.length ≤ i)⟩
end L2
set_option Elab.async false
set_option linter.all false
set_option maxRecDepth 100000
set_option maxHeartbeats 1000000
namespace L2
open PySem PySem.Spec PyProof.Rows
theorem boot_zip' : bootBuiltins "zip" = some (.type "zip") := by decide +kernel
theorem Inv.turnedL {X : Cx} {pins : List (Addr × Obj)} {σ : St} {H : Hp} {s : Shared} {h' : Heap} {t' : Nat} {ch : List Addr} (I : Inv X pins σ H s) (k : ∀ b o, b ∉ ch → s.heap.get? b = some o → h'.get? b = some o) (f : ∀ b ∈ ch, FpOk X pins H b) :
    Inv X pins σ H { s with heap := h', toks := t' } := by
  have ne : ∀ b u, H b = some u → b ∉ ch := fun b u e z => by rw [(f b z).1] at e; cases e
  have nl : X.env.locals ∉ ch := fun z => (f _ z).2.1 rfl
  refine I.step (g' := s.gens) (d' := s.drawn) (ch := ch) (fun b hb => ⟨(f b hb).2.2.2.1, (f b hb).2.1, (f b hb).2.2.2.2.1, (f b hb).2.2.2.2.2⟩) (fun b o _ _ hc e _ => k b o hc e) (fun b o _ _ hc e _ => ⟨o.slots, k b o hc e⟩) (fun _ _ _ _ n => n)
    (fun b o hc e => ⟨o, k b o hc e⟩) (fun _ _ e => e) (fun _ _ _ e => e) (fun b ps e => ⟨#[], by rw [e]; simp⟩) (fun m hm => ?_) (fun b u e => ?_) I.bare
  · obtain ⟨o, es, ep, ho, r⟩ := hm
    exact ⟨o, es, ep, k _ o nl ho, r⟩
  · refine (I.hok b u e).stay (fun c v hc q => k c v ?_ q) (fun _ q => q) fun _ _ q => q
    rcases hc with z | z
    · rw [z]; exact ne b u e
    · exact ne c _ z
theorem mem4 {a b c d x : Addr} (h : x ∈ [a, b, c, d]) : x = a ∨ x = b ∨ x = c ∨ x = d := by simpa using h
theorem turn_zip {P : Program} {w : World} {K : PySem.W.Frag} {elts : List Expr} {x1} {pos : Pos} {z TI TO i1 i2 l1 l2 : Addr} {t1 t2 : Bool} (D : ZipApart z TI TO i1 i2 l1 l2) :
    Turn P w K (.Tuple elts x1 pos) (Itz K t1 l1 t2 l2) [z, TO, i1, i2, TI] z (fun i h => ZR h z TI TO t1 i1 l1 t2 i2 l2 i) where
  mem := by simp
  obj := fun i h st b hb => by
    have q : b = z ∨ b = TO ∨ b = i1 ∨ b = i2 ∨ b = TI := by simpa using hb
    rcases q with q | q | q | q | q <;> rw [q]
    · exact ⟨_, st.zip, fun v e => nomatch e⟩
    · obtain ⟨a, b, e⟩ := st.out
      exact ⟨_, e, fun v e => nomatch e⟩
    · exact st.one.obj
    · exact st.two.obj
    · exact ⟨_, st.its, fun v e => nomatch e⟩
  keep := fun i h h' st k => ⟨k z (by simp) _ st.zip, k TI (by simp) _ st.its, let ⟨a, b, e⟩ := st.out; ⟨a, b, k TO (by simp) _ e⟩, st.one.to fun o e => k i1 (by simp) o e, st.two.to fun o e => k i2 (by simp) o e⟩
  item := by
    intro X hP hw hK hc i pins s σ H E I hf st hg
    subst hP hw hK
    obtain ⟨xs, ys, x, y, q1, q2, hx, hy⟩ := hg
    obtain ⟨its1, r1, w1⟩ := I.sq q1
    obtain ⟨its2, r2, w2⟩ := I.sq q2
    obtain ⟨u1, hu1, ru1⟩ := r1.get hx
    obtain ⟨u2, hu2, ru2⟩ := r2.get hy
    refine zs_item D ⟨st.zip, st.its, st.out, st.one.si w1, st.two.si w2⟩ (x := u1) (y := u2) (by simpa using hu1) (by simpa using hu2) fun g S' hp sz kp => ?_
    have f : ∀ b ∈ [z, TO, i1, i2], FpOk X pins H b := fun b hb => hf b (by
      rcases mem4 hb with q | q | q | q <;> rw [q] <;> simp)
    have kp' : ∀ b o, b ∉ [z, TO, i1, i2] → s.heap.get? b = some o → g.get? b = some o := fun b o hb e => kp b o (fun q => hb (by simp [q])) (fun q => hb (by simp [q])) (fun q => hb (by simp [q])) (fun q => hb (by simp [q])) e
    have I1 : Inv X pins σ H { s with heap := g } := I.turnedL (t' := s.toks) kp' f
    have hn : H s.heap.objs.size = none := I.hok.fresh (Nat.le_refl _)
    have zlt : z < s.heap.objs.size := Heap.lt_size st.zip
    refine ⟨_, rfl, ?_⟩
    refine wpAny_letOwnedTupleGo_zip (s := { s with heap := g }) S'.zip fun g2 z2 s2 => ?_
    have I2 : Inv X pins σ H { s with heap := g2 } := I1.turnedL (s := { s with heap := g }) (t' := s.toks) (ch := [z]) (fun b o hb e => s2.extBut b o (fun q => hb (by simp [q])) e) fun b hb => by
      have q : b = z := by simpa using hb
      rw [q]; exact f z (by simp)
    have pg2 : IsPair g2 s.heap.objs.size u1 u2 := s2.extBut _ _ (Nat.ne_of_gt zlt) hp
    have I3 : Inv X pins σ (upd H s.heap.objs.size (.tup [x, y])) { s with heap := g2 } := I2.retrack hn (I.fpOk (Nat.le_refl _) hn) ⟨by show 2 ≤ sizeLine; decide, [u1, u2], .cons ru1 (.cons ru2 .nil), ⟨_, pg2, rfl, rfl, _, rfl⟩⟩
    have ltf : ∀ b ∈ [z, TO, i1, i2, TI], b < s.heap.objs.size := fun b hb => by
      have q : b = z ∨ b = TO ∨ b = i1 ∨ b = i2 ∨ b = TI := by simpa using hb
      rcases q with q | q | q | q | q <;> rw [q]
      · exact zlt
      · obtain ⟨a, b, e⟩ := st.out
        exact Heap.lt_size e
      · obtain ⟨o, e, _⟩ := st.one.obj
        exact Heap.lt_size e
      · obtain ⟨o, e, _⟩ := st.two.obj
        exact Heap.lt_size e
      · exact Heap.lt_size st.its
    refine ⟨.ref s.heap.objs.size, _, I3, rfl, ⟨_, x, y, rfl, hn, rfl, fun zs h => by rw [I.sq_inj h q1]; exact hx, fun zs h => by rw [I.sq_inj h q2]; exact hy⟩, ?_, fun b hb => ?_⟩
    · refine ⟨z2, s2.extBut _ _ D.TIz S'.its, let ⟨a, b, e⟩ := S'.out; ⟨a, b, s2.extBut _ _ D.TOz e⟩, S'.one.sj.to fun o e => s2.extBut _ _ D.i1z e, S'.two.sj.to fun o e => s2.extBut _ _ D.i2z e⟩
    · rw [upd_ne (Nat.ne_of_lt (ltf b hb))]
      exact (hf b hb).1
  done := by
    intro X hP hw hK hc i pins s σ H E I hf st hg
    subst hP hw hK
    obtain ⟨xs, ys, q1, q2, hend⟩ := hg
    obtain ⟨its1, r1, w1⟩ := I.sq q1
    obtain ⟨its2, r2, w2⟩ := I.sq q2
    have e1 := r1.length
    have e2 := r2.length
    refine zs_end (I.ok.hd hc) D ⟨st.zip, st.its, st.out, st.one.si w1, st.two.si w2⟩ ?_ fun g kp => ⟨rfl, ?_⟩
    · rcases hend with q | q
      · exact .inl (by simp; omega)
      · exact .inr (by simp; omega)
    · refine I.turnedL (t' := s.toks) (ch := [z, TO, i1, i2]) (fun b o hb e => kp b o (fun q => hb (by simp [q])) (fun q => hb (by simp [q])) (fun q => hb (by simp [q])) (fun q => hb (by simp [q])) e) fun b hb => hf b (by
        rcases mem4 hb with q | q | q | q <;> rw [q] <;> simp)
  self := fun _ _ _ _ _ st h => wpAny_pyIter_zip st.zip h
theorem zap (n l1 l2 : Nat) (h1 : l1 < n) (h2 : l2 < n) : ZipApart (n + 4) (n + 2) (n + 3) n (n + 1) l1 l2 := by
  constructor <;> (intro q; have q' : (_ : Nat) = _ := q; omega)
def iZip (K : PySem.W.Frag) (ta : TA) : TI := fun σ H R => ta σ H fun vs H1 => ∃ a b t1 t2 xs ys, vs = [.ref a, .ref b] ∧ Sq K t1 H1 a xs ∧ Sq K t2 H1 b ys ∧ R (Itz K t1 a t2 b) H1
theorem pi_zip {X : Cx} {elts : List Expr} {x1} {tpos : Pos} {a b : Expr} {ta : TA} {p pos : Pos} (hg : Gl X "zip") (hm : X.mg "zip" = none) (ha : PA X [a, b] ta)
    (hs : starEach [a, b] X.env = [(false, eval a X.env), (false, eval b X.env)] := by rfl) (hs2 : starEach [b] X.env = [(false, eval b X.env)] := by rfl) : PI X (.Tuple elts x1 tpos) (.Call (.Name "zip" p) [a, b] [] pos) (iZip X.K ta) := by
  intro pins s σ H R I h
  refine Call_ (ld_blt I hg hm boot_zip' (PyProof.Rows.callWith_type1 (thn (ha pos pins s σ H _ I h) fun us s1 ⟨vs, H1, I1, r1, q1⟩ => ?_) (by rw [hs, hs2]) (by rw [hs2]; rfl)))
  obtain ⟨l1, l2, t1, t2, xs, ys, e, q1, q2, q⟩ := q1
  subst e
  obtain ⟨u, w', rfl, ru, rw'⟩ := vals2 r1
  cases ru
  cases rw'
  obtain ⟨its1, rr1, w1⟩ := I1.sq q1
  obtain ⟨its2, rr2, w2⟩ := I1.sq q2
  have n1 := w1.lt
  have n2 := w2.lt
  refine call_zip w1 w2 fun g S kp => ?_
  refine wpAny_pyIter_zip (s := { s1 with heap := g }) S.zip ?_
  have D := zap _ _ _ n1 n2
  have I2 : Inv X pins σ H1 { s1 with heap := g } := I1.kept (t' := s1.toks) kp
  refine ⟨_, [s1.heap.objs.size + 4, s1.heap.objs.size + 3, s1.heap.objs.size, s1.heap.objs.size + 1, s1.heap.objs.size + 2], _, _, H1, rfl, I2, turn_zip D, S, fun b hb => ?_, q⟩
  have hb' : s1.heap.objs.size ≤ b := by
    have z : b = s1.heap.objs.size + 4 ∨ b = s1.heap.objs.size + 3 ∨ b = s1.heap.objs.size ∨ b = s1.heap.objs.size + 1 ∨ b = s1.heap.objs.size + 2 := by simpa using hb
    rcases z with z | z | z | z | z <;> rw [z] <;> first | exact Nat.le_refl _ | exact Nat.le_add_right _ _
  exact I1.fpOk hb' (I1.hok.fresh hb')
end L2
set_option Elab.async false
set_option linter.all false
set_option maxRecDepth 100000
set_option maxHeartbeats 1000000
namespace L2
open PySem PySem.Spec PyProof.Rows
inductive Dat where
  | non | bl (b : Bool) | int (i : Int) | str (x : Str) | tup (ds : List Dat) | lst (ds : List Dat)
mutual
def Dat.beq : Dat → Dat → Bool
  | .non, .non => true
  | .bl a, .bl b => a == b
  | .int a, .int b => a == b
  | .str a, .str b => a == b
  | .tup a, .tup b => Dat.beqs a b
  | .lst a, .lst b => Dat.beqs a b
  | _, _ => false
def Dat.beqs : List Dat → List Dat → Bool
  | [], [] => true
  | a :: as, b :: bs => Dat.beq a b && Dat.beqs as bs
  | _, _ => false
end
mutual
theorem Dat.beq_self : ∀ a : Dat, a.beq a = true
  | .non => by unfold Dat.beq; rfl
  | .bl b => by unfold Dat.beq; exact beq_self_eq_true b
  | .int i => by unfold Dat.beq; exact beq_self_eq_true i
  | .str x => by unfold Dat.beq; exact beq_self_eq_true x
  | .tup ds => by unfold Dat.beq; exact Dat.beqs_self ds
  | .lst ds => by unfold Dat.beq; exact Dat.beqs_self ds
theorem Dat.beqs_self : ∀ a : List Dat, Dat.beqs a a = true
  | [] => by unfold Dat.beqs; rfl
  | a :: as => by unfold Dat.beqs; rw [Dat.beq_self a, Dat.beqs_self as]; rfl
end
mutual
def Has (H : Hp) : V → Dat → Prop
  | v, .non => v = .non
  | v, .bl b => v = .bl b
  | v, .int i => v = .int i
  | v, .str x => v = .str x
  | v, .tup ds => ∃ a xs, v = .ref a ∧ H a = some (.tup xs) ∧ HasL H xs ds
  | v, .lst ds => ∃ a xs, v = .ref a ∧ H a = some (.lst xs) ∧ HasL H xs ds
def HasL (H : Hp) : List V → List Dat → Prop
  | [], [] => True
  | x :: xs, d :: ds => Has H x d ∧ HasL H xs ds
  | _ :: _, [] => False
  | [], _ :: _ => False
end
mutual
theorem Has.mono {H H' : Hp} (e : Same H H') : ∀ (d : Dat) {v : V}, Has H v d → Has H' v d
  | .non, _, h => by unfold Has at h ⊢; exact h
  | .bl _, _, h => by unfold Has at h ⊢; exact h
  | .int _, _, h => by unfold Has at h ⊢; exact h
  | .str _, _, h => by unfold Has at h ⊢; exact h
  | .tup ds, _, h => by
    unfold Has at h ⊢
    obtain ⟨a, xs, h1, h2, h3⟩ := h
    exact ⟨a, xs, h1, e _ _ h2, HasL.mono e ds h3⟩
  | .lst ds, _, h => by
    unfold Has at h ⊢
    obtain ⟨a, xs, h1, h2, h3⟩ := h
    exact ⟨a, xs, h1, e _ _ h2, HasL.mono e ds h3⟩
theorem HasL.mono {H H' : Hp} (e : Same H H') : ∀ (ds : List Dat) {xs : List V}, HasL H xs ds → HasL H' xs ds
  | [], [], h => by unfold HasL; trivial
  | [], _ :: _, h => by unfold HasL at h; exact h.elim
  | _ :: _, [], h => by unfold HasL at h; exact h.elim
  | d :: ds, x :: xs, h => by
    unfold HasL at h ⊢
    exact ⟨Has.mono e d h.1, HasL.mono e ds h.2⟩
end
theorem HasL.length {H : Hp} : ∀ {ds : List Dat} {xs : List V}, HasL H xs ds → xs.length = ds.length
  | [], [], h => rfl
  | [], _ :: _, h => by unfold HasL at h; exact h.elim
  | _ :: _, [], h => by unfold HasL at h; exact h.elim
  | d :: ds, x :: xs, h => by
    unfold HasL at h
    rw [List.length_cons, List.length_cons, HasL.length h.2]
theorem HasL.get {H : Hp} : ∀ {ds : List Dat} {xs : List V} {i : Nat} {x : V}, HasL H xs ds → xs[i]? = some x → ∃ d, ds[i]? = some d ∧ Has H x d
  | [], [], i, x, h, e => by simp at e
  | [], _ :: _, _, _, h, _ => by unfold HasL at h; exact h.elim
  | _ :: _, [], _, _, h, _ => by unfold HasL at h; exact h.elim
  | d :: ds, y :: xs, 0, x, h, e => by
    unfold HasL at h
    have e' : some y = some x := e
    cases e'
    exact ⟨d, rfl, h.1⟩
  | d :: ds, y :: xs, i + 1, x, h, e => by
    unfold HasL at h
    exact HasL.get (i := i) h.2 e
theorem HasL.append {H : Hp} : ∀ {ds es : List Dat} {xs ys : List V}, HasL H xs ds → HasL H ys es → HasL H (xs ++ ys) (ds ++ es)
  | [], _, [], _, _, h => h
  | [], _, _ :: _, _, h, _ => by unfold HasL at h; exact h.elim
  | _ :: _, _, [], _, h, _ => by unfold HasL at h; exact h.elim
  | d :: ds, es, x :: xs, ys, h, h' => by
    unfold HasL at h
    show HasL H (x :: (xs ++ ys)) (d :: (ds ++ es))
    unfold HasL
    exact ⟨h.1, HasL.append h.2 h'⟩
theorem HasL.one {H : Hp} {x : V} {d : Dat} (h : Has H x d) : HasL H [x] [d] := by
  unfold HasL; exact ⟨h, by unfold HasL; trivial⟩
theorem HasL.nil {H : Hp} : HasL H [] [] := by unfold HasL; trivial
theorem HasL.cons {H : Hp} {x : V} {d : Dat} {xs : List V} {ds : List Dat} (h : Has H x d) (t : HasL H xs ds) : HasL H (x :: xs) (d :: ds) := by
  unfold HasL; exact ⟨h, t⟩
mutual
theorem Has.inj {H : Hp} : ∀ (d d' : Dat) {v : V}, Has H v d → Has H v d' → d = d'
  | .non, d', _, h, h' => by
    unfold Has at h; subst h
    cases d' <;> unfold Has at h' <;> first | (obtain ⟨_, _, q, _⟩ := h'; cases q; done) | rfl | (cases h'; done)
  | .bl _, d', _, h, h' => by
    unfold Has at h; subst h
    cases d' <;> unfold Has at h' <;> first | (obtain ⟨_, _, q, _⟩ := h'; cases q; done) | (cases h'; done) | (cases h'; rfl)
  | .int _, d', _, h, h' => by
    unfold Has at h; subst h
    cases d' <;> unfold Has at h' <;> first | (obtain ⟨_, _, q, _⟩ := h'; cases q; done) | (cases h'; done) | (cases h'; rfl)
  | .str _, d', _, h, h' => by
    unfold Has at h; subst h
    cases d' <;> unfold Has at h' <;> first | (obtain ⟨_, _, q, _⟩ := h'; cases q; done) | (cases h'; done) | (cases h'; rfl)
  | .tup ds, d', _, h, h' => by
    unfold Has at h
    obtain ⟨a, xs, h1, h2, h3⟩ := h
    subst h1
    cases d' with
    | tup es =>
      unfold Has at h'
      obtain ⟨b, ys, e1, e2, e3⟩ := h'
      cases e1
      rw [h2] at e2
      cases e2
      rw [HasL.inj ds es h3 e3]
    | lst es =>
      unfold Has at h'
      obtain ⟨b, ys, e1, e2, e3⟩ := h'
      cases e1
      rw [h2] at e2
      cases e2
    | _ => unfold Has at h'; cases h'
  | .lst ds, d', _, h, h' => by
    unfold Has at h
    obtain ⟨a, xs, h1, h2, h3⟩ := h
    subst h1
    cases d' with
    | lst es =>
      unfold Has at h'
      obtain ⟨b, ys, e1, e2, e3⟩ := h'
      cases e1
      rw [h2] at e2
      cases e2
      rw [HasL.inj ds es h3 e3]
    | tup es =>
      unfold Has at h'
      obtain ⟨b, ys, e1, e2, e3⟩ := h'
      cases e1
      rw [h2] at e2
      cases e2
    | _ => unfold Has at h'; cases h'
theorem HasL.inj {H : Hp} : ∀ (ds es : List Dat) {xs : List V}, HasL H xs ds → HasL H xs es → ds = es
  | [], [], _, _, _ => rfl
  | [], _ :: _, xs, h, h' => by
    cases xs <;> unfold HasL at h h'
    · exact h'.elim
    · exact h.elim
  | _ :: _, [], xs, h, h' => by
    cases xs <;> unfold HasL at h h'
    · exact h.elim
    · exact h'.elim
  | d :: ds, e :: es, xs, h, h' => by
    cases xs with
    | nil => unfold HasL at h; exact h.elim
    | cons x xs =>
      unfold HasL at h h'
      rw [Has.inj d e h.1 h'.1, HasL.inj ds es h.2 h'.2]
end
theorem has_tyOf {K : PySem.W.Frag} {H : Hp} {v : V} : ∀ {d : Dat}, Has H v d → TyOf K H v (.type (match d with | .non => "NoneType" | .bl _ => "bool" | .int _ => "int" | .str _ => "str" | .tup _ => "tuple" | .lst _ => "list"))
  | .non, h => by unfold Has at h; subst h; exact .non
  | .bl _, h => by unfold Has at h; subst h; exact .bl _
  | .int _, h => by unfold Has at h; subst h; exact .int _
  | .str _, h => by unfold Has at h; subst h; exact .str _
  | .tup _, h => by unfold Has at h; obtain ⟨a, xs, rfl, e, _⟩ := h; exact .tup e
  | .lst _, h => by unfold Has at h; obtain ⟨a, xs, rfl, e, _⟩ := h; exact .lst e
end L2
set_option Elab.async false
set_option linter.all false
set_option maxRecDepth 100000
namespace K4
open PySem L2
def top (i : Nat) : Stmt := PySem.Challenge.pw_wantway_k03_under_and_joined.main.body.getD i (.Pass ⟨0, 0, 0, 0⟩)
abbrev sUnder : Stmt := top 16
abbrev sWhole : Stmt := top 17
abbrev sJoined : Stmt := top 18
abbrev sCell : Stmt := top 20
abbrev sMixed : Stmt := top 21
abbrev sStream : Stmt := top 22
abbrev sTake : Stmt := top 23
abbrev sWords : Stmt := top 24
abbrev sSmall : Stmt := top 25
abbrev sPair : Stmt := top 26
abbrev sKinds : Stmt := top 27
abbrev sSame : Stmt := top 28
abbrev sWorths : Stmt := top 29
abbrev sLUnder : Stmt := top 30
abbrev sLWhole : Stmt := top 31
abbrev sLeast : Stmt := top 32
abbrev sCut : Stmt := top 33
abbrev sJRight : Stmt := top 34
abbrev sRight : Stmt := top 35
abbrev sLaw : Stmt := top 36
theorem scSame : FnScope ["found", "due"] ["found", "due"] (defScope sSame) := ⟨rfl, rfl, rfl, by decide +kernel, rfl, by decide +kernel, by decide +kernel⟩
theorem scTake : FnScope ["stream", "many", "number"] ["stream", "many"] (defScope sTake) := ⟨rfl, rfl, rfl, by decide +kernel, rfl, by decide +kernel, by decide +kernel⟩
end K4
set_option Elab.async false
set_option linter.all false
set_option maxRecDepth 100000
namespace L2
open PySem PySem.Spec PyProof.Rows
theorem kit_no {K : PySem.W.Frag} : ∀ {a b : String}, (a, b) ∈ [("NoneType", "bool"), ("NoneType", "str"), ("NoneType", "int"), ("NoneType", "tuple"), ("NoneType", "list"), ("int", "bool"), ("int", "str"), ("int", "tuple"), ("int", "list"), ("str", "bool"), ("str", "int"), ("str", "tuple"), ("str", "list"), ("bool", "str"), ("bool", "tuple"), ("bool", "list"), ("tuple", "bool"), ("tuple", "str"), ("tuple", "int"), ("tuple", "list"), ("list", "bool"), ("list", "str"), ("list", "int"), ("list", "tuple")] → PySem.W.kitOne K (.type a) (.type b) = some false := by
  intro a b h
  simp only [List.mem_cons, Prod.mk.injEq, List.not_mem_nil, or_false] at h
  rcases h with ⟨rfl, rfl⟩ | ⟨rfl, rfl⟩ | ⟨rfl, rfl⟩ | ⟨rfl, rfl⟩ | ⟨rfl, rfl⟩ | ⟨rfl, rfl⟩ | ⟨rfl, rfl⟩ | ⟨rfl, rfl⟩ | ⟨rfl, rfl⟩ | ⟨rfl, rfl⟩ | ⟨rfl, rfl⟩ | ⟨rfl, rfl⟩ | ⟨rfl, rfl⟩ | ⟨rfl, rfl⟩ | ⟨rfl, rfl⟩ | ⟨rfl, rfl⟩ | ⟨rfl, rfl⟩ | ⟨rfl, rfl⟩ | ⟨rfl, rfl⟩ | ⟨rfl, rfl⟩ | ⟨rfl, rfl⟩ | ⟨rfl, rfl⟩ | ⟨rfl, rfl⟩ | ⟨rfl, rfl⟩ <;> kernel_rfl
theorem boot_tuple' : bootBuiltins "tuple" = some (.type "tuple") := by decide +kernel
theorem boot_list' : bootBuiltins "list" = some (.type "list") := by decide +kernel
theorem boot_str' : bootBuiltins "str" = some (.type "str") := by decide +kernel
theorem boot_int' : bootBuiltins "int" = some (.type "int") := by decide +kernel
theorem boot_bool' : bootBuiltins "bool" = some (.type "bool") := by decide +kernel
theorem boot_dict' : bootBuiltins "dict" = some (.type "dict") := by decide +kernel
theorem boot_isi' : bootBuiltins "isinstance" = some (.builtin "isinstance") := by decide +kernel
theorem boot_all' : bootBuiltins "all" = some (.builtin "all") := by decide +kernel
theorem boot_max' : bootBuiltins "max" = some (.builtin "max") := by decide +kernel
theorem pe_isi {X : Cx} {e : Expr} {te : TE} {T : String} {x : Str} {p p' pos : Pos} (hg : Gl X "isinstance") (hm : X.mg "isinstance" = none) (hg' : Gl X x) (hm' : X.mg x = none) (hv : bootBuiltins x = some (.type T)) (he : PE X e te)
    (hn : x ≠ "__name__" := by decide) (hdb : (x == ("__debug__" : Str)) = false := by decide) (hs : starEach [e, .Name x p'] X.env = (false, eval e X.env) :: starEach [.Name x p'] X.env := by rfl) :
    PE X (.Call (.Name "isinstance" p) [e, .Name x p'] [] pos) (tCB (rIsi X.K) (tCons te (tCons (tC (.ty T)) tNil))) :=
  pe_callB call_isi hg hm boot_isi' (pa_cons he (pa_cons (pe_bltn hg' hm' hv rfl hn hdb) pa_nil) hs) (he := hs)
def tyD : Dat → String
  | .non => "NoneType" | .bl _ => "bool" | .int _ => "int" | .str _ => "str" | .tup _ => "tuple" | .lst _ => "list"
theorem has_ty {K : PySem.W.Frag} {H : Hp} {v : V} {d : Dat} (h : Has H v d) : TyOf K H v (.type (tyD d)) := by
  have q := has_tyOf (K := K) h
  cases d <;> exact q
def isD (T : String) (d : Dat) : Bool := decide (tyD d = T) || (T == "int" && decide (tyD d = "bool"))
theorem kit_of (K : PySem.W.Frag) (d : Dat) {T : String} (hT : T ∈ ["bool", "str", "int", "tuple", "list"]) : PySem.W.kitOne K (.type (tyD d)) (.type T) = some (isD T d) := by
  simp only [List.mem_cons, List.not_mem_nil, or_false] at hT
  rcases hT with rfl | rfl | rfl | rfl | rfl <;> cases d <;> kernel_rfl
end L2
set_option Elab.async false
set_option linter.all false
set_option maxRecDepth 100000
set_option maxHeartbeats 4100000
namespace L2
open PySem
mutual
def Dat.dep : Dat → Nat
  | .tup ds => 1 + Dat.deps ds
  | .lst ds => 1 + Dat.deps ds
  | _ => 0
def Dat.deps : List Dat → Nat
  | [] => 0
  | d :: ds => max d.dep (Dat.deps ds)
end
theorem Dat.deps_get : ∀ {ds : List Dat} {i : Nat} {d : Dat}, ds[i]? = some d → d.dep ≤ Dat.deps ds
  | [], i, d, e => by simp at e
  | a :: ds, 0, d, e => by
    have e' : some a = some d := e
    cases e'
    unfold Dat.deps; exact Nat.le_max_left _ _
  | a :: ds, i + 1, d, e => by
    have q := Dat.deps_get (ds := ds) (i := i) e
    unfold Dat.deps; exact Nat.le_trans q (Nat.le_max_right _ _)
mutual
def Dat.wid : Dat → Nat
  | .tup ds => max ds.length (Dat.wids ds)
  | .lst ds => max ds.length (Dat.wids ds)
  | _ => 0
def Dat.wids : List Dat → Nat
  | [] => 0
  | d :: ds => max d.wid (Dat.wids ds)
end
theorem Dat.wids_get : ∀ {ds : List Dat} {i : Nat} {d : Dat}, ds[i]? = some d → d.wid ≤ Dat.wids ds
  | [], i, d, e => by simp at e
  | a :: ds, 0, d, e => by
    have e' : some a = some d := e
    cases e'
    unfold Dat.wids; exact Nat.le_max_left _ _
  | a :: ds, i + 1, d, e => by
    have q := Dat.wids_get (ds := ds) (i := i) e
    unfold Dat.wids; exact Nat.le_trans q (Nat.le_max_right _ _)
theorem beqs_all : ∀ {as bs : List Dat}, as.length = bs.length → ((List.range as.length).map fun i => ((as[i]?).getD .non).beq ((bs[i]?).getD .non)).all id = Dat.beqs as bs
  | [], [], _ => by unfold Dat.beqs; rfl
  | [], _ :: _, h => by simp at h
  | _ :: _, [], h => by simp at h
  | a :: as, b :: bs, h => by
    have ih := beqs_all (as := as) (bs := bs) (by simpa using h)
    rw [List.length_cons, List.range_succ_eq_map, List.map_cons, List.all_cons, List.map_map]
    unfold Dat.beqs
    rw [← ih]
    rfl
theorem beq_tup (a b : List Dat) : (Dat.tup a).beq (Dat.tup b) = Dat.beqs a b := by
  conv => lhs; unfold Dat.beq
theorem beq_lst (a b : List Dat) : (Dat.lst a).beq (Dat.lst b) = Dat.beqs a b := by
  conv => lhs; unfold Dat.beq
theorem beqs_len : ∀ {as bs : List Dat}, as.length ≠ bs.length → Dat.beqs as bs = false
  | [], [], h => absurd rfl h
  | [], _ :: _, _ => by unfold Dat.beqs; rfl
  | _ :: _, [], _ => by unfold Dat.beqs; rfl
  | a :: as, b :: bs, h => by
    unfold Dat.beqs
    rw [beqs_len (as := as) (bs := bs) fun z => h (by rw [List.length_cons, List.length_cons, z]), Bool.and_false]
theorem iteP {c A B : Prop} [Decidable c] (hc : c) (h : A) : if c then A else B := by
  rw [if_pos hc]; exact h
theorem iteM {c A B : Prop} [Decidable c] (hc : ¬ c) (h : B) : if c then A else B := by
  rw [if_neg hc]; exact h
theorem comp_form {J : It} {g : TG} {te : TE} {s0 : St} {Q : VK} {H : Hp} (n : Nat) (hn : n < sizeLine) (Pv : Nat → List V → Hp → Prop) (h0 : Pv 0 [] H) (hlen : ∀ i vs H, Pv i vs H → vs.length = i)
    (hgo : ∀ i vs H, i < n → Pv i vs H → J.go i H) (hstop : ∀ vs H, Pv n vs H → J.stop n H)
    (hs : ∀ i vs H x H' (R : V → Hp → Prop), i < n → Pv i vs H → J.yld i H x H' → (∀ v H3, Pv (i + 1) (vs ++ [v]) H3 → R v H3) → g x s0 H' fun s2 H2 => te s2 H2 R)
    (hd : ∀ vs H p, Pv n vs H → H p = none → Q (.ref p) (upd H p (.lst vs))) :
    CompW J g te s0 Q H := by
  refine ⟨fun i m vs H => m = n - i ∧ i ≤ n ∧ Pv i vs H, ⟨n, by simp, Nat.zero_le _, h0⟩, ?_⟩
  rintro i m vs H ⟨rfl, hi, p⟩
  have hl := hlen i vs H p
  refine ⟨by omega, ?_⟩
  by_cases hlt : i < n
  · exact .inr ⟨hgo i vs H hlt p, fun x H' y => hs i vs H x H' _ hlt p y fun v H3 p3 => ⟨n - (i + 1), by omega, rfl, hlt, p3⟩⟩
  · have e : i = n := by omega
    subst e
    exact .inl ⟨hstop vs H p, fun a ha => hd vs H a p ha⟩
theorem same_upd {H : Hp} {p : Addr} (h : H p = none) (o : HO) : Same H (upd H p o) := fun b u q => by rw [upd_ne (ne_of_none q h)]; exact q
theorem range_map_snoc {α : Type} (f : Nat → α) (i : Nat) : (List.range i).map f ++ [f i] = (List.range (i + 1)).map f := by
  rw [List.range_succ, List.map_append]; rfl
structure Blt (mg : Str → Option Value) : Prop where
  len : mg "len" = none
  isi : mg "isinstance" = none
  bool : mg "bool" = none
  str : mg "str" = none
  int : mg "int" = none
  tuple : mg "tuple" = none
  list : mg "list" = none
  dict : mg "dict" = none
  all : mg "all" = none
  zip : mg "zip" = none
  max : mg "max" = none
  range : mg "range" = none
  sorted : mg "sorted" = none
end L2
namespace K4
open PySem L2
section
variable {P : Program} {w : World} {K : PySem.W.Frag} {mg : Str → Option Value} {base : Heap} {f : Addr} {fd : FuncData}
theorem nd_two : List.Nodup [("one" : Str), "other"] := by decide +kernel
theorem gk_two {K : PySem.W.Frag} : GK 2 (gTup K 2 (gCons (gName 0) (gCons (gName 1) gNil))) :=
  gk_tup (gk_cons (gk_name (i := 0) (by decide)) (gk_cons (gk_name (i := 1) (by decide)) gk_nil (fun _ _ _ _ _ h z => h _ _ z) (fun _ _ _ _ _ h z => ⟨z.1, h _ _ z.2⟩)) (fun _ _ _ _ _ h z => h _ _ z)
    (fun _ _ _ _ _ h z => let ⟨v, r, e, z⟩ := z; ⟨v, r, e, z.1, h _ _ z.2⟩))
def spSame (n : Nat) : Sp := fun vs H Q _ => ∃ x y dx dy, vs = [x, y] ∧ Has H x dx ∧ Has H y dy ∧ dy.dep < n ∧ dy.wid ≤ 1000 ∧ ∀ H', Same H H' → Q (.bl (dx.beq dy)) H'
theorem ok_same {n : Nat} (B : Blt mg) (F : Fun K "_law_same" "_law_same" sSame f fd) (G : FnOk P w K mg base CX0 n f fd ["found", "due"] (spSame n)) (bG : Binds K fd ["found", "due"] []) (mG : mg "_law_same" = some (.ref f)) :
    FnOk P w K mg base CX0 (n + 1) f fd ["found", "due"] (spSame (n + 1)) := by
  refine F.ok scSame (fun vs H Q E h => ?_) (fun cdv A outer s H vs Q E hr h => ?_)
  · obtain ⟨x, y, dx, dy, rfl, _⟩ := h
    rfl
  obtain ⟨x, y, dx, dy, rfl, hx, hy, hd, hw, q⟩ := h
  refine ⟨_, pss_cons (ps_if (pt_cmpR op_isN (pv 1) pe_non (nomark _)) (pss_one (ps_ret (pe_cmpR op_isN (pv 0) pe_non (nomark _)))) pss_nil)
    (pss_cons (ps_if (pt_val (pe_isi rfl B.isi rfl B.bool boot_bool' (pv 1))) (pss_one (ps_ret (pe_and (pe_isi rfl B.isi rfl B.bool boot_bool' (pv 0)) (pe_one (pe_cmpR op_eq (pv 0) (pv 1) (nomark _)))))) pss_nil)
    (pss_cons (ps_if (pt_val (pe_isi rfl B.isi rfl B.str boot_str' (pv 1))) (pss_one (ps_ret (pe_and (pe_isi rfl B.isi rfl B.str boot_str' (pv 0)) (pe_one (pe_cmpR op_eq (pv 0) (pv 1) (nomark _)))))) pss_nil)
    (pss_cons (ps_if (pt_val (pe_isi rfl B.isi rfl B.int boot_int' (pv 1))) (pss_one (ps_ret (pe_and (pe_isi rfl B.isi rfl B.int boot_int' (pv 0)) (pe_and (pe_not (pe_isi rfl B.isi rfl B.bool boot_bool' (pv 0))) (pe_one (pe_cmpR op_eq (pv 0) (pv 1) (nomark _))))))) pss_nil)
    (pss_cons (ps_if (PW.pt (pw_or (PW.pt (pw_and (pt_val (pe_isi rfl B.isi rfl B.tuple boot_tuple' (pv 1))) (pw_and1 (pt_not (pt_val (pe_isi rfl B.isi rfl B.tuple boot_tuple' (pv 0)))))))
        (pw_or1 (PW.pt (pw_and (pt_val (pe_isi rfl B.isi rfl B.list boot_list' (pv 1))) (pw_and1 (pt_not (pt_val (pe_isi rfl B.isi rfl B.list boot_list' (pv 0)))))))))) (pss_one (ps_ret pe_bl)) pss_nil)
    (pss_cons (ps_if (pt_cmpR op_ne (pe_callB call_len_seq rfl B.len PySem.boot_len (pa_cons (pv 0) pa_nil)) (pe_callB call_len_seq rfl B.len PySem.boot_len (pa_cons (pv 1) pa_nil)) (nomark _)) (pss_one (ps_ret pe_bl)) pss_nil)
    (pss_one (ps_ret (pe_callB (call_all rfl) rfl B.all boot_all' (pa_cons (pe_cmpr ["one", "other"] [] (pi_zip rfl B.zip (pa_cons (pv 0) (pa_cons (pv 1) pa_nil))) gk_two
        (fun cl C fp s H => pg_tup (n := 2) rfl (pgs_cons (pg_name (i := 0) nd_two rfl (Or.inl rfl) (Or.inr rfl)) (pgs_cons (pg_name (i := 1) nd_two rfl (Or.inl rfl) (Or.inr rfl)) pgs_nil)))
        (fun cl C fp s H => pe_call G hr rfl mG F.kp bG .nil pass0 (pa_cons (pv 0) (pa_cons (pv 1) pa_nil)))) pa_nil))))))))), ?_⟩
  have tY := has_ty (K := K) hy
  have tX := has_ty (K := K) hx
  have fin : ∀ k, k = dx.beq dy → Q (.bl k) H := fun k e => by rw [e]; exact q H (Same.refl _)
  -- due is None
  refine ⟨_, rfl, rfl, _, rfl, ?_⟩
  refine ite2 (fun c => ?_) (fun c => ?_)
  · have ey : y = .non := of_decide_eq_true c
    have ed : dy = .non := Has.inj dy .non hy (by unfold Has; exact ey)
    subst ed
    refine ⟨_, rfl, rfl, fin _ ?_⟩
    cases dx <;> unfold Has at hx
    · rw [hx]; rfl
    · rw [hx]; rfl
    · rw [hx]; rfl
    · rw [hx]; rfl
    · obtain ⟨a, xs, rfl, _⟩ := hx; rfl
    · obtain ⟨a, xs, rfl, _⟩ := hx; rfl
  have ny : dy ≠ .non := fun z => by
    subst z
    unfold Has at hy
    exact c (decide_eq_true hy)
  -- a truth
  refine ⟨_, rfl, _, _, _, _, rfl, tY, kit_of K dy (by simp), _, rfl, ?_⟩
  refine ite2 (fun c1 => ?_) (fun c1 => ?_)
  · cases dy <;> simp [isD, tyD] at c1
    rename_i b
    have ey : y = .bl b := by unfold Has at hy; exact hy
    subst ey
    refine ⟨_, rfl, _, _, _, _, rfl, tX, kit_of K dx (by simp), _, rfl, ?_⟩
    refine ite2 (fun c2 => ?_) (fun c2 => ?_)
    · cases dx <;> simp [isD, tyD] at c2
      rename_i a
      have ex : x = .bl a := by unfold Has at hx; exact hx
      subst ex
      refine ⟨_, rfl, _, rfl, rfl, fin _ ?_⟩
      rw [dec_bl]; unfold Dat.beq; rfl
    · refine fin _ ?_
      cases dx <;> first | (simp [isD, tyD] at c2; done) | (unfold Dat.beq; rfl)
  -- a text
  refine ⟨_, rfl, _, _, _, _, rfl, tY, kit_of K dy (by simp), _, rfl, ?_⟩
  refine ite2 (fun c2 => ?_) (fun c2 => ?_)
  · cases dy <;> simp [isD, tyD] at c2
    rename_i b
    have ey : y = .str b := by unfold Has at hy; exact hy
    subst ey
    refine ⟨_, rfl, _, _, _, _, rfl, tX, kit_of K dx (by simp), _, rfl, ?_⟩
    refine ite2 (fun c3 => ?_) (fun c3 => ?_)
    · cases dx <;> simp [isD, tyD] at c3
      rename_i a
      have ex : x = .str a := by unfold Has at hx; exact hx
      subst ex
      refine ⟨_, rfl, _, rfl, rfl, fin _ ?_⟩
      rw [dec_str]; unfold Dat.beq; rfl
    · refine fin _ ?_
      cases dx <;> first | (simp [isD, tyD] at c3; done) | (unfold Dat.beq; rfl)
  -- an int
  refine ⟨_, rfl, _, _, _, _, rfl, tY, kit_of K dy (by simp), _, rfl, ?_⟩
  refine ite2 (fun c3 => ?_) (fun c3 => ?_)
  · cases dy <;> simp [isD, tyD] at c3 c1
    rename_i b
    have ey : y = .int b := by unfold Has at hy; exact hy
    subst ey
    refine ⟨_, rfl, _, _, _, _, rfl, tX, kit_of K dx (by simp), _, rfl, ?_⟩
    refine ite2 (fun c4 => ?_) (fun c4 => ?_)
    · refine ⟨_, rfl, _, _, _, _, rfl, tX, kit_of K dx (by simp), _, rfl, _, rfl, ?_⟩
      refine ite2 (fun c5 => ?_) (fun c5 => ?_)
      · cases dx <;> simp [isD, tyD] at c4 c5
        rename_i a
        have ex : x = .int a := by unfold Has at hx; exact hx
        subst ex
        refine ⟨_, rfl, _, rfl, rfl, fin _ ?_⟩
        rw [dec_int]; unfold Dat.beq; rfl
      · refine fin _ ?_
        cases dx <;> first | (simp [isD, tyD] at c4 c5; done) | (unfold Dat.beq; rfl)
    · refine fin _ ?_
      cases dx <;> first | (simp [isD, tyD] at c4; done) | (unfold Dat.beq; rfl)
  cases dy with
  | non => exact absurd rfl ny
  | bl b => simp [isD, tyD] at c1
  | int b => simp [isD, tyD] at c3
  | str b => simp [isD, tyD] at c2
  | tup es =>
    have hlt : Dat.deps es < n := by unfold Dat.dep at hd; omega
    have hw1 : es.length ≤ 1000 := by unfold Dat.wid at hw; exact Nat.le_trans (Nat.le_max_left _ _) hw
    have hw2 : Dat.wids es ≤ 1000 := by unfold Dat.wid at hw; exact Nat.le_trans (Nat.le_max_right _ _) hw
    refine ⟨_, rfl, _, _, _, _, rfl, tY, kit_of K _ (by simp), _, rfl, ?_⟩
    refine iteP rfl ?_
    refine ⟨_, rfl, _, _, _, _, rfl, tX, kit_of K dx (by simp), _, rfl, ?_⟩
    refine ite2 (fun c4 => ?_) (fun c4 => ?_)
    · refine iteP rfl (fin _ ?_)
      cases dx <;> first | (simp [isD, tyD] at c4; done) | (unfold Dat.beq; rfl)
    refine ⟨_, rfl, _, _, _, _, rfl, tY, kit_of K _ (by simp), _, rfl, ?_⟩
    refine iteM (by simp [isD, tyD]) (iteM (by simp) ?_)
    cases dx <;> simp [isD, tyD] at c4
    rename_i ds
    unfold Has at hx hy
    obtain ⟨a, xs, rfl, ha, hxs⟩ := hx
    obtain ⟨b, ys, rfl, hb, hys⟩ := hy
    have l1 := hxs.length
    have l2 := hys.length
    refine ⟨_, rfl, a, xs, rfl, .inr (SqT.of ha), _, rfl, b, ys, rfl, .inr (SqT.of hb), rfl, _, rfl, ?_⟩
    refine ite2 (fun c5 => ?_) (fun c5 => ?_)
    · refine fin _ ?_
      have ne : xs.length ≠ ys.length := fun z => by rw [z] at c5; simp at c5
      unfold Dat.beq
      rw [beqs_len (by rw [← l1, ← l2]; exact ne)]
    have el : xs.length = ys.length := by
      apply Classical.byContradiction
      intro z
      refine c5 ?_
      have z' : ¬ V.int (xs.length : Nat) = V.int (ys.length : Nat) := fun w => by injection w with w; exact z (by omega)
      rw [decide_eq_false z']; rfl
    have hsz : xs.length < sizeLine := small1000 (by omega)
    refine ⟨_, rfl, _, rfl, a, b, true, true, xs, ys, rfl, SqT.of ha, SqT.of hb, ?_⟩
    refine comp_form xs.length hsz (fun i vs H' => Same H H' ∧ vs = (List.range i).map fun j => V.bl (((ds[j]?).getD .non).beq ((es[j]?).getD .non))) ⟨Same.refl _, rfl⟩ (fun i vs H' z => by rw [z.2]; simp) ?_ ?_ ?_ ?_
    · intro i vs H' hi z
      exact ⟨xs, ys, xs[i], ys[i], SqT.of (z.1 _ _ ha), SqT.of (z.1 _ _ hb), by simp [hi], by simp [← el, hi]⟩
    · intro vs H' z
      exact ⟨xs, ys, SqT.of (z.1 _ _ ha), SqT.of (z.1 _ _ hb), .inl (Nat.le_refl _)⟩
    · intro i vs H' x H'' R hi z yl hR
      obtain ⟨p, x1, y1, rfl, hp, rfl, g1, g2⟩ := yl
      have e1 := g1 xs (SqT.of (z.1 _ _ ha))
      have e2 := g2 ys (SqT.of (z.1 _ _ hb))
      obtain ⟨d1, hd1, hh1⟩ := hxs.get e1
      obtain ⟨d2, hd2, hh2⟩ := hys.get e2
      have s1 := z.1.trans (same_upd hp (.tup [x1, y1]))
      refine ⟨p, [x1, y1], rfl, SqT.of upd_same, rfl, x1, [y1], rfl, y1, [], rfl, rfl, ?_⟩
      refine ⟨_, rfl, _, rfl, x1, y1, d1, d2, rfl, hh1.mono s1, hh2.mono s1, Nat.lt_of_le_of_lt (Dat.deps_get hd2) hlt, Nat.le_trans (Dat.wids_get hd2) hw2, fun H3 s3 => hR _ _ ⟨s1.trans s3, ?_⟩⟩
      rw [z.2, ← range_map_snoc, hd1, hd2]
      rfl
    · intro vs H' p z hp
      refine ⟨p, (List.range xs.length).map fun j => ((ds[j]?).getD .non).beq ((es[j]?).getD .non), rfl, SqL.of (by rw [upd_same, z.2, List.map_map]; rfl), ?_⟩
      have e : ((List.range xs.length).map fun j => ((ds[j]?).getD .non).beq ((es[j]?).getD .non)).all id = (Dat.tup ds).beq (Dat.tup es) := by
        rw [beq_tup, ← beqs_all (by rw [← l1, ← l2]; exact el), l1]
      rw [e]
      exact q _ (z.1.trans (same_upd hp _))
  | lst es =>
    have hlt : Dat.deps es < n := by unfold Dat.dep at hd; omega
    have hw1 : es.length ≤ 1000 := by unfold Dat.wid at hw; exact Nat.le_trans (Nat.le_max_left _ _) hw
    have hw2 : Dat.wids es ≤ 1000 := by unfold Dat.wid at hw; exact Nat.le_trans (Nat.le_max_right _ _) hw
    refine ⟨_, rfl, _, _, _, _, rfl, tY, kit_of K _ (by simp), _, rfl, ?_⟩
    refine iteM (by simp [isD, tyD]) (iteM (by simp) ?_)
    refine ⟨_, rfl, _, _, _, _, rfl, tY, kit_of K _ (by simp), _, rfl, ?_⟩
    refine iteP rfl ?_
    refine ⟨_, rfl, _, _, _, _, rfl, tX, kit_of K dx (by simp), _, rfl, ?_⟩
    refine ite2 (fun c4 => ?_) (fun c4 => ?_)
    · refine fin _ ?_
      cases dx <;> first | (simp [isD, tyD] at c4; done) | (unfold Dat.beq; rfl)
    cases dx <;> simp [isD, tyD] at c4
    rename_i ds
    unfold Has at hx hy
    obtain ⟨a, xs, rfl, ha, hxs⟩ := hx
    obtain ⟨b, ys, rfl, hb, hys⟩ := hy
    have l1 := hxs.length
    have l2 := hys.length
    refine ⟨_, rfl, a, xs, rfl, .inl (SqL.of ha), _, rfl, b, ys, rfl, .inl (SqL.of hb), rfl, _, rfl, ?_⟩
    refine ite2 (fun c5 => ?_) (fun c5 => ?_)
    · refine fin _ ?_
      have ne : xs.length ≠ ys.length := fun z => by rw [z] at c5; simp at c5
      unfold Dat.beq
      rw [beqs_len (by rw [← l1, ← l2]; exact ne)]
    have el : xs.length = ys.length := by
      apply Classical.byContradiction
      intro z
      refine c5 ?_
      have z' : ¬ V.int (xs.length : Nat) = V.int (ys.length : Nat) := fun w => by injection w with w; exact z (by omega)
      rw [decide_eq_false z']; rfl
    have hsz : xs.length < sizeLine := small1000 (by omega)
    refine ⟨_, rfl, _, rfl, a, b, false, false, xs, ys, rfl, SqL.of ha, SqL.of hb, ?_⟩
    refine comp_form xs.length hsz (fun i vs H' => Same H H' ∧ vs = (List.range i).map fun j => V.bl (((ds[j]?).getD .non).beq ((es[j]?).getD .non))) ⟨Same.refl _, rfl⟩ (fun i vs H' z => by rw [z.2]; simp) ?_ ?_ ?_ ?_
    · intro i vs H' hi z
      exact ⟨xs, ys, xs[i], ys[i], SqL.of (z.1 _ _ ha), SqL.of (z.1 _ _ hb), by simp [hi], by simp [← el, hi]⟩
    · intro vs H' z
      exact ⟨xs, ys, SqL.of (z.1 _ _ ha), SqL.of (z.1 _ _ hb), .inl (Nat.le_refl _)⟩
    · intro i vs H' x H'' R hi z yl hR
      obtain ⟨p, x1, y1, rfl, hp, rfl, g1, g2⟩ := yl
      have e1 := g1 xs (SqL.of (z.1 _ _ ha))
      have e2 := g2 ys (SqL.of (z.1 _ _ hb))
      obtain ⟨d1, hd1, hh1⟩ := hxs.get e1
      obtain ⟨d2, hd2, hh2⟩ := hys.get e2
      have s1 := z.1.trans (same_upd hp (.tup [x1, y1]))
      refine ⟨p, [x1, y1], rfl, SqT.of upd_same, rfl, x1, [y1], rfl, y1, [], rfl, rfl, ?_⟩
      refine ⟨_, rfl, _, rfl, x1, y1, d1, d2, rfl, hh1.mono s1, hh2.mono s1, Nat.lt_of_le_of_lt (Dat.deps_get hd2) hlt, Nat.le_trans (Dat.wids_get hd2) hw2, fun H3 s3 => hR _ _ ⟨s1.trans s3, ?_⟩⟩
      rw [z.2, ← range_map_snoc, hd1, hd2]
      rfl
    · intro vs H' p z hp
      refine ⟨p, (List.range xs.length).map fun j => ((ds[j]?).getD .non).beq ((es[j]?).getD .non), rfl, SqL.of (by rw [upd_same, z.2, List.map_map]; rfl), ?_⟩
      have e : ((List.range xs.length).map fun j => ((ds[j]?).getD .non).beq ((es[j]?).getD .non)).all id = (Dat.lst ds).beq (Dat.lst es) := by
        rw [beq_lst, ← beqs_all (by rw [← l1, ← l2]; exact el), l1]
      rw [e]
      exact q _ (z.1.trans (same_upd hp _))
theorem same_zero : FnOk P w K mg base CX0 0 f fd ["found", "due"] (spSame 0) := by
  have no : ∀ vs H Q E, ¬ spSame 0 vs H Q E := fun vs H Q E h => by
    obtain ⟨x, y, dx, dy, _, _, _, h1, _⟩ := h
    omega
  exact ⟨fun vs H Q E h => absurd h (no vs H Q E), fun A outer s H args us vs Q E _ _ _ _ h => absurd h (no vs H Q E)⟩
theorem same_ok (B : Blt mg) (F : Fun K "_law_same" "_law_same" sSame f fd) (bG : Binds K fd ["found", "due"] []) (mG : mg "_law_same" = some (.ref f)) : ∀ n : Nat, FnOk P w K mg base CX0 n f fd ["found", "due"] (spSame n)
  | 0 => same_zero
  | n + 1 => ok_same B F (same_ok B F bG mG n) bG mG
end
end K4
set_option Elab.async false
set_option linter.all false
set_option maxRecDepth 100000
set_option maxHeartbeats 4100000
namespace L2
open PySem
inductive W where
  | non | tag (x : Str) | pair (a b : W)
def W.dat : W → Dat
  | .non => .non
  | .tag x => .str x
  | .pair a b => .tup [a.dat, b.dat]
theorem has_pair {H : Hp} {v : V} {a b : W} (h : Has H v (W.pair a b).dat) : ∃ p x y, v = .ref p ∧ H p = some (.tup [x, y]) ∧ Has H x a.dat ∧ Has H y b.dat := by
  unfold W.dat Has at h
  obtain ⟨p, xs, rfl, hp, hl⟩ := h
  match xs, hl with
  | [x, y], hl =>
    unfold HasL at hl
    obtain ⟨h1, h2⟩ := hl
    unfold HasL at h2
    exact ⟨p, x, y, rfl, hp, h1, h2.1⟩
  | [], hl => unfold HasL at hl; exact hl.elim
  | [x], hl => unfold HasL at hl; obtain ⟨_, h2⟩ := hl; unfold HasL at h2; exact h2.elim
  | _ :: _ :: _ :: _, hl =>
    unfold HasL at hl; obtain ⟨_, h2⟩ := hl; unfold HasL at h2; obtain ⟨_, h3⟩ := h2; unfold HasL at h3; exact h3.elim
theorem has_non {H : Hp} : Has H .non W.non.dat := by unfold W.dat Has; rfl
end L2
set_option Elab.async false
set_option linter.all false
set_option maxRecDepth 100000
set_option maxHeartbeats 4100000
namespace L2
open PySem
def W.dep : W → Nat
  | .non => 0
  | .tag _ => 0
  | .pair a b => 1 + max a.dep b.dep
theorem has_lst {H : Hp} {v : V} {ds : List Dat} (h : Has H v (.lst ds)) : ∃ a xs, v = .ref a ∧ H a = some (.lst xs) ∧ HasL H xs ds := by unfold Has at h; exact h
theorem lst_has {H : Hp} {a : Addr} {xs : List V} {ds : List Dat} (h : H a = some (.lst xs)) (t : HasL H xs ds) : Has H (.ref a) (.lst ds) := by unfold Has; exact ⟨a, xs, rfl, h, t⟩
end L2
set_option Elab.async false
set_option linter.all false
set_option maxRecDepth 100000
set_option maxHeartbeats 4100000
namespace L2
open PySem
def Strm (H : Hp) (p : Addr) : Prop := ∃ (a : Int) (b : Bool) (c d : Int), H p = some (.lst [.int a, .bl b, .int c, .int d])
def But (p : Addr) (H H' : Hp) : Prop := ∀ b, b ≠ p → H' b = H b
theorem But.trans {p : Addr} {H H1 H2 : Hp} (a : But p H H1) (b : But p H1 H2) : But p H H2 := fun c h => (b c h).trans (a c h)
theorem But.upd {p : Addr} {H : Hp} (o : HO) : But p H (upd H p o) := fun _ h => upd_ne h
end L2
namespace K4
open PySem L2
theorem scCell : FnScope ["script", "k"] ["script", "k"] (defScope sCell) := ⟨rfl, rfl, rfl, by decide +kernel, rfl, by decide +kernel, by decide +kernel⟩
theorem scMixed : FnScope ["cell", "k", "number"] ["cell", "k"] (defScope sMixed) := ⟨rfl, rfl, rfl, by decide +kernel, rfl, by decide +kernel, by decide +kernel⟩
theorem scStream : FnScope ["cell"] ["cell"] (defScope sStream) := ⟨rfl, rfl, rfl, by decide +kernel, rfl, by decide +kernel, by decide +kernel⟩
section
variable {P : Program} {w : World} {K : PySem.W.Frag} {mg : Str → Option Value} {base : Heap} {f g : Addr} {fd gd : FuncData}
def spCell (K : PySem.W.Frag) : Sp := fun vs H Q _ => ∃ (a : Addr) (ns : List Int) (k : Int), vs = [.ref a, .int k] ∧ SqL K H a (ns.map V.int) ∧ 0 ≤ k ∧ ∀ c : Int, Q (.int c) H
theorem ok_cell {n : Nat} (B : Blt mg) (F : Fun K "_law_cell" "_law_cell" sCell f fd) : FnOk P w K mg base CX0 (n + 1) f fd ["script", "k"] (spCell K) := by
  refine F.ok scCell (fun vs H Q E h => ?_) (fun cdv A outer s H vs Q E hr h => ?_)
  · obtain ⟨a, ns, k, rfl, _⟩ := h
    rfl
  obtain ⟨a, ns, k, rfl, hq, h0, q⟩ := h
  refine ⟨_, pss_cons (ps_if (pt_cmpR op_lt (pv 1) (pe_callB call_len_seq rfl B.len PySem.boot_len (pa_cons (pv 0) pa_nil)) (nomark _)) (pss_one (ps_ret (pe_ix ix_list (pv 0) (pv 1) (fun _ _ => rfl)))) pss_nil) (pss_one (ps_ret pe_int)), ?_⟩
  refine ⟨_, rfl, _, rfl, a, _, rfl, .inl hq, _, _, rfl, rfl, _, rfl, ?_⟩
  refine ite2 (fun c => ?_) (fun c => ?_)
  · have c' : k < ((ns.map V.int).length : Nat) := of_decide_eq_true c
    rw [List.length_map] at c'
    have hk : k.toNat < ns.length := by omega
    have ek : k = ((k.toNat : Nat) : Int) := by omega
    have e : atI (ns.map V.int) ((k.toNat : Nat) : Int) = some (.int ns[k.toNat]) := atI_nat (by rw [List.getElem?_map, List.getElem?_eq_getElem hk]; rfl)
    rw [← ek] at e
    exact ⟨_, rfl, _, rfl, a, _, _, _, rfl, rfl, hq, e, q _⟩
  · exact q _
def spMixed : Sp := fun vs H Q _ => ∃ (c k : Int), vs = [.int c, .int k] ∧ ∀ r : Int, 0 ≤ r → r < 2147483563 → Q (.int r) H
theorem ok_mixed {n : Nat} (F : Fun K "_law_mixed" "_law_mixed" sMixed f fd) : FnOk P w K mg base CX0 (n + 1) f fd ["cell", "k"] spMixed := by
  refine F.ok scMixed (fun vs H Q E h => ?_) (fun cdv A outer s H vs Q E hr h => ?_)
  · obtain ⟨c, k, rfl, _⟩ := h
    rfl
  obtain ⟨c, k, rfl, q⟩ := h
  refine ⟨_, pss_cons (ps_set (i := 2) scMixed.nd rfl (Or.inl rfl) (pe_op op_mod (pe_op op_add (pe_op op_add (pe_op op_mul (pe_op op_mod (pv 0) pe_int) pe_int) (pe_op op_mul pe_int (pv 1))) pe_int) pe_int))
    (pss_cons (ps_set (i := 2) scMixed.nd rfl (Or.inl rfl) (pe_op op_mod (pe_op op_add (pe_op op_add (pe_op op_mul (pv 2) (pv 2)) (pe_op op_mul pe_int (pv 1))) pe_int) pe_int))
    (pss_one (ps_ret (pe_op op_mod (pe_op op_mul (pv 2) (pe_op op_add (pv 2) pe_int)) pe_int)))), ?_⟩
  have m1 := Int.emod_nonneg c (show (2147483647 : Int) ≠ 0 by decide)
  have m2 := Int.emod_lt_of_pos c (show (0 : Int) < 2147483647 by decide)
  refine ⟨_, rfl, _, _, rfl, rfl, (by show (0 : Int) < _; decide), _, _, rfl, rfl, .inl ⟨by omega, by omega⟩, _, rfl, _, _, rfl, rfl, .inl ⟨by decide, by decide⟩, _, _, rfl, rfl, _, _, rfl, rfl, _, _, rfl, rfl, (by show (0 : Int) < _; decide), ?_⟩
  generalize hx : (c % 2147483647 * 48271 + 69621 * k + 7919) % 2147483629 = x
  have x1 : 0 ≤ x := by rw [← hx]; exact Int.emod_nonneg _ (by decide)
  have x2 : x < 2147483629 := by rw [← hx]; exact Int.emod_lt_of_pos _ (by decide)
  refine ⟨_, rfl, _, rfl, _, _, rfl, rfl, .inl ⟨by omega, by omega⟩, _, rfl, _, _, rfl, rfl, .inl ⟨by decide, by decide⟩, _, _, rfl, rfl, _, _, rfl, rfl, _, _, rfl, rfl, (by show (0 : Int) < _; decide), ?_⟩
  generalize hy : (x * x + 31 * k + 5) % 2147483587 = y
  have y1 : 0 ≤ y := by rw [← hy]; exact Int.emod_nonneg _ (by decide)
  have y2 : y < 2147483587 := by rw [← hy]; exact Int.emod_lt_of_pos _ (by decide)
  refine ⟨_, rfl, _, rfl, _, _, rfl, rfl, _, _, rfl, rfl, .inl ⟨by omega, by omega⟩, _, _, rfl, rfl, (by show (0 : Int) < _; decide), ?_⟩
  exact q _ (Int.emod_nonneg _ (by decide)) (Int.emod_lt_of_pos _ (by decide))
def spStream : Sp := fun vs H Q _ => ∃ (c : Int), vs = [.int c] ∧ ∀ p H', H p = none → But p H H' → Strm H' p → Q (.ref p) H'
theorem ok_stream {n : Nat} (F : Fun K "_law_stream" "_law_stream" sStream f fd) : FnOk P w K mg base CX0 (n + 1) f fd ["cell"] spStream := by
  refine F.ok scStream (fun vs H Q E h => ?_) (fun cdv A outer s H vs Q E hr h => ?_)
  · obtain ⟨c, rfl, _⟩ := h
    rfl
  obtain ⟨c, rfl, q⟩ := h
  refine ⟨_, pss_one (ps_ret (pe_lst (pa_cons (pv 0) (pa_cons (pe_or (pe_cmpR op_ge (pv 0) (pe_op op_pow pe_int pe_int) (nomark _)) (pe_one (pe_cmpR op_le (pv 0) (pe_un un_neg (pe_op op_pow pe_int pe_int)) (nomark _)))) (pa_cons pe_int (pa_cons (pe_op op_mod (pv 0) pe_int) pa_nil)))))), ?_⟩
  have cp : CPow 10 18 := ⟨by decide, by decide, by decide⟩
  refine ⟨_, rfl, _, rfl, _, _, rfl, rfl, cp, _, _, rfl, rfl, _, rfl, ?_⟩
  refine ite2 (fun _ => ?_) (fun _ => ?_)
  · refine ⟨_, rfl, _, _, rfl, rfl, (by show (0 : Int) < _; decide), by show 4 ≤ sizeLine; decide, fun p hp => ?_⟩
    exact q p _ hp (But.upd _) ⟨_, _, _, _, upd_same⟩
  · refine ⟨_, rfl, _, _, rfl, rfl, cp, _, rfl, _, _, rfl, rfl, ?_⟩
    refine ⟨_, rfl, _, _, rfl, rfl, (by show (0 : Int) < _; decide), by show 4 ≤ sizeLine; decide, fun p hp => ?_⟩
    exact q p _ hp (But.upd _) ⟨_, _, _, _, upd_same⟩
def spTake : Sp := fun vs H Q _ => ∃ (p : Addr) (many : Int), vs = [.ref p, .int many] ∧ Strm H p ∧ 0 < many ∧ many < 1073741824 ∧ ∀ (r : Int) (H' : Hp), 0 ≤ r → r < many → But p H H' → Strm H' p → Q (.int r) H'
theorem ok_take {n : Nat} (F : Fun K "_law_take" "_law_take" sTake f fd) (G : FnOk P w K mg base CX0 n g gd ["cell", "k"] spMixed) (bG : Binds K gd ["cell", "k"] []) (kG : PySem.W.keepIn K (.ref g) = true) (mG : mg "_law_mixed" = some (.ref g)) :
    FnOk P w K mg base CX0 (n + 1) f fd ["stream", "many"] spTake := by
  refine F.ok scTake (fun vs H Q E h => ?_) (fun cdv A outer s H vs Q E hr h => ?_)
  · obtain ⟨p, many, rfl, _⟩ := h
    rfl
  obtain ⟨p, many, rfl, ⟨a, b, c, d, hp⟩, m0, m1, q⟩ := h
  refine ⟨_, pss_cons (ps_if (pt_val (pe_ix ix_list (pv 0) pe_int (fun _ _ => rfl)))
      (pss_cons (ps_set (i := 2) scTake.nd rfl (Or.inl rfl) (pe_op op_mod (pe_ix ix_list (pv 0) pe_int (fun _ _ => rfl)) (pv 1)))
      (pss_cons (ps_asg (pe_op op_fdiv (pe_ix ix_list (pv 0) pe_int (fun _ _ => rfl)) (pv 1)) (pg_sub (pv 0) pe_int set_list))
      (pss_cons (ps_asg (pe_and (pe_cmpR op_ne (pe_ix ix_list (pv 0) pe_int (fun _ _ => rfl)) pe_int (nomark _)) (pe_one (pe_cmpR op_ne (pe_ix ix_list (pv 0) pe_int (fun _ _ => rfl)) (pe_un un_neg pe_int) (nomark _)))) (pg_sub (pv 0) pe_int set_list))
      (pss_one (ps_ret (pv 2)))))) pss_nil)
    (pss_cons (ps_asg (pe_op op_add (pe_ix ix_list (pv 0) pe_int (fun _ _ => rfl)) pe_int) (pg_sub (pv 0) pe_int set_list))
    (pss_one (ps_ret (pe_op op_mod (pe_op op_fdiv (pe_call G hr rfl mG kG bG .nil pass0 (pa_cons (pe_ix ix_list (pv 0) pe_int (fun _ _ => rfl)) (pa_cons (pe_ix ix_list (pv 0) pe_int (fun _ _ => rfl)) pa_nil))) pe_int) (pv 1))))), ?_⟩
  refine ⟨_, rfl, p, _, 1, _, rfl, rfl, SqL.of hp, rfl, _, rfl, ?_⟩
  refine ite2 (fun hb => ?_) (fun hb => ?_)
  · refine ⟨_, rfl, p, _, 0, _, rfl, rfl, SqL.of hp, rfl, _, rfl, _, _, rfl, rfl, m0, ?_⟩
    refine ⟨_, rfl, p, _, 0, _, rfl, rfl, SqL.of hp, rfl, _, rfl, _, _, rfl, rfl, ⟨m0, m1⟩, _, rfl, p, _, 0, 0, rfl, rfl, hp, rfl, ?_⟩
    have h1 : upd H p (.lst [.int (a / many), .bl b, .int c, .int d]) p = some (.lst [.int (a / many), .bl b, .int c, .int d]) := upd_same
    refine ⟨_, rfl, p, _, 0, _, rfl, rfl, SqL.of h1, rfl, rfl, _, rfl, ?_⟩
    have r0 := Int.emod_nonneg a (show many ≠ 0 by omega)
    have r1 := Int.emod_lt_of_pos a m0
    refine ite2 (fun _ => ?_) (fun _ => ?_)
    · refine ⟨_, rfl, p, _, 0, _, rfl, rfl, SqL.of h1, rfl, _, rfl, rfl, _, rfl, p, _, 1, 1, rfl, rfl, h1, rfl, _, rfl, ?_⟩
      exact q _ _ r0 r1 ((But.upd _).trans (But.upd _)) ⟨_, _, _, _, upd_same⟩
    · refine ⟨_, rfl, p, _, 1, 1, rfl, rfl, h1, rfl, _, rfl, ?_⟩
      exact q _ _ r0 r1 ((But.upd _).trans (But.upd _)) ⟨_, _, _, _, upd_same⟩
  · refine ⟨_, rfl, p, _, 2, _, rfl, rfl, SqL.of hp, rfl, _, _, rfl, rfl, _, rfl, p, _, 2, 2, rfl, rfl, hp, rfl, ?_⟩
    have h1 : upd H p (.lst [.int a, .bl b, .int (c + 1), .int d]) p = some (.lst [.int a, .bl b, .int (c + 1), .int d]) := upd_same
    refine ⟨_, rfl, p, _, 3, _, rfl, rfl, SqL.of h1, rfl, _, rfl, p, _, 2, _, rfl, rfl, SqL.of h1, rfl, _, _, rfl, fun r r0 r1 => ?_⟩
    refine ⟨_, _, rfl, rfl, ⟨by decide, by decide⟩, _, rfl, _, _, rfl, rfl, m0, ?_⟩
    exact q _ _ (Int.emod_nonneg _ (by omega)) (Int.emod_lt_of_pos _ m0) (But.upd _) ⟨_, _, _, _, upd_same⟩
end
end K4
set_option Elab.async false
set_option linter.all false
set_option maxRecDepth 100000
set_option maxHeartbeats 4100000
namespace L2
open PySem
def alpha (o : Nat) : Str := ⟨((List.range 26).map (o + ·)).toArray⟩
def one (c : Nat) : Str := ⟨#[c]⟩
def txt (cs : List Nat) : Str := ⟨cs.toArray⟩
theorem alpha_len (o : Nat) : (alpha o).length = 26 := by show ((List.range 26).map (o + ·)).toArray.size = 26; simp
theorem alpha_at (o : Nat) (j : Int) (h0 : 0 ≤ j) (h1 : j < 26) : atI (alpha o).cps.toList j = some (o + j.toNat) := by
  obtain ⟨n, rfl⟩ : ∃ n : Nat, j = n := ⟨j.toNat, by omega⟩
  refine atI_nat ?_
  show (((List.range 26).map (o + ·)).toArray.toList)[n]? = _
  rw [List.toList_toArray, List.getElem?_map, List.getElem?_range (by omega)]
  rfl
theorem occ_at {o : Nat} (ho : o = 97 ∨ o = 65) {c : Nat} (h : o ≤ c ∧ c < o + 26) : ∃ i rest, Builtin.Str.occurrences (alpha o) (one c) 0 (alpha o).length 1 = i :: rest := by
  have all : ∀ j < 26, (Builtin.Str.occurrences (alpha 97) (one (97 + j)) 0 26 1).isEmpty = false ∧ (Builtin.Str.occurrences (alpha 65) (one (65 + j)) 0 26 1).isEmpty = false := by decide +kernel
  rw [alpha_len]
  have key : (Builtin.Str.occurrences (alpha o) (one c) 0 26 1).isEmpty = false := by
    have a := all (c - o) (by omega)
    rcases ho with rfl | rfl
    · have e : 97 + (c - 97) = c := by omega
      rw [e] at a; exact a.1
    · have e : 65 + (c - 65) = c := by omega
      rw [e] at a; exact a.2
  cases q : Builtin.Str.occurrences (alpha o) (one c) 0 26 1 with
  | nil => rw [q] at key; cases key
  | cons i r => exact ⟨i, r, rfl⟩
theorem eight {cs : List Nat} (h : cs.length = 8) : ∃ a b c d e f g i, cs = [a, b, c, d, e, f, g, i] := by
  match cs, h with
  | [a, b, c, d, e, f, g, i], _ => exact ⟨a, b, c, d, e, f, g, i, rfl⟩
theorem join8 {cs : List Nat} (h : cs.length = 8) : Txt.join (Str.ofString "") (cs.map one) = txt cs := by
  obtain ⟨a, b, c, d, e, f, g, i, rfl⟩ := eight h
  rfl
theorem cut_to {cs : List Nat} (h : cs.length = 8) (j : Nat) (hj : j ≤ 8) : Txt.slice (txt cs) none (some (j : Int)) = txt (cs.take j) := by
  obtain ⟨a, b, c, d, e, f, g, i, rfl⟩ := eight h
  match j, hj with
  | 0, _ | 1, _ | 2, _ | 3, _ | 4, _ | 5, _ | 6, _ | 7, _ | 8, _ => rfl
theorem cut_from {cs : List Nat} (h : cs.length = 8) (j : Nat) (hj : j ≤ 8) : Txt.slice (txt cs) (some (j : Int)) none = txt (cs.drop j) := by
  obtain ⟨a, b, c, d, e, f, g, i, rfl⟩ := eight h
  match j, hj with
  | 0, _ | 1, _ | 2, _ | 3, _ | 4, _ | 5, _ | 6, _ | 7, _ | 8, _ =>
    unfold Txt.slice
    rw [show (txt [a, b, c, d, e, f, g, i]).length = 8 from rfl]
    first
      | (rw [if_pos (by decide +kernel)]; rfl)
      | (rw [if_neg (by decide +kernel)]; rfl)
theorem txt_app (a b : List Nat) : txt a ++ txt b = txt (a ++ b) := by
  show (⟨a.toArray ++ b.toArray⟩ : Str) = ⟨(a ++ b).toArray⟩
  simp
theorem txt_inj {a b : List Nat} (h : txt a = txt b) : a = b := by
  have q : a.toArray = b.toArray := congrArg Str.cps h
  simpa using q
theorem txt_len (a : List Nat) : (txt a).length = a.length := by show a.toArray.size = a.length; simp
def wd (o : Nat) (cs : List Nat) (at' way i k : Nat) : List Nat :=
  if way = 0 then cs.take at' ++ [o + (i + 5 * k) % 26] ++ cs.drop (at' + 1)
  else if way = 1 then [o + (i + 5 * k) % 26] ++ cs.take ((3 * k + at') % 8)
  else if way = 2 then cs.take (k % 8 + 1)
  else cs.take (8 - k % 8)
theorem wd_ne {o : Nat} {cs : List Nat} {at' way i k l : Nat} (h8 : cs.length = 8) (ha : at' < 8) (hm : way < 2 ∧ l < 24 ∨ l < 8) (hkl : k < l) : wd o cs at' way i k ≠ wd o cs at' way i l := by
  intro e
  have d : (i + 5 * k) % 26 ≠ (i + 5 * l) % 26 ∨ l ≥ 26 := by omega
  unfold wd at e
  by_cases w0 : way = 0
  · rw [if_pos w0, if_pos w0] at e
    have q := congrArg (fun x : List Nat => x[at']?) e
    have lt : (cs.take at').length = at' := by rw [List.length_take]; omega
    have g : ∀ x : Nat, (cs.take at' ++ [x] ++ cs.drop (at' + 1))[at']? = some x := fun x => by
      rw [List.append_assoc, List.getElem?_append_right (by omega), lt]; simp
    have q' := (g _).symm.trans (q.trans (g _))
    simp at q'
    omega
  rw [if_neg w0, if_neg w0] at e
  by_cases w1 : way = 1
  · rw [if_pos w1, if_pos w1] at e
    simp at e
    omega
  rw [if_neg w1, if_neg w1] at e
  have l8 : l < 8 := by omega
  by_cases w2 : way = 2
  · rw [if_pos w2, if_pos w2] at e
    have q := congrArg List.length e
    rw [List.length_take, List.length_take] at q
    omega
  rw [if_neg w2, if_neg w2] at e
  have q := congrArg List.length e
  rw [List.length_take, List.length_take] at q
  omega
theorem wd_len {o : Nat} {cs : List Nat} {at' way i k : Nat} (h8 : cs.length = 8) (ha : at' < 8) : 1 ≤ (wd o cs at' way i k).length ∧ (wd o cs at' way i k).length ≤ 8 := by
  unfold wd
  split
  · simp only [List.length_append, List.length_take, List.length_drop, List.length_singleton]; omega
  split
  · simp only [List.length_append, List.length_take, List.length_singleton]; omega
  split
  · rw [List.length_take]; omega
  · rw [List.length_take]; omega
theorem wd_in {o : Nat} {cs : List Nat} {at' way i k : Nat} (hc : ∀ c ∈ cs, o ≤ c ∧ c < o + 26) : ∀ c ∈ wd o cs at' way i k, o ≤ c ∧ c < o + 26 := by
  have z : o ≤ o + (i + 5 * k) % 26 ∧ o + (i + 5 * k) % 26 < o + 26 := by omega
  intro c h
  unfold wd at h
  split at h
  · simp only [List.mem_append, List.mem_singleton] at h
    rcases h with (h | h) | h
    · exact hc c (List.mem_of_mem_take h)
    · rw [h]; exact z
    · exact hc c (List.mem_of_mem_drop h)
  split at h
  · simp only [List.mem_append, List.mem_singleton] at h
    rcases h with h | h
    · rw [h]; exact z
    · exact hc c (List.mem_of_mem_take h)
  split at h
  · exact hc c (List.mem_of_mem_take h)
  · exact hc c (List.mem_of_mem_take h)
structure Wds (o : Nat) (ys : List Str) : Prop where
  nd : ys.Nodup
  len : ∀ y ∈ ys, 1 ≤ y.length ∧ y.length ≤ 8
  abc : ∀ y ∈ ys, ∀ c ∈ y.cps.toList, o ≤ c ∧ c < o + 26
theorem wds_of {o : Nat} {cs : List Nat} {at' way i m : Nat} (h8 : cs.length = 8) (ha : at' < 8) (hm : way < 2 ∧ m ≤ 24 ∨ m ≤ 8) (hc : ∀ c ∈ cs, o ≤ c ∧ c < o + 26) : Wds o ((List.range m).map fun k => txt (wd o cs at' way i k)) := by
  refine ⟨?_, fun y hy => ?_, fun y hy c hc' => ?_⟩
  · show List.Pairwise _ _
    rw [List.pairwise_map]
    refine List.Pairwise.imp_of_mem ?_ (List.pairwise_lt_range (n := m))
    intro a b ha' hb hab e
    exact wd_ne (i := i) h8 ha (by have := List.mem_range.mp hb; omega) hab (txt_inj e)
  · obtain ⟨k, _, rfl⟩ := List.mem_map.mp hy
    rw [txt_len]; exact wd_len h8 ha
  · obtain ⟨k, _, rfl⟩ := List.mem_map.mp hy
    exact wd_in hc c (by simpa [txt] using hc')
end L2
set_option Elab.async false
set_option linter.all false
set_option maxRecDepth 100000
set_option maxHeartbeats 8000000
namespace L2
open PySem
def SameB (p : Addr) (H H' : Hp) : Prop := ∀ b o, b ≠ p → H b = some o → H' b = some o
theorem SameB.refl (p : Addr) (H : Hp) : SameB p H H := fun _ _ _ h => h
theorem SameB.trans {p : Addr} {H H1 H2 : Hp} (a : SameB p H H1) (b : SameB p H1 H2) : SameB p H H2 := fun c o n h => b c o n (a c o n h)
theorem But.sb {p : Addr} {H H' : Hp} (a : But p H H') : SameB p H H' := fun b o n h => (a b n).trans h
theorem Same.sb {p : Addr} {H H' : Hp} (a : Same H H') : SameB p H H' := fun b o _ h => a b o h
theorem SameB.free {p r : Addr} {H H' : Hp} (a : SameB p H H') (n : r ≠ p) (h : H' r = none) : H r = none := by
  cases e : H r with
  | none => rfl
  | some o => rw [a r o n e] at h; cases h
theorem SameB.put {p r : Addr} {H H' : Hp} {o : HO} (a : SameB p H H') (h : H r = none) : SameB p H (upd H' r o) := fun b u n e => by
  rw [upd_ne (ne_of_none e h)]; exact a b u n e
theorem Strm.ne {H : Hp} {p r : Addr} (s : Strm H p) (h : H r = none) : r ≠ p := fun e => by
  obtain ⟨a, b, c, d, q⟩ := s
  rw [← e, h] at q; cases q
theorem Strm.keep {H H' : Hp} {p : Addr} (s : Strm H p) (e : H' p = H p) : Strm H' p := by
  obtain ⟨a, b, c, d, q⟩ := s
  exact ⟨a, b, c, d, e.trans q⟩
theorem str_app_len (a b : Str) : (a ++ b).length = a.length + b.length := by
  show (a.cps ++ b.cps).size = a.cps.size + b.cps.size
  simp
theorem cut_le {cs : List Nat} (h : cs.length = 8) (lo hi : Option Int) : (Txt.slice (txt cs) lo hi).length ≤ 8 := by
  have q := Txt.slice_le (txt cs) lo hi
  rw [txt_len, h] at q
  exact q
theorem pick4 {o : Nat} {cs : List Nat} {at' way i k : Nat} (h : way < 4) : atI [V.str (txt (cs.take at' ++ [o + (i + 5 * k) % 26] ++ cs.drop (at' + 1))), V.str (txt ([o + (i + 5 * k) % 26] ++ cs.take ((3 * k + at') % 8))), V.str (txt (cs.take (k % 8 + 1))), V.str (txt (cs.take (8 - k % 8)))] (way : Int) = some (V.str (txt (wd o cs at' way i k))) := by
  match way, h with
  | 0, _ | 1, _ | 2, _ | 3, _ => rfl
end L2
namespace K4
open PySem L2
theorem scWords : FnScope ["stream", "many", "letters", "ways", "k", "base", "at", "way", "words", "sign", "some"] ["stream", "many", "letters", "ways"] (defScope sWords) := ⟨rfl, rfl, rfl, by decide +kernel, rfl, by decide +kernel, by decide +kernel⟩
theorem nd_kls : List.Nodup [("k" : Str), "letters", "stream"] := by decide +kernel
section
variable {P : Program} {w : World} {K : PySem.W.Frag} {mg : Str → Option Value} {base : Heap} {f g : Addr} {fd gd : FuncData}
def spWords : Sp := fun vs H Q _ => ∃ (p : Addr) (many : Nat) (o : Nat) (ways : Nat), vs = [.ref p, .int many, .str (alpha o), .int ways] ∧ Strm H p ∧ (o = 97 ∨ o = 65) ∧ 0 < ways ∧ (ways ≤ 2 ∧ many ≤ 24 ∨ ways ≤ 4 ∧ many ≤ 8) ∧
  ∀ (r : Addr) (ys : List Str) (H' : Hp), SameB p H H' → Strm H' p → H r = none → r ≠ p → H' r = some (.lst (ys.map V.str)) → ys.length = many → Wds o ys → Q (.ref r) H'
theorem ok_words {n : Nat} (B : Blt mg) (F : Fun K "_law_words" "_law_words" sWords f fd) (G : FnOk P w K mg base CX0 n g gd ["stream", "many"] spTake) (bG : Binds K gd ["stream", "many"] []) (kG : PySem.W.keepIn K (.ref g) = true) (mG : mg "_law_take" = some (.ref g)) :
    FnOk P w K mg base CX0 (n + 1) f fd ["stream", "many", "letters", "ways"] spWords := by
  refine F.ok scWords (fun vs H Q E h => ?_) (fun cdv A outer s H vs Q E hr h => ?_)
  · obtain ⟨p, many, o, ways, rfl, _⟩ := h
    rfl
  obtain ⟨p, many, o, ways, rfl, hs, ho, hw, hm, q⟩ := h
  refine ⟨_, pss_cons (ps_set (i := 5) scWords.nd rfl (Or.inl rfl) (pe_bm PySem.F.plainAttrs_str PySem.F.slot_str_join PySem.F.type_str_join mt_join pe_str (pa_cons (pe_cmpr ["k"] [2, 0] (pi_range1 rfl B.range (pa_cons pe_int pa_nil)) (gk_name (i := 0) (by decide))
      (fun cl C fp s H => pg_name (i := 0) nd_kls rfl (Or.inl rfl) (Or.inr rfl)) (fun cl C fp s H => pe_ix (r := rIxS) ix_str (pv 1) (pe_call G hr rfl mG kG bG .nil pass0 (pa_cons (pv 2) (pa_cons pe_int pa_nil))) (fun _ _ => rfl))) pa_nil)))
    (pss_cons (ps_set (i := 6) scWords.nd rfl (Or.inl rfl) (pe_call G hr rfl mG kG bG .nil pass0 (pa_cons (pv 0) (pa_cons pe_int pa_nil))))
    (pss_cons (ps_set (i := 7) scWords.nd rfl (Or.inl rfl) (pe_call G hr rfl mG kG bG .nil pass0 (pa_cons (pv 0) (pa_cons (pv 3) pa_nil))))
    (pss_cons (ps_set (i := 8) scWords.nd rfl (Or.inl rfl) (pe_lst pa_nil))
    (pss_cons (ps_for PassesOwn.never rfl (pi_range1 rfl B.range (pa_cons (pv 1) pa_nil)) (pg_name (i := 4) scWords.nd rfl (Or.inl rfl))
      (pss_cons (ps_set (i := 9) scWords.nd rfl (Or.inl rfl) (pe_ix ix_str (pv 2) (pe_op op_mod (pe_op op_add (pe_bm PySem.F.plainAttrs_str PySem.F.slot_str_index PySem.F.type_str_index mt_index (pv 2) (pa_cons (pe_ix ix_str (pv 5) (pv 6) (fun _ _ => rfl)) pa_nil)) (pe_op op_mul pe_int (pv 4))) pe_int) (fun _ _ => rfl)))
      (pss_cons (ps_set (i := 10) scWords.nd rfl (Or.inl rfl) (pe_lst (pa_cons (pe_op op_add_str (pe_op op_add_str (pe_slice sl_str (pv 5) po_none (po_some (pv 6))) (pv 9)) (pe_slice sl_str (pv 5) (po_some (pe_op op_add (pv 6) pe_int)) po_none))
        (pa_cons (pe_op op_add_str (pv 9) (pe_slice sl_str (pv 5) po_none (po_some (pe_op op_mod (pe_op op_add (pe_op op_mul pe_int (pv 4)) (pv 6)) pe_int))))
        (pa_cons (pe_slice sl_str (pv 5) po_none (po_some (pe_op op_add (pe_op op_mod (pv 4) pe_int) pe_int)))
        (pa_cons (pe_slice sl_str (pv 5) po_none (po_some (pe_op op_sub pe_int (pe_op op_mod (pv 4) pe_int)))) pa_nil))))))
      (pss_one (ps_expr (pe_bm PySem.F.plainAttrs_list PySem.F.slot_list_append PySem.F.type_list_append mt_append (pv 8) (pa_cons (pe_ix ix_list (pv 10) (pv 7) (fun _ _ => rfl)) pa_nil)))))))
    (pss_one (ps_ret (pv 8))))))), ?_⟩
  have em : ((many : Nat) : Int).toNat = many := Int.toNat_natCast _
  refine ⟨rfl, 8, rfl, by decide, by decide, ?_⟩
  refine comp_form 8 (small1000 (by decide)) (fun i vs H' => SameB p H H' ∧ Strm H' p ∧ ∃ cs : List Nat, vs = cs.map (fun c => V.str (one c)) ∧ cs.length = i ∧ ∀ c ∈ cs, o ≤ c ∧ c < o + 26) ⟨SameB.refl _ _, hs, [], rfl, rfl, fun c h => nomatch h⟩
    (fun i vs H' z => by obtain ⟨_, _, cs, e, l, _⟩ := z; rw [e, List.length_map, l]) (fun i vs H' hi z => hi) (fun vs H' z => Nat.le_refl _) ?_ ?_
  · intro i vs H' x H'' R hi z yl hR
    obtain ⟨rfl, rfl⟩ := yl
    obtain ⟨z1, z2, cs, rfl, zl, zc⟩ := z
    refine ⟨_, rfl, _, rfl, p, 26, rfl, z2, by decide, by decide, fun r H3 r0 r1 b s3 => ?_⟩
    refine ⟨alpha o, r, o + r.toNat, rfl, rfl, by rw [alpha_len]; decide, alpha_at o r r0 r1, hR _ _ ⟨z1.trans b.sb, s3, cs ++ [o + r.toNat], by rw [List.map_append]; rfl, by rw [List.length_append, zl]; rfl, fun c hc => ?_⟩⟩
    rcases List.mem_append.mp hc with h | h
    · exact zc c h
    · rw [List.mem_singleton.mp h]; omega
  intro vs H1 pl z hpl
  obtain ⟨z1, z2, cs, rfl, z8, zc⟩ := z
  have npl : pl ≠ p := z2.ne hpl
  have e1 : cs.map (fun c => V.str (one c)) = (cs.map one).map V.str := by rw [List.map_map]; rfl
  refine ⟨_, pl, cs.map one, rfl, rfl, SqL.of (by rw [upd_same, e1]), ?_, ?_⟩
  · obtain ⟨a, b, c, d, e, f, g, i, rfl⟩ := eight z8
    show (8 : Nat) + 8 * 0 ≤ 16777216
    decide
  rw [join8 z8]
  have s1 : Strm (upd H1 pl (.lst (cs.map fun c => V.str (one c)))) p := z2.keep (upd_ne (Ne.symm npl))
  have b1 : SameB p H (upd H1 pl (.lst (cs.map fun c => V.str (one c)))) := z1.trans (same_upd hpl _).sb
  generalize upd H1 pl (.lst (cs.map fun c => V.str (one c))) = H2 at s1 b1
  refine ⟨_, rfl, p, 8, rfl, s1, by decide, by decide, fun at' H3 a0 a1 b3 s3 => ?_⟩
  refine ⟨_, rfl, _, rfl, p, ways, rfl, s3, by omega, by omega, fun way H4 w0 w1 b4 s4 => ?_⟩
  refine ⟨by show 0 ≤ sizeLine; decide, fun wl hwl => ?_⟩
  have b5 : SameB p H H4 := (b1.trans b3.sb).trans b4.sb
  have nwl : wl ≠ p := s4.ne hwl
  have fwl : H wl = none := b5.free nwl hwl
  obtain ⟨at1, rfl⟩ : ∃ n : Nat, at' = n := ⟨at'.toNat, by omega⟩
  obtain ⟨way1, rfl⟩ : ∃ n : Nat, way = n := ⟨way.toNat, by omega⟩
  have hat : at1 < 8 := by omega
  -- the sign at the drawn place, and its number among the letters
  obtain ⟨c0, hc0⟩ : ∃ c0, cs[at1]? = some c0 := ⟨cs[at1], List.getElem?_eq_getElem (by omega)⟩
  obtain ⟨i0, rest, hocc⟩ := occ_at ho (zc c0 (List.mem_of_getElem? hc0))
  refine ⟨_, rfl, many, rfl, by omega, by omega, ?_⟩
  refine for_range (n := ((many : Nat) : Int).toNat) (fun i σ H' => SameB p H H' ∧ Strm H' p ∧ H' wl = some (.lst (((List.range i).map fun k => txt (wd o cs at1 way1 i0 k)).map V.str)) ∧
    ∃ z1 z2 z3, σ = [some (.ref p), some (.int many), some (.str (alpha o)), some (.int ways), z1, some (.str (txt cs)), some (.int at1), some (.int way1), some (.ref wl), z2, z3]) ?_ ?_ ?_
  · exact ⟨b5.put fwl, s4.keep (upd_ne (Ne.symm nwl)), upd_same, _, _, _, rfl⟩
  · rintro i σ H' hi ⟨y1, y2, y3, z1, z2, z3, rfl⟩
    rw [em] at hi
    have tl : (txt cs).length ≤ sizeLine := by rw [txt_len, z8]; decide
    have hidx : (0 : Int) ≤ ((i0 : Int) + 5 * (0 + (i : Int))) % 26 ∧ ((i0 : Int) + 5 * (0 + (i : Int))) % 26 < 26 := by omega
    have e26 : (((i0 : Int) + 5 * (0 + (i : Int))) % 26).toNat = (i0 + 5 * i) % 26 := by omega
    refine ⟨_, rfl, _, rfl, rfl, _, rfl, _, rfl, txt cs, at1, c0, rfl, rfl, tl, atI_nat (by simpa [txt] using hc0), _, _, i0, rest, rfl, rfl, hocc, _, rfl, _, _, rfl, rfl, .inl ⟨by decide, by decide⟩, _, _, rfl, rfl, _, _, rfl, rfl, (by show (0 : Int) < _; decide), ?_⟩
    refine ⟨alpha o, _, _, rfl, rfl, by rw [alpha_len]; decide, alpha_at o _ hidx.1 hidx.2, ?_⟩
    rw [e26]
    have sg : (⟨#[o + (i0 + 5 * i) % 26]⟩ : Str) = txt [o + (i0 + 5 * i) % 26] := rfl
    rw [sg]
    -- the four
    have eA : Txt.slice (txt cs) none (some (at1 : Int)) ++ txt [o + (i0 + 5 * i) % 26] ++ Txt.slice (txt cs) (some ((at1 : Int) + 1)) none = txt (cs.take at1 ++ [o + (i0 + 5 * i) % 26] ++ cs.drop (at1 + 1)) := by
      have z : ((at1 : Int) + 1) = ((at1 + 1 : Nat) : Int) := by omega
      rw [z, cut_to z8 at1 (by omega), cut_from z8 (at1 + 1) (by omega), txt_app, txt_app]
    have eB : txt [o + (i0 + 5 * i) % 26] ++ Txt.slice (txt cs) none (some ((3 * (0 + (i : Int)) + (at1 : Int)) % 8)) = txt ([o + (i0 + 5 * i) % 26] ++ cs.take ((3 * i + at1) % 8)) := by
      have z : (3 * (0 + (i : Int)) + (at1 : Int)) % 8 = (((3 * i + at1) % 8 : Nat) : Int) := by omega
      rw [z, cut_to z8 _ (by omega), txt_app]
    have eC : Txt.slice (txt cs) none (some ((0 + (i : Int)) % 8 + 1)) = txt (cs.take (i % 8 + 1)) := by
      have z : (0 + (i : Int)) % 8 + 1 = ((i % 8 + 1 : Nat) : Int) := by omega
      rw [z, cut_to z8 _ (by omega)]
    have eD : Txt.slice (txt cs) none (some (8 - (0 + (i : Int)) % 8)) = txt (cs.take (8 - i % 8)) := by
      have z : 8 - (0 + (i : Int)) % 8 = ((8 - i % 8 : Nat) : Int) := by omega
      rw [z, cut_to z8 _ (by omega)]
    have small : ∀ m : Nat, m ≤ 100 → m ≤ sizeLine := fun m h => Nat.le_of_lt (small1000 (by omega))
    have k1 : ∀ lo hi, (Txt.slice (txt cs) lo hi).length ≤ 8 := fun lo hi => cut_le z8 lo hi
    have x1 : (txt [o + (i0 + 5 * i) % 26]).length = 1 := rfl
    refine ⟨_, rfl, _, rfl, _, rfl, txt cs, rfl, tl, _, rfl, _, _, rfl, rfl, small _ (by have := k1 none (some (at1 : Int)); omega), _, rfl, _, rfl, _, _, rfl, rfl, _, rfl, txt cs, rfl, tl, _, _, rfl, rfl,
      small _ (by have := k1 none (some (at1 : Int)); have := k1 (some ((at1 : Int) + 1)) none; rw [str_app_len]; omega), ?_⟩
    refine ⟨_, rfl, _, rfl, _, rfl, _, _, rfl, rfl, .inl ⟨by decide, by decide⟩, _, rfl, _, _, rfl, rfl, _, _, rfl, rfl, (by show (0 : Int) < _; decide), _, rfl, txt cs, rfl, tl, _, _, rfl, rfl,
      small _ (by have := k1 none (some ((3 * (0 + (i : Int)) + (at1 : Int)) % 8)); omega), ?_⟩
    refine ⟨_, rfl, _, rfl, _, _, rfl, rfl, (by show (0 : Int) < _; decide), _, _, rfl, rfl, _, rfl, txt cs, rfl, tl, ?_⟩
    refine ⟨_, rfl, _, rfl, _, _, rfl, rfl, (by show (0 : Int) < _; decide), _, _, rfl, rfl, _, rfl, txt cs, rfl, tl, by show 4 ≤ sizeLine; decide, fun t ht => ?_⟩
    rw [eA, eB, eC, eD]
    have nt : t ≠ p := y2.ne ht
    have ntw : wl ≠ t := ne_of_none y3 ht
    refine ⟨_, rfl, .inl ⟨rfl, _, SqL.of ((upd_ne ntw).trans y3)⟩, _, rfl, _, rfl, t, _, way1, _, rfl, rfl, SqL.of upd_same, pick4 (by omega), wl, _, _, rfl, rfl, (upd_ne ntw).trans y3, ?_, ?_⟩
    · rw [List.length_map, List.length_map, List.length_range]
      exact small1000 (by omega)
    · have ft : H t = none := y1.free nt ht
      refine ⟨(y1.put ft).put fwl, y2.keep ((upd_ne (Ne.symm nwl)).trans (upd_ne (Ne.symm nt))), ?_, _, _, _, rfl⟩
      rw [upd_same, ← range_map_snoc, List.map_append]
      rfl
  · rintro σ H' ⟨y1, y2, y3, z1, z2, z3, rfl⟩
    rw [em] at y3
    refine ⟨_, rfl, q wl _ H' y1 y2 fwl nwl y3 (by simp) (wds_of z8 hat ?_ zc)⟩
    omega
end
end K4
set_option Elab.async false
set_option linter.all false
set_option maxRecDepth 100000
set_option maxHeartbeats 4100000
namespace L2
open PySem PySem.Spec PyProof.Rows
mutual
def Dat.st : Dat → Bool
  | .str _ => true
  | .tup ds => Dat.sts ds
  | _ => false
def Dat.sts : List Dat → Bool
  | [] => true
  | d :: ds => d.st && Dat.sts ds
end
theorem Dat.sts_get : ∀ {ds : List Dat} {i : Nat} {d : Dat}, Dat.sts ds = true → ds[i]? = some d → d.st = true
  | [], i, d, _, e => by simp at e
  | a :: ds, 0, d, h, e => by
    have e' : some a = some d := e
    cases e'
    unfold Dat.sts at h
    exact (Bool.and_eq_true_iff.mp h).1
  | a :: ds, i + 1, d, h, e => by
    unfold Dat.sts at h
    exact Dat.sts_get (i := i) (Bool.and_eq_true_iff.mp h).2 e
theorem beqs_min : ∀ (as bs : List Dat), ((List.range (min as.length bs.length)).all (fun i => ((as[i]?).getD .non).beq ((bs[i]?).getD .non)) && as.length == bs.length) = Dat.beqs as bs
  | [], [] => by unfold Dat.beqs; rfl
  | [], _ :: _ => by unfold Dat.beqs; simp
  | _ :: _, [] => by unfold Dat.beqs; simp
  | a :: as, b :: bs => by
    have ih := beqs_min as bs
    have e : min (a :: as).length (b :: bs).length = min as.length bs.length + 1 := by simp only [List.length_cons]; omega
    rw [e, List.range_succ_eq_map, List.all_cons, List.all_map]
    unfold Dat.beqs
    rw [← ih]
    have e2 : ((a :: as).length == (b :: bs).length) = (as.length == bs.length) := by simp
    rw [e2, Bool.and_assoc]
    rfl
theorem tup_at {P : Program} {w : World} {H : Hp} {s : Shared} (ok : HOk P w H s.heap) {a : Addr} {xs : List V} (h : H a = some (.tup xs)) : ∃ its : List Value, Vals xs its ∧ s.heap.IsTuple a its.toArray := by
  obtain ⟨_, its, r, p⟩ := (show ObjOk P w H s.heap a (.tup xs) from ok a _ h)
  exact ⟨its, r, p.is⟩
theorem eqAt_dat {P : Program} {w : World} {H : Hp} {s : Shared} (ok : HOk P w H s.heap) : ∀ (n : Nat) (d1 d2 : Dat) (A : Around) {x y : V} {u v : Value}, d1.dep ≤ n → Has H x d1 → Has H y d2 → d1.st = true → d2.st = true → RelV x u → RelV y v → Room (n + 1) A → SeqAt.EqAt A s u v (d1.beq d2)
  | n, d1, d2, A, x, y, u, v, hn, hx, hy, st1, st2, ru, rv, hr => by
    cases d1 with
    | str a =>
      unfold Has at hx
      subst hx
      obtain ⟨t, rfl⟩ := ru
      cases d2 with
      | str b =>
        unfold Has at hy
        subst hy
        obtain ⟨t', rfl⟩ := rv
        unfold Dat.beq
        exact SeqAt.EqAt.str_str _ _ _ _
      | tup es =>
        unfold Has at hy
        obtain ⟨p, ys, rfl, hp, _⟩ := hy
        cases rv
        obtain ⟨its, r, pt⟩ := tup_at ok hp
        unfold Dat.beq
        exact SeqAt.EqAt.str_tuple _ _ pt hr.units0
      | _ => unfold Dat.st at st2; cases st2
    | tup ds =>
      unfold Has at hx
      obtain ⟨p, xs, rfl, hp, hxs⟩ := hx
      cases ru
      obtain ⟨its, r, pt⟩ := tup_at ok hp
      cases d2 with
      | str b =>
        unfold Has at hy
        subst hy
        obtain ⟨t', rfl⟩ := rv
        unfold Dat.beq
        exact SeqAt.EqAt.tuple_str _ _ pt hr.units0
      | tup es =>
        have hy' := hy
        unfold Has at hy
        obtain ⟨p2, ys, rfl, hp2, hys⟩ := hy
        cases rv
        obtain ⟨its2, r2, pt2⟩ := tup_at ok hp2
        by_cases e : p = p2
        · subst e
          rw [hp] at hp2
          cases hp2
          rw [HasL.inj ds es hxs hys, Dat.beq_self]
          exact SeqAt.EqAt.same _
        · refine SeqAt.EqAt.of_refs e ?_
          have l1 := hxs.length
          have l2 := hys.length
          have l3 := r.length
          have l4 := r2.length
          have dd : Dat.deps ds + 1 ≤ n := by unfold Dat.dep at hn; omega
          obtain ⟨m, rfl⟩ : ∃ m, n = m + 1 := ⟨n - 1, by omega⟩
          have q := SeqAt.RcAt.tuples (A := A) (e := fun i => ((ds[i]?).getD .non).beq ((es[i]?).getD .non)) pt pt2 hr.units0 ?_
          · have k1 : its.toArray.size = ds.length := by rw [List.size_toArray]; omega
            have k2 : its2.toArray.size = es.length := by rw [List.size_toArray]; omega
            rw [k1, k2, beqs_min] at q
            rw [beq_tup]
            exact q
          · intro j h1 h2
            rw [List.size_toArray] at h1 h2
            have j1 : j < xs.length := by omega
            have j2 : j < ys.length := by omega
            obtain ⟨d, hd, hh⟩ := hxs.get (List.getElem?_eq_getElem j1)
            obtain ⟨d', hd', hh'⟩ := hys.get (List.getElem?_eq_getElem j2)
            obtain ⟨u1, hu1, ru1⟩ := r.get (List.getElem?_eq_getElem j1)
            obtain ⟨u2, hu2, ru2⟩ := r2.get (List.getElem?_eq_getElem j2)
            have i1 : its.toArray[j] = u1 := by
              have z := (List.getElem?_eq_some_iff.mp hu1).2
              simpa using z
            have i2 : its2.toArray[j] = u2 := by
              have z := (List.getElem?_eq_some_iff.mp hu2).2
              simpa using z
            rw [i1, i2, hd, hd']
            have c1 := Dat.deps_get hd
            unfold Dat.st at st1 st2
            exact eqAt_dat ok m d d' A.in1 (by omega) hh hh' (Dat.sts_get st1 hd) (Dat.sts_get st2 hd') ru1 ru2 hr.in1
      | _ => unfold Dat.st at st2; cases st2
    | _ => unfold Dat.st at st1; cases st1
  termination_by n => n
def rInD (K : PySem.W.Frag) : R2 := fun x y H Q => ∃ (p : Addr) (xs : List V) (ds : List Dat) (d : Dat), y = .ref p ∧ SqL K H p xs ∧ HasL H xs ds ∧ Has H x d ∧ Dat.sts ds = true ∧ d.st = true ∧ Dat.deps ds ≤ 4 ∧ Q (.bl (ds.any fun e => e.beq d)) H
theorem any_of_vals {H : Hp} {d : Dat} : ∀ {xs : List V} {us : List Value} {ds : List Dat} (e : Value → Bool), Vals xs us → HasL H xs ds → (∀ (i : Nat) (u : Value) (c : Dat), us[i]? = some u → ds[i]? = some c → e u = c.beq d) → us.any e = ds.any fun c => c.beq d
  | [], _, ds, e, r, h, _ => by
    cases r
    cases ds with
    | nil => rfl
    | cons _ _ => unfold HasL at h; exact h.elim
  | x :: xs, _, ds, e, r, h, hz => by
    cases r with
    | cons r1 r2 =>
      cases ds with
      | nil => unfold HasL at h; exact h.elim
      | cons c ds =>
        unfold HasL at h
        rw [List.any_cons, List.any_cons, hz 0 _ c rfl rfl, any_of_vals e r2 h.2 fun i u c' e1 e2 => hz (i + 1) u c' e1 e2]
theorem op_in_dat {X : Cx} {k : Nat} (hr : Room (k + 6) X.A) : OpR X (compareOp .In) (rInD X.K) := by
  intro pins s σ H x y v u Q I rx ry h
  obtain ⟨p, xs, ds, d, rfl, hq, hl, hd, st1, st2, dp, q⟩ := h
  cases ry
  obtain ⟨its, r, pl, hz⟩ := I.list hq
  have hr5 : Room 5 X.A.in1 := (hr.mono (by omega : 6 ≤ k + 6)).in1
  -- what == tells of each item, by classical choice of its datum
  let e : Value → Bool := fun u => @decide (∃ (i : Nat) (c : Dat), its[i]? = some u ∧ ds[i]? = some c ∧ c.beq d = true) (Classical.propDecidable _)
  have key : ∀ (i : Nat) (u : Value) (c : Dat), its[i]? = some u → ds[i]? = some c → ∀ (x1 : V), RelV x1 u → Has H x1 c → SeqAt.EqAt X.A.in1 s u v (c.beq d) := fun i u c e1 e2 x1 r1 h1 => by
    have := Dat.deps_get e2
    exact eqAt_dat I.hok 4 c d X.A.in1 (by omega) h1 hd (Dat.sts_get st1 e2) st2 r1 rx hr5
  have one : ∀ (i : Nat) (u : Value) (c : Dat), its[i]? = some u → ds[i]? = some c → e u = c.beq d := fun i u c e1 e2 => by
    have hi : i < its.length := (List.getElem?_eq_some_iff.mp e1).1
    have l := r.length
    obtain ⟨u1, hu1, ru1⟩ := r.get (List.getElem?_eq_getElem (show i < xs.length by omega))
    rw [e1] at hu1
    cases hu1
    obtain ⟨c1, hc1, hh1⟩ := hl.get (List.getElem?_eq_getElem (show i < xs.length by omega))
    rw [e2] at hc1
    cases hc1
    by_cases b : c.beq d = true
    · rw [b]
      exact @decide_eq_true _ (Classical.propDecidable _) ⟨i, c, e1, e2, b⟩
    · have b' : c.beq d = false := by simpa using b
      rw [b']
      refine @decide_eq_false _ (Classical.propDecidable _) ?_
      rintro ⟨j, c', f1, f2, f3⟩
      have hj : j < its.length := (List.getElem?_eq_some_iff.mp f1).1
      obtain ⟨u2, hu2, ru2⟩ := r.get (List.getElem?_eq_getElem (show j < xs.length by omega))
      rw [f1] at hu2
      cases hu2
      obtain ⟨c2, hc2, hh2⟩ := hl.get (List.getElem?_eq_getElem (show j < xs.length by omega))
      rw [f2] at hc2
      cases hc2
      have ev := RelV.inj ru1 ru2
      rw [ev] at hh1
      rw [Has.inj c c' hh1 hh2, f3] at b'
      cases b'
  refine SeqAt.in_listAt e pl.isList (fun w hw => ?_) ⟨.bl _, H, I, rfl, ?_⟩
  · obtain ⟨i, hi, ei⟩ := List.mem_iff_getElem.mp (show w ∈ its by simpa using hw)
    have l := r.length
    obtain ⟨u1, hu1, ru1⟩ := r.get (List.getElem?_eq_getElem (show i < xs.length by omega))
    have e1 : its[i]? = some w := by rw [List.getElem?_eq_getElem hi, ei]
    rw [e1] at hu1
    cases hu1
    obtain ⟨c1, hc1, hh1⟩ := hl.get (List.getElem?_eq_getElem (show i < xs.length by omega))
    rw [one i w c1 e1 hc1]
    exact key i w c1 e1 hc1 _ ru1 hh1
  · rw [show its.toArray.any e = its.any e by simp, any_of_vals e r hl one]
    exact q
end L2
set_option Elab.async false
set_option linter.all false
set_option maxRecDepth 100000
set_option maxHeartbeats 4100000
namespace L2
open PySem
inductive Shp where
  | tags (ts : List Str)
  | pair (a b : Str)
def Shp.dat : Shp → Dat
  | .tags ts => .tup [.str "tags", .tup (ts.map Dat.str)]
  | .pair a b => .tup [.str "pair", .str a, .str b]
theorem strs_sts : ∀ ts : List Str, Dat.sts (ts.map Dat.str) = true
  | [] => by unfold Dat.sts; rfl
  | t :: ts => by rw [List.map_cons]; unfold Dat.sts; rw [strs_sts ts]; unfold Dat.st; rfl
theorem strs_deps : ∀ ts : List Str, Dat.deps (ts.map Dat.str) = 0
  | [] => by unfold Dat.deps; rfl
  | t :: ts => by rw [List.map_cons]; unfold Dat.deps; rw [strs_deps ts]; unfold Dat.dep; rfl
theorem Shp.st : ∀ s : Shp, s.dat.st = true
  | .tags ts => by simp [Shp.dat, Dat.st, Dat.sts, strs_sts]
  | .pair a b => by simp [Shp.dat, Dat.st, Dat.sts]
theorem Shp.dep : ∀ s : Shp, s.dat.dep ≤ 2
  | .tags ts => by simp [Shp.dat, Dat.dep, Dat.deps, strs_deps]
  | .pair a b => by simp [Shp.dat, Dat.dep, Dat.deps]
theorem shps_sts : ∀ ss : List Shp, Dat.sts (ss.map Shp.dat) = true
  | [] => by unfold Dat.sts; rfl
  | t :: ts => by rw [List.map_cons]; unfold Dat.sts; rw [shps_sts ts, Shp.st]; rfl
theorem shps_deps : ∀ ss : List Shp, Dat.deps (ss.map Shp.dat) ≤ 2
  | [] => by unfold Dat.deps; decide
  | t :: ts => by rw [List.map_cons]; unfold Dat.deps; exact Nat.max_le.mpr ⟨Shp.dep t, shps_deps ts⟩
theorem tup_ne_strm {H : Hp} {p a : Addr} {xs : List V} (s : Strm H p) (h : H a = some (.tup xs)) : a ≠ p := fun e => by
  obtain ⟨_, _, _, _, q⟩ := s
  rw [← e, h] at q; cases q
mutual
theorem has_sb {H H' : Hp} {p : Addr} (b : SameB p H H') (s : Strm H p) : ∀ (d : Dat) {v : V}, d.st = true → Has H v d → Has H' v d
  | .str _, _, _, h => by unfold Has at h ⊢; exact h
  | .tup ds, _, t, h => by
    unfold Has at h ⊢
    obtain ⟨a, xs, h1, h2, h3⟩ := h
    unfold Dat.st at t
    exact ⟨a, xs, h1, b _ _ (tup_ne_strm s h2) h2, hasL_sb' b s ds t h3⟩
  | .non, _, t, _ => by unfold Dat.st at t; cases t
  | .bl _, _, t, _ => by unfold Dat.st at t; cases t
  | .int _, _, t, _ => by unfold Dat.st at t; cases t
  | .lst _, _, t, _ => by unfold Dat.st at t; cases t
theorem hasL_sb' {H H' : Hp} {p : Addr} (b : SameB p H H') (s : Strm H p) : ∀ (ds : List Dat) {xs : List V}, Dat.sts ds = true → HasL H xs ds → HasL H' xs ds
  | [], [], _, h => HasL.nil
  | [], _ :: _, _, h => by unfold HasL at h; exact h.elim
  | _ :: _, [], _, h => by unfold HasL at h; exact h.elim
  | d :: ds, x :: xs, t, h => by
    unfold HasL at h
    unfold Dat.sts at t
    have t' := Bool.and_eq_true_iff.mp t
    exact HasL.cons (has_sb b s d t'.1 h.1) (hasL_sb' b s ds t'.2 h.2)
end
theorem hasL_sb {H H' : Hp} {p : Addr} {ss : List Shp} {xs : List V} (b : SameB p H H') (s : Strm H p) (h : HasL H xs (ss.map Shp.dat)) : HasL H' xs (ss.map Shp.dat) := hasL_sb' b s _ (shps_sts ss) h
def Nums (H : Hp) (d : Addr) (ys : List Str) (lo hi : Nat) : Prop := ∃ kvs, H d = some (.dK kvs) ∧ kvs.length ≤ ys.length ∧ ∀ y ∈ ys, ∃ n : Nat, valV kvs (Sum.inr y) = some (.int n) ∧ lo ≤ n ∧ n ≤ hi
end L2
namespace K4
open PySem L2
theorem scSmall : FnScope ["stream", "many"] ["stream", "many"] (defScope sSmall) := ⟨rfl, rfl, rfl, by decide +kernel, rfl, by decide +kernel, by decide +kernel⟩
theorem scPair : FnScope ["stream", "names", "counts", "depths", "taken", "top", "one", "other", "deep"] ["stream", "names", "counts", "depths", "taken", "top"] (defScope sPair) := ⟨rfl, rfl, rfl, by decide +kernel, rfl, by decide +kernel, by decide +kernel⟩
theorem small_abc : (Str.ofString "abcdefghijklmnopqrstuvwxyz") = alpha 97 := by decide +kernel
theorem great_abc : (Str.ofString "ABCDEFGHIJKLMNOPQRSTUVWXYZ") = alpha 65 := by decide +kernel
section
variable {P : Program} {w : World} {K : PySem.W.Frag} {mg : Str → Option Value} {base : Heap} {f g : Addr} {fd gd : FuncData}
def spSmall : Sp := fun vs H Q _ => ∃ (p : Addr) (many : Nat), vs = [.ref p, .int many] ∧ Strm H p ∧ many ≤ 8 ∧
  ∀ (r : Addr) (ys : List Str) (H' : Hp), SameB p H H' → Strm H' p → H r = none → r ≠ p → H' r = some (.lst (ys.map V.str)) → ys.length = many → Wds 97 ys → Q (.ref r) H'
theorem ok_small {n : Nat} (F : Fun K "_law_small" "_law_small" sSmall f fd) (G : FnOk P w K mg base CX0 n g gd ["stream", "many", "letters", "ways"] spWords) (bG : Binds K gd ["stream", "many", "letters", "ways"] []) (kG : PySem.W.keepIn K (.ref g) = true) (mG : mg "_law_words" = some (.ref g)) :
    FnOk P w K mg base CX0 (n + 1) f fd ["stream", "many"] spSmall := by
  refine F.ok scSmall (fun vs H Q E h => ?_) (fun cdv A outer s H vs Q E hr h => ?_)
  · obtain ⟨p, many, rfl, _⟩ := h
    rfl
  obtain ⟨p, many, rfl, hs, hm, q⟩ := h
  refine ⟨_, pss_one (ps_ret (pe_call G hr rfl mG kG bG .nil pass0 (pa_cons (pv 0) (pa_cons (pv 1) (pa_cons pe_str (pa_cons pe_int pa_nil)))))), ?_⟩
  refine ⟨_, rfl, _, rfl, p, many, 97, 4, ?_, hs, .inl rfl, by decide, .inr ⟨by decide, hm⟩, q⟩
  rw [← small_abc]; rfl
def spPair (K : PySem.W.Frag) : Sp := fun vs H Q _ => ∃ (p nm cn dp tk : Addr) (top : Nat) (ys : List Str) (ss : List Shp), vs = [.ref p, .ref nm, .ref cn, .ref dp, .ref tk, .int top] ∧ Strm H p ∧ H nm = some (.lst (ys.map V.str)) ∧ 0 < ys.length ∧ ys.length ≤ 8 ∧
  Nums H cn ys 0 1000 ∧ Nums H dp ys 0 1000 ∧ Has H (.ref tk) (.lst (ss.map Shp.dat)) ∧ nm ≠ p ∧ cn ≠ p ∧ dp ≠ p ∧ tk ≠ p ∧
  ∀ (v : V) (H' : Hp), SameB p H H' → Strm H' p → (v = .non ∨ ∃ (a b : Str) (r : Addr) (ca cb da db : Nat), a ∈ ys ∧ b ∈ ys ∧ v = .ref r ∧ H r = none ∧ H' r = some (.tup [.str "pair", .str a, .str b]) ∧
    (∀ kvs, H cn = some (.dK kvs) → valV kvs (Sum.inr a) = some (.int ca) ∧ valV kvs (Sum.inr b) = some (.int cb)) ∧ (∀ kvs, H dp = some (.dK kvs) → valV kvs (Sum.inr a) = some (.int da) ∧ valV kvs (Sum.inr b) = some (.int db)) ∧
    1 + max da db ≤ 2 ∧ 1 + ca * cb ≤ top ∧ Shp.pair a b ∉ ss) → Q v H'
theorem ok_pair {n : Nat} (B : Blt mg) (F : Fun K "_law_pair" "_law_pair" sPair f fd) (G : FnOk P w K mg base CX0 (n + 6) g gd ["stream", "many"] spTake) (bG : Binds K gd ["stream", "many"] []) (kG : PySem.W.keepIn K (.ref g) = true) (mG : mg "_law_take" = some (.ref g)) :
    FnOk P w K mg base CX0 (n + 6 + 1) f fd ["stream", "names", "counts", "depths", "taken", "top"] (spPair K) := by
  refine F.ok scPair (fun vs H Q E h => ?_) (fun cdv A outer s H vs Q E hr h => ?_)
  · obtain ⟨p, nm, cn, dp, tk, top, ys, ss, rfl, _⟩ := h
    rfl
  obtain ⟨p, nm, cn, dp, tk, top, ys, ss, rfl, hs, hn, y0, y8, hc, hd, ht, n1, n2, n3, n4, q⟩ := h
  have hu := hu_of hr
  refine ⟨_, pss_cons (ps_set (i := 6) scPair.nd rfl (Or.inl rfl) (pe_ix ix_list (pv 1) (pe_call G hr rfl mG kG bG .nil pass0 (pa_cons (pv 0) (pa_cons (pe_callB call_len_seq rfl B.len PySem.boot_len (pa_cons (pv 1) pa_nil)) pa_nil))) (fun _ _ => rfl)))
    (pss_cons (ps_set (i := 7) scPair.nd rfl (Or.inl rfl) (pe_ix ix_list (pv 1) (pe_call G hr rfl mG kG bG .nil pass0 (pa_cons (pv 0) (pa_cons (pe_callB call_len_seq rfl B.len PySem.boot_len (pa_cons (pv 1) pa_nil)) pa_nil))) (fun _ _ => rfl)))
    (pss_cons (ps_set (i := 8) scPair.nd rfl (Or.inl rfl) (pe_op op_add pe_int (pe_callB (call_max2 rfl) rfl B.max boot_max' (pa_cons (pe_dget hu (pv 3) (pv 6) (fun _ _ => rfl)) (pa_cons (pe_dget hu (pv 3) (pv 7) (fun _ _ => rfl)) pa_nil)))))
    (pss_cons (ps_if (PW.pt (pw_or (pt_cmpR op_gt (pv 8) pe_int (nomark _)) (pw_or (pt_cmpR op_gt (pe_op op_add pe_int (pe_op op_mul (pe_dget hu (pv 2) (pv 6) (fun _ _ => rfl)) (pe_dget hu (pv 2) (pv 7) (fun _ _ => rfl)))) (pv 5) (nomark _))
        (pw_or1 (pt_cmpR (op_in_dat hr) (pe_tup (pa_cons pe_str (pa_cons (pv 6) (pa_cons (pv 7) pa_nil)))) (pv 4) rfl))))) (pss_one (ps_ret pe_non)) pss_nil)
    (pss_one (ps_ret (pe_tup (pa_cons pe_str (pa_cons (pv 6) (pa_cons (pv 7) pa_nil))))))))), ?_⟩
  have ln : (ys.map V.str).length = ys.length := List.length_map _
  have at_of : ∀ r : Int, 0 ≤ r → r < ((ys.map V.str).length : Nat) → ∃ a, a ∈ ys ∧ atI (ys.map V.str) r = some (.str a) := fun r r0 r1 => by
    obtain ⟨m, rfl⟩ : ∃ m : Nat, r = m := ⟨r.toNat, by omega⟩
    have hm : m < ys.length := by omega
    exact ⟨ys[m], List.getElem_mem hm, atI_nat (by rw [List.getElem?_map, List.getElem?_eq_getElem hm]; rfl)⟩
  refine ⟨_, rfl, _, rfl, _, rfl, nm, _, rfl, .inl (SqL.of hn), p, _, rfl, hs, by omega, by omega, fun r1 H1 r10 r11 b1 s1 => ?_⟩
  obtain ⟨a, ha, ea⟩ := at_of r1 r10 r11
  have hn1 : H1 nm = some (.lst (ys.map V.str)) := (b1 nm n1).trans hn
  refine ⟨nm, _, r1, _, rfl, rfl, SqL.of hn1, ea, ?_⟩
  refine ⟨_, rfl, _, rfl, _, rfl, nm, _, rfl, .inl (SqL.of hn1), p, _, rfl, s1, by omega, by omega, fun r2 H2 r20 r21 b2 s2 => ?_⟩
  obtain ⟨b, hb, eb⟩ := at_of r2 r20 r21
  have hn2 : H2 nm = some (.lst (ys.map V.str)) := (b2 nm n1).trans hn1
  refine ⟨nm, _, r2, _, rfl, rfl, SqL.of hn2, eb, ?_⟩
  have bb : SameB p H H2 := b1.sb.trans b2.sb
  obtain ⟨kc, hkc, _, fc⟩ := hc
  obtain ⟨kd, hkd, _, fd'⟩ := hd
  obtain ⟨ca, hca, _, ca1⟩ := fc a ha
  obtain ⟨cb, hcb, _, cb1⟩ := fc b hb
  obtain ⟨da, hda, _, da1⟩ := fd' a ha
  obtain ⟨db, hdb, _, db1⟩ := fd' b hb
  have kc2 := bb _ _ n2 hkc
  have kd2 := bb _ _ n3 hkd
  have gda : DGet H2 dp (.str a) (some (.int da)) := by rw [← hda]; exact DGet.k (k := Sum.inr a) kd2
  have gdb : DGet H2 dp (.str b) (some (.int db)) := by rw [← hdb]; exact DGet.k (k := Sum.inr b) kd2
  have gca : DGet H2 cn (.str a) (some (.int ca)) := by rw [← hca]; exact DGet.k (k := Sum.inr a) kc2
  have gcb : DGet H2 cn (.str b) (some (.int cb)) := by rw [← hcb]; exact DGet.k (k := Sum.inr b) kc2
  refine ⟨_, rfl, _, rfl, dp, _, rfl, gda, _, rfl, _, rfl, dp, _, rfl, gdb, _, _, rfl, _, _, rfl, rfl, ?_⟩
  have none_ok : Q .non H2 := q _ _ bb s2 (.inl rfl)
  refine ⟨_, rfl, _, _, rfl, rfl, _, rfl, ?_⟩
  refine ite2 (fun c1 => iteP rfl none_ok) (fun c1 => ?_)
  refine ⟨_, rfl, _, rfl, cn, _, rfl, gca, _, rfl, _, rfl, cn, _, rfl, gcb, _, _, rfl, rfl, .inl ⟨by omega, by omega⟩, _, _, rfl, rfl, _, rfl, _, _, rfl, rfl, _, rfl, ?_⟩
  refine ite2 (fun c2 => iteP rfl none_ok) (fun c2 => ?_)
  refine ⟨_, rfl, _, rfl, by show 3 ≤ sizeLine; decide, fun t ht' => ?_⟩
  have st := same_upd ht' (.tup [.str "pair", .str a, .str b])
  have nt : t ≠ p := s2.ne ht'
  have ht2 : Has H2 (.ref tk) (.lst (ss.map Shp.dat)) := by
    obtain ⟨_, xs, er, hx, hl⟩ := has_lst ht
    cases er
    exact lst_has (bb _ _ n4 hx) (hasL_sb bb hs hl)
  obtain ⟨_, xs, er, hx, hl⟩ := has_lst (ht2.mono st)
  cases er
  have hd3 : Has (upd H2 t (.tup [.str "pair", .str a, .str b])) (.ref t) (Shp.pair a b).dat := by
    unfold Shp.dat Has
    refine ⟨t, _, rfl, upd_same, HasL.cons ?_ (HasL.cons ?_ (HasL.cons ?_ HasL.nil))⟩ <;> (unfold Has; rfl)
  refine ⟨_, rfl, tk, xs, _, (Shp.pair a b).dat, rfl, SqL.of hx, hl, hd3, shps_sts ss, Shp.st _, by have := shps_deps ss; omega, _, rfl, ?_⟩
  refine ite2 (fun c3 => ?_) (fun c3 => ?_)
  · exact q _ _ (bb.trans st.sb) (s2.keep (upd_ne (Ne.symm nt))) (.inl rfl)
  · refine ⟨_, rfl, _, rfl, by show 3 ≤ sizeLine; decide, fun t2 ht2' => ?_⟩
    have st2 := same_upd ht2' (.tup [.str "pair", .str a, .str b])
    have s3 : Strm (upd H2 t (.tup [.str "pair", .str a, .str b])) p := s2.keep (upd_ne (Ne.symm nt))
    have nt2 : t2 ≠ p := s3.ne ht2'
    refine q _ _ ((bb.trans st.sb).trans st2.sb) (s3.keep (upd_ne (Ne.symm nt2))) (.inr ⟨a, b, t2, ca, cb, da, db, ha, hb, rfl, ((bb.trans st.sb).free nt2 ht2'), upd_same, ?_, ?_, ?_, ?_, ?_⟩)
    · intro kvs e
      rw [hkc] at e
      cases e
      exact ⟨hca, hcb⟩
    · intro kvs e
      rw [hkd] at e
      cases e
      exact ⟨hda, hdb⟩
    · have c1' : ¬ ((2 : Int) < 1 + (if (db : Int) > da then (db : Int) else da)) := fun z => c1 (decide_eq_true z)
      split at c1' <;> omega
    · have c2' : ¬ ((top : Int) < 1 + (ca : Int) * cb) := fun z => c2 (decide_eq_true z)
      have e : ((ca * cb : Nat) : Int) = (ca : Int) * cb := by push_cast; rfl
      omega
    · intro hm
      exact c3 (List.any_eq_true.mpr ⟨_, List.mem_map.mpr ⟨_, hm, rfl⟩, Dat.beq_self _⟩)
end
end K4
set_option Elab.async false
set_option linter.all false
set_option maxRecDepth 100000
set_option maxHeartbeats 4100000
namespace L2
open PySem
def TK (H H' : Hp) : Prop := ∀ b xs, H b = some (.tup xs) → H' b = some (.tup xs)
theorem SameB.tk {p : Addr} {H H' : Hp} (a : SameB p H H') (s : Strm H p) : TK H H' := fun b xs h => a b _ (tup_ne_strm s h) h
mutual
theorem has_tk {H H' : Hp} (b : TK H H') : ∀ (d : Dat) {v : V}, d.st = true → Has H v d → Has H' v d
  | .str _, _, _, h => by unfold Has at h ⊢; exact h
  | .tup ds, _, t, h => by
    unfold Has at h ⊢
    obtain ⟨a, xs, h1, h2, h3⟩ := h
    unfold Dat.st at t
    exact ⟨a, xs, h1, b _ _ h2, hasL_tk b ds t h3⟩
  | .non, _, t, _ => by unfold Dat.st at t; cases t
  | .bl _, _, t, _ => by unfold Dat.st at t; cases t
  | .int _, _, t, _ => by unfold Dat.st at t; cases t
  | .lst _, _, t, _ => by unfold Dat.st at t; cases t
theorem hasL_tk {H H' : Hp} (b : TK H H') : ∀ (ds : List Dat) {xs : List V}, Dat.sts ds = true → HasL H xs ds → HasL H' xs ds
  | [], [], _, h => HasL.nil
  | [], _ :: _, _, h => by unfold HasL at h; exact h.elim
  | _ :: _, [], _, h => by unfold HasL at h; exact h.elim
  | d :: ds, x :: xs, t, h => by
    unfold HasL at h
    unfold Dat.sts at t
    have t' := Bool.and_eq_true_iff.mp t
    exact HasL.cons (has_tk b d t'.1 h.1) (hasL_tk b ds t'.2 h.2)
end
def kindD (k : Str × Shp) : Dat := .tup [.str k.1, k.2.dat]
theorem kinds_sts : ∀ ks : List (Str × Shp), Dat.sts (ks.map kindD) = true
  | [] => by unfold Dat.sts; rfl
  | k :: ks => by
    rw [List.map_cons]; unfold Dat.sts
    rw [kinds_sts ks]
    have e := Shp.st k.2
    simp [kindD, Dat.st, Dat.sts, e]
def KK1 (top : Nat) (c d : Str → Nat) (ahead : List Str) (y : Str) : Shp → Prop
  | .tags ts => 1 ≤ ts.length ∧ ts.length ≤ 4 ∧ c y = 1 + ts.length ∧ d y = 0 ∧ ts.Nodup
  | .pair a b => a ∈ ahead ∧ b ∈ ahead ∧ c y = 1 + c a * c b ∧ c y ≤ top ∧ d y = 1 + max (d a) (d b) ∧ d y ≤ 2
def KK (top : Nat) (c d : Str → Nat) (ks : List (Str × Shp)) : Prop := ∀ (i : Nat) (y : Str) (s : Shp), ks[i]? = some (y, s) → KK1 top c d ((ks.take i).map (·.1)) y s
theorem KK1.of {top : Nat} {c d c' d' : Str → Nat} {ahead : List Str} {y : Str} {s : Shp} (h : KK1 top c d ahead y s) (ec : ∀ z, z ∈ ahead ∨ z = y → c' z = c z) (ed : ∀ z, z ∈ ahead ∨ z = y → d' z = d z) : KK1 top c' d' ahead y s := by
  cases s with
  | tags ts =>
    obtain ⟨h1, h2, h3, h4, h5⟩ := h
    exact ⟨h1, h2, (ec y (.inr rfl)).trans h3, (ed y (.inr rfl)).trans h4, h5⟩
  | pair a b =>
    obtain ⟨h1, h2, h3, h4, h5, h6⟩ := h
    refine ⟨h1, h2, ?_, ?_, ?_, ?_⟩
    · rw [ec y (.inr rfl), ec a (.inl h1), ec b (.inl h2)]; exact h3
    · rw [ec y (.inr rfl)]; exact h4
    · rw [ed y (.inr rfl), ed a (.inl h1), ed b (.inl h2)]; exact h5
    · rw [ed y (.inr rfl)]; exact h6
theorem KK.snoc {top : Nat} {c d : Str → Nat} {ks : List (Str × Shp)} {y : Str} {s : Shp} {n m : Nat} (h : KK top c d ks) (nd : (ks.map (·.1) ++ [y]).Nodup)
    (h1 : KK1 top (fun z => if z = y then n else c z) (fun z => if z = y then m else d z) (ks.map (·.1)) y s) : KK top (fun z => if z = y then n else c z) (fun z => if z = y then m else d z) (ks ++ [(y, s)]) := by
  have ny : ∀ z ∈ ks.map (·.1), z ≠ y := fun z hz e => by
    have q := List.nodup_append.mp nd
    exact q.2.2 z hz y (by simp) e
  intro i y' s' e
  by_cases hi : i < ks.length
  · rw [List.getElem?_append_left hi] at e
    rw [List.take_append_of_le_length (Nat.le_of_lt hi)]
    have hm : y' ∈ ks.map (·.1) := List.mem_map.mpr ⟨(y', s'), List.mem_of_getElem? e, rfl⟩
    have inn : ∀ z, z ∈ (ks.take i).map (·.1) ∨ z = y' → z ≠ y := fun z hz => by
      rcases hz with hz | hz
      · obtain ⟨k, hk, rfl⟩ := List.mem_map.mp hz
        exact ny _ (List.mem_map.mpr ⟨k, List.mem_of_mem_take hk, rfl⟩)
      · rw [hz]; exact ny _ hm
    exact (h i y' s' e).of (fun z hz => if_neg (inn z hz)) (fun z hz => if_neg (inn z hz))
  · have hl : i = ks.length := by
      have := (List.getElem?_eq_some_iff.mp e).1
      rw [List.length_append, List.length_singleton] at this
      omega
    subst hl
    rw [List.getElem?_append_right (Nat.le_refl _), Nat.sub_self] at e
    have e' : some (y, s) = some (y', s') := e
    cases e'
    rw [List.take_left]
    exact h1
structure KJ (H : Hp) (p nm tg cn dp kl : Addr) (top : Nat) (ys tgs : List Str) (i : Nat) (kc kd : List (Key × V)) (ks : List (Str × Shp)) (c d : Str → Nat) (xs : List V) (H' : Hp) : Prop where
  sb : SameB p H H'
  st : Strm H' p
  nms : H' nm = some (.lst (ys.map V.str))
  tgS : H' tg = some (.lst (tgs.map V.str))
  cns : H' cn = some (.dK kc)
  dps : H' dp = some (.dK kd)
  kls : H' kl = some (.lst xs)
  lc : kc.length ≤ i
  ld : kd.length ≤ i
  vc : ∀ y ∈ ys.take i, valV kc (Sum.inr y) = some (.int (c y)) ∧ c y ≤ 1000
  vd : ∀ y ∈ ys.take i, valV kd (Sum.inr y) = some (.int (d y)) ∧ d y ≤ 1000
  nk : ks.map (·.1) = ys.take i
  kk : KK top c d ks
  hs : HasL H' xs (ks.map kindD)
  tq : ∀ (i' : Nat) (y : Str) (ts : List Str), ks[i']? = some (y, .tags ts) → ∃ r, r < 4 ∧ ts = (tgs.drop (4 * i')).take (1 + r)
  pq : ∀ (i1 i2 : Nat) (y1 y2 a b : Str), ks[i1]? = some (y1, .pair a b) → ks[i2]? = some (y2, .pair a b) → i1 = i2
structure KG (ks : List (Str × Shp)) : Prop where
  nm : Wds 97 (ks.map (·.1))
  tg : ∃ tgs, Wds 65 tgs ∧ ∀ (i' : Nat) (y : Str) (ts : List Str), ks[i']? = some (y, .tags ts) → ∃ r, r < 4 ∧ ts = (tgs.drop (4 * i')).take (1 + r)
  pr : ∀ (i1 i2 : Nat) (y1 y2 a b : Str), ks[i1]? = some (y1, .pair a b) → ks[i2]? = some (y2, .pair a b) → i1 = i2
theorem KG.tags {ks : List (Str × Shp)} (g : KG ks) {y : Str} {ts : List Str} (h : (y, Shp.tags ts) ∈ ks) : Wds 65 ts := by
  obtain ⟨tgs, w, q⟩ := g.tg
  obtain ⟨i, hi, e⟩ := List.mem_iff_getElem.mp h
  obtain ⟨r, _, rfl⟩ := q i y ts (by rw [List.getElem?_eq_getElem hi, e])
  have sub : ∀ z, z ∈ (tgs.drop (4 * i)).take (1 + r) → z ∈ tgs := fun z hz => List.mem_of_mem_drop (List.mem_of_mem_take hz)
  exact ⟨w.nd.sublist ((List.take_sublist _ _).trans (List.drop_sublist _ _)), fun z hz => w.len z (sub z hz), fun z hz => w.abc z (sub z hz)⟩
structure KA (H : Hp) (p nm tg cn dp kl : Addr) : Prop where
  fn : H nm = none
  ft : H tg = none
  fc : H cn = none
  fd : H dp = none
  fk : H kl = none
  nmp : nm ≠ p
  tgp : tg ≠ p
  cnp : cn ≠ p
  dpp : dp ≠ p
  klp : kl ≠ p
  cd : cn ≠ dp
  nkl : nm ≠ kl
  tkl : tg ≠ kl
theorem take_snoc {α : Type} {l : List α} {i : Nat} {a : α} (h : l[i]? = some a) : l.take (i + 1) = l.take i ++ [a] := by
  have hi := (List.getElem?_eq_some_iff.mp h).1
  rw [List.take_succ_eq_append_getElem hi, (List.getElem?_eq_some_iff.mp h).2]
theorem KJ.step {H : Hp} {p nm tg cn dp kl t : Addr} {top : Nat} {ys tgs : List Str} {i : Nat} {kc kd : List (Key × V)} {ks : List (Str × Shp)} {c d : Str → Nat} {xs : List V} {H1 : Hp} {y : Str} {s : Shp} {v : V} {n m : Nat}
    (j : KJ H p nm tg cn dp kl top ys tgs i kc kd ks c d xs H1) (a : KA H p nm tg cn dp kl) (nd : ys.Nodup) (hy : ys[i]? = some y) (hv : Has H1 v s.dat) (hn : n ≤ 1000) (hm : m ≤ 1000)
    (k1 : KK1 top (fun z => if z = y then n else c z) (fun z => if z = y then m else d z) (ks.map (·.1)) y s)
    (g1 : ∀ ts, s = .tags ts → ∃ r, r < 4 ∧ ts = (tgs.drop (4 * i)).take (1 + r)) (g2 : ∀ a b, s = .pair a b → s ∉ ks.map (·.2))
    (ht : upd (upd H1 cn (.dK (putK kc (Sum.inr y) (.int n)))) dp (.dK (putK kd (Sum.inr y) (.int m))) t = none) :
    KJ H p nm tg cn dp kl top ys tgs (i + 1) (putK kc (Sum.inr y) (.int n)) (putK kd (Sum.inr y) (.int m)) (ks ++ [(y, s)]) (fun z => if z = y then n else c z) (fun z => if z = y then m else d z) (xs ++ [.ref t])
      (upd (upd (upd (upd H1 cn (.dK (putK kc (Sum.inr y) (.int n)))) dp (.dK (putK kd (Sum.inr y) (.int m)))) t (.tup [.str y, v])) kl (.lst (xs ++ [.ref t]))) := by
  have tc : t ≠ cn := fun e => by rw [e, upd_ne a.cd, upd_same] at ht; cases ht
  have td : t ≠ dp := fun e => by rw [e, upd_same] at ht; cases ht
  have h1t : H1 t = none := by rw [upd_ne td, upd_ne tc] at ht; exact ht
  have ne1 : ∀ b o, H1 b = some o → b ≠ t := fun b o e => ne_of_none e h1t
  have kc1 : kl ≠ cn := ne_of j.kls j.cns (fun z => nomatch z)
  have kd1 : kl ≠ dp := ne_of j.kls j.dps (fun z => nomatch z)
  have klt := ne1 _ _ j.kls
  have at_ : ∀ b, b ≠ cn → b ≠ dp → b ≠ t → b ≠ kl → (upd (upd (upd (upd H1 cn (.dK (putK kc (Sum.inr y) (.int n)))) dp (.dK (putK kd (Sum.inr y) (.int m)))) t (.tup [.str y, v])) kl (.lst (xs ++ [.ref t]))) b = H1 b := fun b b1 b2 b3 b4 => by
    rw [upd_ne b4, upd_ne b3, upd_ne b2, upd_ne b1]
  have tk : TK H1 (upd (upd (upd (upd H1 cn (.dK (putK kc (Sum.inr y) (.int n)))) dp (.dK (putK kd (Sum.inr y) (.int m)))) t (.tup [.str y, v])) kl (.lst (xs ++ [.ref t]))) := fun b zs e =>
    (at_ b (ne_of e j.cns (fun z => nomatch z)) (ne_of e j.dps (fun z => nomatch z)) (ne1 _ _ e) (ne_of e j.kls (fun z => nomatch z))).trans e
  have nm1 : nm ≠ cn := ne_of j.nms j.cns (fun z => nomatch z)
  have nm2 : nm ≠ dp := ne_of j.nms j.dps (fun z => nomatch z)
  have tg1 : tg ≠ cn := ne_of j.tgS j.cns (fun z => nomatch z)
  have tg2 : tg ≠ dp := ne_of j.tgS j.dps (fun z => nomatch z)
  have tp : t ≠ p := j.st.ne h1t
  have yn : ∀ z ∈ ys.take i, z ≠ y := fun z hz e => by
    have q : (ys.take i ++ [y]).Nodup := by rw [← take_snoc hy]; exact nd.sublist (List.take_sublist _ _)
    exact (List.nodup_append.mp q).2.2 z hz y (by simp) e
  have lk : ks.length = i := by
    have z1 := congrArg List.length j.nk
    have z2 := (List.getElem?_eq_some_iff.mp hy).1
    rw [List.length_map, List.length_take] at z1
    omega
  have new : ∀ (i' : Nat) (y' : Str) (s' : Shp), (ks ++ [(y, s)])[i']? = some (y', s') → ks[i']? = some (y', s') ∨ (i' = i ∧ s' = s) := fun i' y' s' e => by
    by_cases hi : i' < ks.length
    · rw [List.getElem?_append_left hi] at e; exact .inl e
    · have hl : i' = ks.length := by
        have z := (List.getElem?_eq_some_iff.mp e).1
        rw [List.length_append, List.length_singleton] at z
        omega
      subst hl
      rw [List.getElem?_append_right (Nat.le_refl _), Nat.sub_self] at e
      have e' : some (y, s) = some (y', s') := e
      cases e'
      exact .inr ⟨lk, rfl⟩
  refine ⟨fun b o hb e => ?_, ?_, ?_, ?_, ?_, ?_, upd_same, ?_, ?_, ?_, ?_, ?_, ?_, ?_, fun i' y' ts e => ?_, fun i1 i2 y1 y2 a' b' e1 e2 => ?_⟩
  · have e1 := j.sb b o hb e
    exact (at_ b (ne_of_none e a.fc) (ne_of_none e a.fd) (ne1 _ _ e1) (ne_of_none e a.fk)).trans e1
  · exact j.st.keep (at_ p (Ne.symm a.cnp) (Ne.symm a.dpp) (Ne.symm tp) (Ne.symm a.klp))
  · exact (at_ nm nm1 nm2 (ne1 _ _ j.nms) a.nkl).trans j.nms
  · exact (at_ tg tg1 tg2 (ne1 _ _ j.tgS) a.tkl).trans j.tgS
  · rw [upd_ne (Ne.symm kc1), upd_ne (Ne.symm tc), upd_ne a.cd, upd_same]
  · rw [upd_ne (Ne.symm kd1), upd_ne (Ne.symm td), upd_same]
  · have := length_putK kc (Sum.inr y) (.int n); have := j.lc; omega
  · have := length_putK kd (Sum.inr y) (.int m); have := j.ld; omega
  · intro z hz
    rw [take_snoc hy] at hz
    rw [valV_put]
    rcases List.mem_append.mp hz with h | h
    · have e : ¬ (Sum.inr z : Key) = Sum.inr y := fun q => yn z h (by injection q)
      show (if (Sum.inr z : Key) = Sum.inr y then _ else _) = some (V.int ((if z = y then n else c z : Nat) : Int)) ∧ (if z = y then n else c z) ≤ 1000
      rw [if_neg e, if_neg (yn z h)]
      exact j.vc z h
    · rw [List.mem_singleton.mp h]
      show (if (Sum.inr y : Key) = Sum.inr y then _ else _) = some (V.int ((if y = y then n else c y : Nat) : Int)) ∧ (if y = y then n else c y) ≤ 1000
      rw [if_pos rfl, if_pos rfl]; exact ⟨rfl, hn⟩
  · intro z hz
    rw [take_snoc hy] at hz
    rw [valV_put]
    rcases List.mem_append.mp hz with h | h
    · have e : ¬ (Sum.inr z : Key) = Sum.inr y := fun q => yn z h (by injection q)
      show (if (Sum.inr z : Key) = Sum.inr y then _ else _) = some (V.int ((if z = y then m else d z : Nat) : Int)) ∧ (if z = y then m else d z) ≤ 1000
      rw [if_neg e, if_neg (yn z h)]
      exact j.vd z h
    · rw [List.mem_singleton.mp h]
      show (if (Sum.inr y : Key) = Sum.inr y then _ else _) = some (V.int ((if y = y then m else d y : Nat) : Int)) ∧ (if y = y then m else d y) ≤ 1000
      rw [if_pos rfl, if_pos rfl]; exact ⟨rfl, hm⟩
  · rw [List.map_append, j.nk, take_snoc hy]; rfl
  · exact j.kk.snoc (by rw [j.nk, ← take_snoc hy]; exact nd.sublist (List.take_sublist _ _)) k1
  · rw [List.map_append]
    refine HasL.append (hasL_tk tk _ (kinds_sts ks) j.hs) (HasL.one ?_)
    show Has _ (.ref t) (kindD (y, s))
    unfold kindD Has
    refine ⟨t, [.str y, v], rfl, ?_, HasL.cons (by unfold Has; rfl) (HasL.cons (has_tk tk _ (Shp.st s) hv) HasL.nil)⟩
    rw [upd_ne (Ne.symm klt), upd_same]
  · rcases new i' y' _ e with h | ⟨rfl, h⟩
    · exact j.tq i' y' ts h
    · exact g1 ts h.symm
  · have mem : ∀ (i' : Nat) (y' : Str) (s' : Shp), ks[i']? = some (y', s') → s' ∈ ks.map (·.2) := fun i' y' s' e => List.mem_map.mpr ⟨(y', s'), List.mem_of_getElem? e, rfl⟩
    rcases new i1 y1 _ e1 with h1 | ⟨h1, h1'⟩
    · rcases new i2 y2 _ e2 with h2 | ⟨h2, h2'⟩
      · exact j.pq i1 i2 y1 y2 a' b' h1 h2
      · exact absurd (h2' ▸ mem i1 y1 _ h1) (g2 a' b' h2'.symm)
    · rcases new i2 y2 _ e2 with h2 | ⟨h2, h2'⟩
      · exact absurd (h1' ▸ mem i2 y2 _ h2) (g2 a' b' h1'.symm)
      · rw [h1, h2]
end L2
set_option Elab.async false
set_option linter.all false
set_option maxRecDepth 100000
set_option maxHeartbeats 8000000
namespace L2
open PySem
theorem asg_c {v : V} {k : Nat} {u : TS} {D : Ends} {σ : St} {H : Hp} (h : u D (σ.set k (some v)) H) : tSeq (tAsg (tC v) (gName k)) u D σ H := h
theorem cut_take (xs : List V) (k : Nat) (h : k ≤ xs.length) : cutV xs none (some (k : Int)) = xs.take k := by
  unfold cutV
  rw [HT.sIx_none, HT.sIx_nat, List.drop_zero, Nat.sub_zero, Nat.min_eq_left h]
theorem cut_mid (xs : List V) (a b : Nat) (h1 : a ≤ b) (h : b ≤ xs.length) : cutV xs (some (a : Int)) (some (b : Int)) = (xs.drop a).take (b - a) := by
  unfold cutV
  rw [HT.sIx_nat, HT.sIx_nat, Nat.min_eq_left h, Nat.min_eq_left (Nat.le_trans h1 h)]
theorem strs_has {H : Hp} : ∀ ts : List Str, HasL H (ts.map V.str) (ts.map Dat.str)
  | [] => HasL.nil
  | t :: ts => HasL.cons (by unfold Has; rfl) (strs_has ts)
theorem has_kind {H : Hp} {x : V} {y : Str} {s : Shp} (h : Has H x (kindD (y, s))) : ∃ a v, x = .ref a ∧ H a = some (.tup [.str y, v]) ∧ Has H v s.dat := by
  unfold kindD Has at h
  obtain ⟨a, xs, rfl, ha, hl⟩ := h
  match xs, hl with
  | [u, v], hl =>
    unfold HasL at hl
    obtain ⟨h1, h2⟩ := hl
    unfold HasL at h2
    unfold Has at h1
    subst h1
    exact ⟨a, v, rfl, ha, h2.1⟩
  | [], hl => unfold HasL at hl; exact hl.elim
  | [x], hl => unfold HasL at hl; obtain ⟨_, h2⟩ := hl; unfold HasL at h2; exact h2.elim
  | _ :: _ :: _ :: _, hl => unfold HasL at hl; obtain ⟨_, h2⟩ := hl; unfold HasL at h2; obtain ⟨_, h3⟩ := h2; unfold HasL at h3; exact h3.elim
theorem seq_named {t u : TS} {D : Ends} {σ : St} {H : Hp} (Cond : St → Hp → Prop) (key : ∀ s1 H1, Cond s1 H1 → u D s1 H1) (main : (∀ s1 H1, Cond s1 H1 → u D s1 H1) → t { D with nx := u D } σ H) : tSeq t u D σ H := main key
theorem KJ.sameB {H : Hp} {p nm tg cn dp kl : Addr} {top : Nat} {ys tgs : List Str} {i : Nat} {kc kd : List (Key × V)} {ks : List (Str × Shp)} {c d : Str → Nat} {xs : List V} {H1 H2 : Hp} (j : KJ H p nm tg cn dp kl top ys tgs i kc kd ks c d xs H1) (a : KA H p nm tg cn dp kl)
    (b : SameB p H1 H2) (s : Strm H2 p) : KJ H p nm tg cn dp kl top ys tgs i kc kd ks c d xs H2 :=
  ⟨j.sb.trans b, s, b _ _ a.nmp j.nms, b _ _ a.tgp j.tgS, b _ _ a.cnp j.cns, b _ _ a.dpp j.dps, b _ _ a.klp j.kls, j.lc, j.ld, j.vc, j.vd, j.nk, j.kk, hasL_tk (b.tk j.st) _ (kinds_sts ks) j.hs, j.tq, j.pq⟩
end L2
namespace K4
open PySem L2
theorem scKinds : FnScope ["stream", "most", "top", "names", "tags", "counts", "depths", "kinds", "k", "shape"] ["stream", "most", "top"] (defScope sKinds) := ⟨rfl, rfl, rfl, by decide +kernel, rfl, by decide +kernel, by decide +kernel⟩
theorem nd_kind : List.Nodup [("kind" : Str)] := by decide +kernel
section
variable {P : Program} {w : World} {K : PySem.W.Frag} {mg : Str → Option Value} {base : Heap} {f gt gs gw gp : Addr} {fd td sd wdd pd : FuncData}
def spKinds : Sp := fun vs H Q _ => ∃ (p : Addr) (most top : Nat), vs = [.ref p, .int most, .int top] ∧ Strm H p ∧ 0 < most ∧ most ≤ 6 ∧ top ≤ 1000 ∧
  ∀ (r kl cn : Addr) (ks : List (Str × Shp)) (c d : Str → Nat) (xs : List V) (H' : Hp), SameB p H H' → Strm H' p → H r = none → r ≠ p → H' r = some (.tup [.ref kl, .ref cn]) → H kl = none → kl ≠ p → H' kl = some (.lst xs) → HasL H' xs (ks.map kindD) →
    KK top c d ks → (ks.map (·.1)).Nodup → 0 < ks.length → ks.length ≤ 6 → KG ks → Q (.ref r) H'
theorem ok_kinds {n : Nat} (B : Blt mg) (F : Fun K "_law_kinds" "_law_kinds" sKinds f fd)
    (GT : FnOk P w K mg base CX0 n gt td ["stream", "many"] spTake) (bT : Binds K td ["stream", "many"] []) (kT : PySem.W.keepIn K (.ref gt) = true) (mT : mg "_law_take" = some (.ref gt))
    (GS : FnOk P w K mg base CX0 n gs sd ["stream", "many"] spSmall) (bS : Binds K sd ["stream", "many"] []) (kS : PySem.W.keepIn K (.ref gs) = true) (mS : mg "_law_small" = some (.ref gs))
    (GW : FnOk P w K mg base CX0 n gw wdd ["stream", "many", "letters", "ways"] spWords) (bW : Binds K wdd ["stream", "many", "letters", "ways"] []) (kW : PySem.W.keepIn K (.ref gw) = true) (mW : mg "_law_words" = some (.ref gw))
    (GP : FnOk P w K mg base CX0 n gp pd ["stream", "names", "counts", "depths", "taken", "top"] (spPair K)) (bP : Binds K pd ["stream", "names", "counts", "depths", "taken", "top"] []) (kP : PySem.W.keepIn K (.ref gp) = true) (mP : mg "_law_pair" = some (.ref gp)) :
    FnOk P w K mg base CX0 (n + 1) f fd ["stream", "most", "top"] spKinds := by
  refine F.ok scKinds (fun vs H Q E h => ?_) (fun cdv A outer s H vs Q E hr h => ?_)
  · obtain ⟨p, most, top, rfl, _⟩ := h
    rfl
  obtain ⟨p, most, top, rfl, hs, m0, m6, t3, q⟩ := h
  have hu := hu_of hr
  refine ⟨_, pss_cons (ps_set (i := 3) scKinds.nd rfl (Or.inl rfl) (pe_call GS hr rfl mS kS bS .nil pass0 (pa_cons (pv 0) (pa_cons (pe_op op_add pe_int (pe_call GT hr rfl mT kT bT .nil pass0 (pa_cons (pv 0) (pa_cons (pv 1) pa_nil)))) pa_nil))))
    (pss_cons (ps_set (i := 4) scKinds.nd rfl (Or.inl rfl) (pe_call GW hr rfl mW kW bW .nil pass0 (pa_cons (pv 0) (pa_cons (pe_op op_mul pe_int (pe_callB call_len_seq rfl B.len PySem.boot_len (pa_cons (pv 3) pa_nil))) (pa_cons pe_str (pa_cons pe_int pa_nil))))))
    (pss_cons (ps_set (i := 5) scKinds.nd rfl (Or.inl rfl) pe_dnewK)
    (pss_cons (ps_set (i := 6) scKinds.nd rfl (Or.inl rfl) pe_dnewK)
    (pss_cons (ps_set (i := 7) scKinds.nd rfl (Or.inl rfl) (pe_lst pa_nil))
    (pss_cons (ps_for PassesOwn.never rfl (pi_range1 rfl B.range (pa_cons (pe_callB call_len_seq rfl B.len PySem.boot_len (pa_cons (pv 3) pa_nil)) pa_nil)) (pg_name (i := 8) scKinds.nd rfl (Or.inl rfl))
      (pss_cons (ps_set (i := 9) scKinds.nd rfl (Or.inl rfl) pe_non)
      (pss_cons (ps_if (PW.pt (pw_and (pt_cmpR op_gt (pv 8) pe_int (nomark _)) (pw_and1 (pt_cmpR op_eq (pe_call GT hr rfl mT kT bT .nil pass0 (pa_cons (pv 0) (pa_cons pe_int pa_nil))) pe_int (nomark _)))))
        (pss_one (ps_set (i := 9) scKinds.nd rfl (Or.inl rfl) (pe_call GP hr rfl mP kP bP .nil pass0 (pa_cons (pv 0) (pa_cons (pe_slice sl_list (pv 3) po_none (po_some (pv 8))) (pa_cons (pv 5) (pa_cons (pv 6) (pa_cons
          (pe_cmpr ["kind"] [] (pi_list (pv 7)) (gk_name (i := 0) (by decide)) (fun cl C fp s H => pg_name (i := 0) nd_kind rfl (Or.inl rfl) (Or.inr rfl)) (fun cl C fp s H => pe_ix (r := rIxT K) ix_tup (pv 0) pe_int (fun _ _ => rfl))) (pa_cons (pv 2) pa_nil))))))))) pss_nil)
      (pss_cons (ps_if (pt_cmpR op_isN (pv 9) pe_non (nomark _))
        (pss_cons (ps_set (i := 9) scKinds.nd rfl (Or.inl rfl) (pe_tup (pa_cons pe_str (pa_cons (pe_callTy call_tuple_of rfl B.tuple boot_tuple' (pa_cons (pe_slice sl_list (pv 4) (po_some (pe_op op_mul pe_int (pv 8)))
            (po_some (pe_op op_add (pe_op op_add (pe_op op_mul pe_int (pv 8)) pe_int) (pe_call GT hr rfl mT kT bT .nil pass0 (pa_cons (pv 0) (pa_cons pe_int pa_nil)))))) pa_nil)) pa_nil))))
          (pss_cons (ps_dput hu (pv 5) (pe_ix ix_list (pv 3) (pv 8) (fun _ _ => rfl)) (pe_op op_add pe_int (pe_callB call_len_seq rfl B.len PySem.boot_len (pa_cons (pe_ix ix_tup (pv 9) pe_int (fun _ _ => rfl)) pa_nil))) rfl)
          (pss_one (ps_dput hu (pv 6) (pe_ix ix_list (pv 3) (pv 8) (fun _ _ => rfl)) pe_int rfl))))
        (pss_cons (ps_dput hu (pv 5) (pe_ix ix_list (pv 3) (pv 8) (fun _ _ => rfl)) (pe_op op_add pe_int (pe_op op_mul (pe_dget hu (pv 5) (pe_ix ix_tup (pv 9) pe_int (fun _ _ => rfl)) (fun _ _ => rfl)) (pe_dget hu (pv 5) (pe_ix ix_tup (pv 9) pe_int (fun _ _ => rfl)) (fun _ _ => rfl)))) rfl)
          (pss_one (ps_dput hu (pv 6) (pe_ix ix_list (pv 3) (pv 8) (fun _ _ => rfl)) (pe_op op_add pe_int (pe_callB (call_max2 rfl) rfl B.max boot_max' (pa_cons (pe_dget hu (pv 6) (pe_ix ix_tup (pv 9) pe_int (fun _ _ => rfl)) (fun _ _ => rfl)) (pa_cons (pe_dget hu (pv 6) (pe_ix ix_tup (pv 9) pe_int (fun _ _ => rfl)) (fun _ _ => rfl)) pa_nil)))) rfl))))
      (pss_one (ps_expr (pe_bm PySem.F.plainAttrs_list PySem.F.slot_list_append PySem.F.type_list_append mt_append (pv 7) (pa_cons (pe_tup (pa_cons (pe_ix ix_list (pv 3) (pv 8) (fun _ _ => rfl)) (pa_cons (pv 9) pa_nil))) pa_nil)))))))
    ) (pss_one (ps_ret (pe_tup (pa_cons (pv 7) (pa_cons (pv 5) pa_nil)))))))))), ?_⟩
  refine ⟨_, rfl, _, rfl, _, rfl, p, most, rfl, hs, by omega, by omega, fun r H1 r0 r1 b1 s1 => ?_⟩
  obtain ⟨rn, rfl⟩ : ∃ m : Nat, r = m := ⟨r.toNat, by omega⟩
  refine ⟨_, _, rfl, rfl, p, 1 + rn, (by show [V.ref p, V.int (1 + (rn : Int))] = [V.ref p, V.int ((1 + rn : Nat) : Int)]; push_cast; rfl), s1, by omega, fun nm ys H2 b2 s2 f2 np2 hnm hly wds => ?_⟩
  have lm : (ys.map V.str).length = ys.length := List.length_map _
  refine ⟨_, rfl, _, rfl, nm, _, rfl, .inl (SqL.of hnm), _, _, rfl, rfl, .inl ⟨by decide, by decide⟩, p, 4 * ys.length, 65, 2,
    (by rw [← great_abc, lm]; show [V.ref p, V.int (4 * (ys.length : Int)), _, V.int 2] = [V.ref p, V.int ((4 * ys.length : Nat) : Int), _, V.int 2]; push_cast; rfl), s2, .inr rfl, by decide, .inl ⟨by decide, by omega⟩, fun tg tgs H3 b3 s3 f3 np3 htg hlt wdt => ?_⟩
  intro cn hcn dp hdp
  refine ⟨by show 0 ≤ sizeLine; decide, fun kl hkl => ?_⟩
  have bH : SameB p H H3 := (b1.sb.trans b2).trans b3
  have hnm3 := b3 _ _ np2 hnm
  have cd : cn ≠ dp := fun e => by rw [← e, upd_same] at hdp; cases hdp
  have hdp3 : H3 dp = none := by rw [upd_ne (Ne.symm cd)] at hdp; exact hdp
  have kcn : kl ≠ cn := fun e => by rw [e, upd_ne cd, upd_same] at hkl; cases hkl
  have kdp : kl ≠ dp := fun e => by rw [e, upd_same] at hkl; cases hkl
  have hkl3 : H3 kl = none := by rw [upd_ne kdp, upd_ne kcn] at hkl; exact hkl
  have a : KA H p nm tg cn dp kl := ⟨b1.sb.free np2 f2, (b1.sb.trans b2).free np3 f3, bH.free (s3.ne hcn) hcn, bH.free (s3.ne hdp3) hdp3, bH.free (s3.ne hkl3) hkl3, np2, np3, s3.ne hcn, s3.ne hdp3, s3.ne hkl3, cd, ne_of_none hnm3 hkl3, ne_of_none htg hkl3⟩
  have nmc : nm ≠ cn := ne_of_none hnm3 hcn
  have nmd : nm ≠ dp := ne_of_none hnm3 hdp3
  have tgc : tg ≠ cn := ne_of_none htg hcn
  have tgd : tg ≠ dp := ne_of_none htg hdp3
  have hnm6 : upd (upd (upd H3 cn (.dK [])) dp (.dK [])) kl (.lst []) nm = some (.lst (ys.map V.str)) := by rw [upd_ne a.nkl, upd_ne nmd, upd_ne nmc]; exact hnm3
  refine ⟨_, rfl, nm, _, rfl, .inl (SqL.of hnm6), _, rfl, by omega, by omega, ?_⟩
  refine for_range (n := (((ys.map V.str).length : Nat) : Int).toNat) (fun i σ H' => ∃ kc kd ks c d xs, KJ H p nm tg cn dp kl top ys tgs i kc kd ks c d xs H' ∧
    ∃ z1 z2, σ = [some (.ref p), some (.int most), some (.int top), some (.ref nm), some (.ref tg), some (.ref cn), some (.ref dp), some (.ref kl), z1, z2]) ?_ ?_ ?_
  · refine ⟨[], [], [], fun _ => 0, fun _ => 0, [], ⟨?_, ?_, hnm6, ?_, ?_, ?_, upd_same, Nat.le_refl _, Nat.le_refl _, fun y hy => by simp at hy, fun y hy => by simp at hy, rfl, fun i y s e => by simp at e, HasL.nil, fun i y s e => by simp at e, fun i j y z a b e => by simp at e⟩, _, _, rfl⟩
    · exact (((bH.put a.fc)).put a.fd).put a.fk
    · exact s3.keep (by rw [upd_ne (Ne.symm a.klp), upd_ne (Ne.symm a.dpp), upd_ne (Ne.symm a.cnp)])
    · rw [upd_ne a.tkl, upd_ne tgd, upd_ne tgc]; exact htg
    · rw [upd_ne (Ne.symm kcn), upd_ne cd, upd_same]
    · rw [upd_ne (Ne.symm kdp), upd_same]
  · rintro i σ H' hi ⟨kc, kd, ks, c, d, xs, j, z1, z2, rfl⟩
    have hi' : i < ys.length := by omega
    obtain ⟨y, hy⟩ : ∃ y, ys[i]? = some y := ⟨ys[i], List.getElem?_eq_getElem hi'⟩
    have i0 : (0 + (i : Int)) = (i : Int) := by omega
    have aty : atI (ys.map V.str) (0 + (i : Int)) = some (.str y) := by rw [i0]; exact atI_nat (by rw [List.getElem?_map, hy]; rfl)
    have ltop : i ≤ ys.length := Nat.le_of_lt hi'
    have ly8 : ys.length ≤ 6 := by omega
    refine asg_c ?_
    refine seq_named (fun s1 H1 => ∃ v, KJ H p nm tg cn dp kl top ys tgs i kc kd ks c d xs H1 ∧ s1 = [some (.ref p), some (.int most), some (.int top), some (.ref nm), some (.ref tg), some (.ref cn), some (.ref dp), some (.ref kl), some (.int (0 + (i : Int))), some v] ∧
      (v = .non ∨ ∃ (e g : Str) (r : Addr), v = .ref r ∧ H1 r = some (.tup [.str "pair", .str e, .str g]) ∧ e ∈ ys.take i ∧ g ∈ ys.take i ∧ 1 + max (d e) (d g) ≤ 2 ∧ 1 + c e * c g ≤ top ∧ Shp.pair e g ∉ ks.map (·.2))) ?_ ?_
    · rintro s1 H1 ⟨v, j1, rfl, hv⟩
      refine seq_named (fun s2 H2 => ∃ (H1 : Hp) (s : Shp) (v : V) (n m : Nat), KJ H p nm tg cn dp kl top ys tgs i kc kd ks c d xs H1 ∧ Has H1 v s.dat ∧ n ≤ 1000 ∧ m ≤ 1000 ∧
        KK1 top (fun z => if z = y then n else c z) (fun z => if z = y then m else d z) (ks.map (·.1)) y s ∧ (∀ ts, s = .tags ts → ∃ r, r < 4 ∧ ts = (tgs.drop (4 * i)).take (1 + r)) ∧ (∀ a b, s = .pair a b → s ∉ ks.map (·.2)) ∧ H2 = upd (upd H1 cn (.dK (putK kc (Sum.inr y) (.int n)))) dp (.dK (putK kd (Sum.inr y) (.int m))) ∧
        s2 = [some (.ref p), some (.int most), some (.int top), some (.ref nm), some (.ref tg), some (.ref cn), some (.ref dp), some (.ref kl), some (.int (0 + (i : Int))), some v]) ?_ ?_
      · rintro s2 H2 ⟨H1, s, v, n', m', j1, hv, hn', hm', k1, g1, g2, rfl, rfl⟩
        have kc1 : kl ≠ cn := kcn
        have nm1 : nm ≠ cn := nmc
        have hk2 : upd (upd H1 cn (.dK (putK kc (Sum.inr y) (.int n')))) dp (.dK (putK kd (Sum.inr y) (.int m'))) kl = some (.lst xs) := by rw [upd_ne kdp, upd_ne kcn]; exact j1.kls
        have hn2 : upd (upd H1 cn (.dK (putK kc (Sum.inr y) (.int n')))) dp (.dK (putK kd (Sum.inr y) (.int m'))) nm = some (.lst (ys.map V.str)) := by rw [upd_ne nmd, upd_ne nmc]; exact j1.nms
        refine ⟨_, rfl, .inl ⟨rfl, _, SqL.of hk2⟩, _, rfl, _, rfl, nm, _, _, _, rfl, rfl, SqL.of hn2, aty, _, rfl, by show 2 ≤ sizeLine; decide, fun t ht => ?_⟩
        have ktt : kl ≠ t := ne_of_none hk2 ht
        refine ⟨kl, xs, _, rfl, rfl, (upd_ne ktt).trans hk2, ?_, _, _, _, _, _, _, j1.step a wds.nd hy hv hn' hm' k1 g1 g2 ht, _, _, rfl⟩
        have lx := j1.hs.length
        rw [List.length_map] at lx
        have lk : ks.length = i := by
          have := congrArg List.length j1.nk
          rw [List.length_map, List.length_take] at this
          omega
        exact small1000 (by omega)
      · intro K2
        have ny : y ∉ ys.take i := fun hm => by
          have q' : (ys.take i ++ [y]).Nodup := by rw [← take_snoc hy]; exact wds.nd.sublist (List.take_sublist _ _)
          exact (List.nodup_append.mp q').2.2 y hm y (by simp) rfl
        refine ⟨_, rfl, rfl, _, rfl, ?_⟩
        rcases hv with rfl | ⟨e, g, r, rfl, hr1, he, hg, hdeep, hcnt, hnew⟩
        · refine iteP rfl ?_
          refine ⟨_, rfl, _, rfl, _, _, rfl, rfl, .inl ⟨by decide, by decide⟩, _, rfl, _, rfl, _, _, rfl, rfl, .inl ⟨by decide, by decide⟩, _, _, rfl, rfl, _, rfl, p, 4, rfl, j1.st, by decide, by decide, fun r H2 r0 r1 b2 s2 => ?_⟩
          obtain ⟨rn, rfl⟩ : ∃ m : Nat, r = m := ⟨r.toNat, by omega⟩
          have j2 := j1.sameB a b2.sb s2
          refine ⟨_, _, rfl, rfl, _, rfl, tg, _, rfl, SqL.of j2.tgS, fun q1 hq1 => ⟨q1, _, rfl, .inl ⟨SqL.of upd_same, fun l hl => ⟨by show 2 ≤ sizeLine; decide, fun t ht => ?_⟩⟩⟩⟩
          have e1 : (4 * (0 + (i : Int))) = ((4 * i : Nat) : Int) := by omega
          have e2 : (4 * (0 + (i : Int)) + 1 + (rn : Int)) = ((4 * i + 1 + rn : Nat) : Int) := by omega
          have lt : (tgs.map V.str).length = tgs.length := List.length_map _
          have ec : cutV (tgs.map V.str) (some (4 * (0 + (i : Int)))) (some (4 * (0 + (i : Int)) + 1 + (rn : Int))) = (((tgs.drop (4 * i)).take (1 + rn)).map V.str) := by
            rw [e2, e1, cut_mid _ _ _ (by omega) (by omega), List.map_take, List.map_drop]
            congr 1
            omega
          rw [ec] at hl ht ⊢
          generalize hts : (tgs.drop (4 * i)).take (1 + rn) = ts at hl ht ⊢
          have tnd : ts.Nodup := by rw [← hts]; exact List.Pairwise.sublist ((List.take_sublist _ _).trans (List.drop_sublist _ _)) wdt.nd
          have lts : ts.length = 1 + rn := by rw [← hts, List.length_take, List.length_drop]; omega
          have st1 := same_upd hq1 (.lst (ts.map V.str))
          have st2 := same_upd hl (.tup (ts.map V.str))
          have st3 := same_upd ht (.tup [.str "tags", .ref l])
          have st := (st1.trans st2).trans st3
          have s5 : Strm (upd (upd (upd H2 q1 (.lst (ts.map V.str))) l (.tup (ts.map V.str))) t (.tup [.str "tags", .ref l])) p := by
            obtain ⟨a1, a2, a3, a4, a5⟩ := j2.st
            exact ⟨a1, a2, a3, a4, st _ _ a5⟩
          have j5 := j2.sameB a st.sb s5
          have hl5 := st3 _ _ (upd_same (H := upd H2 q1 (.lst (ts.map V.str))) (a := l) (o := .tup (ts.map V.str)))
          generalize hH5 : upd (upd (upd H2 q1 (.lst (ts.map V.str))) l (.tup (ts.map V.str))) t (.tup [.str "tags", .ref l]) = H5 at j5 hl5 ⊢
          have ht5 : H5 t = some (.tup [.str "tags", .ref l]) := by rw [← hH5, upd_same]
          have en : (1 : Int) + (((ts.map V.str).length : Nat) : Int) = ((1 + ts.length : Nat) : Int) := by rw [List.length_map]; push_cast; rfl
          refine ⟨_, rfl, t, _, 1, _, rfl, rfl, SqT.of ht5, rfl, l, _, rfl, .inr (SqT.of hl5), _, _, rfl, rfl, ?_⟩
          dsimp only
          rw [en]
          have lc := j5.lc
          have ld := j5.ld
          refine ⟨_, rfl, _, rfl, _, rfl, nm, _, _, _, rfl, rfl, SqL.of j5.nms, aty, cn, _, rfl, DPut.k (k := Sum.inr y) j5.cns (small1000 (by omega)), ?_⟩
          refine ⟨_, rfl, _, rfl, _, rfl, nm, _, _, _, rfl, rfl, SqL.of ((upd_ne nmc).trans j5.nms), aty, dp, _, rfl, DPut.k (k := Sum.inr y) ((upd_ne (Ne.symm cd)).trans j5.dps) (small1000 (by omega)), ?_⟩
          refine K2 _ _ ⟨H5, .tags ts, .ref t, 1 + ts.length, 0, j5, ?_, by omega, by decide, ⟨by omega, by omega, if_pos rfl, if_pos rfl, tnd⟩, fun ts' e => ⟨rn, by omega, by cases e; exact hts.symm⟩, (fun _ _ e => nomatch e), rfl, rfl⟩
          unfold Shp.dat Has
          refine ⟨t, _, rfl, ht5, HasL.cons (by unfold Has; rfl) (HasL.cons ?_ HasL.nil)⟩
          unfold Has
          exact ⟨l, _, rfl, hl5, strs_has ts⟩
        · refine iteM (by simp) ?_
          have lc := j1.lc
          have ld := j1.ld
          obtain ⟨vce, ce1⟩ := j1.vc e he
          obtain ⟨vcg, cg1⟩ := j1.vc g hg
          obtain ⟨vde, de1⟩ := j1.vd e he
          obtain ⟨vdg, dg1⟩ := j1.vd g hg
          have gce : DGet H1 cn (.str e) (some (.int (c e))) := by rw [← vce]; exact DGet.k (k := Sum.inr e) j1.cns
          have gcg : DGet H1 cn (.str g) (some (.int (c g))) := by rw [← vcg]; exact DGet.k (k := Sum.inr g) j1.cns
          have en : (1 : Int) + (c e : Int) * (c g : Int) = ((1 + c e * c g : Nat) : Int) := by push_cast; rfl
          refine ⟨_, rfl, _, rfl, r, _, 1, _, rfl, rfl, SqT.of hr1, rfl, cn, _, rfl, gce, _, rfl, _, rfl, r, _, 2, _, rfl, rfl, SqT.of hr1, rfl, cn, _, rfl, gcg, _, _, rfl, rfl, .inl ⟨by omega, by omega⟩, _, _, rfl, rfl, ?_⟩
          dsimp only
          rw [en]
          refine ⟨_, rfl, _, rfl, _, rfl, nm, _, _, _, rfl, rfl, SqL.of j1.nms, aty, cn, _, rfl, DPut.k (k := Sum.inr y) j1.cns (small1000 (by omega)), ?_⟩
          have hr2 : upd H1 cn (.dK (putK kc (Sum.inr y) (.int ((1 + c e * c g : Nat) : Int)))) r = some (.tup [.str "pair", .str e, .str g]) := (upd_ne (ne_of hr1 j1.cns (fun z => nomatch z))).trans hr1
          have hd2 : upd H1 cn (.dK (putK kc (Sum.inr y) (.int ((1 + c e * c g : Nat) : Int)))) dp = some (.dK kd) := (upd_ne (Ne.symm cd)).trans j1.dps
          have gde : DGet (upd H1 cn (.dK (putK kc (Sum.inr y) (.int ((1 + c e * c g : Nat) : Int))))) dp (.str e) (some (.int (d e))) := by rw [← vde]; exact DGet.k (k := Sum.inr e) hd2
          have gdg : DGet (upd H1 cn (.dK (putK kc (Sum.inr y) (.int ((1 + c e * c g : Nat) : Int))))) dp (.str g) (some (.int (d g))) := by rw [← vdg]; exact DGet.k (k := Sum.inr g) hd2
          have em : (1 : Int) + (if (d g : Int) > (d e : Int) then (d g : Int) else (d e : Int)) = ((1 + max (d e) (d g) : Nat) : Int) := by
            split <;> omega
          refine ⟨_, rfl, _, rfl, r, _, 1, _, rfl, rfl, SqT.of hr2, rfl, dp, _, rfl, gde, _, rfl, _, rfl, r, _, 2, _, rfl, rfl, SqT.of hr2, rfl, dp, _, rfl, gdg, _, _, rfl, _, _, rfl, rfl, ?_⟩
          dsimp only
          rw [em]
          refine ⟨_, rfl, _, rfl, _, rfl, nm, _, _, _, rfl, rfl, SqL.of ((upd_ne nmc).trans j1.nms), aty, dp, _, rfl, DPut.k (k := Sum.inr y) hd2 (small1000 (by omega)), ?_⟩
          have ney : e ≠ y := fun z => ny (z ▸ he)
          have ngy : g ≠ y := fun z => ny (z ▸ hg)
          refine K2 _ _ ⟨H1, .pair e g, .ref r, 1 + c e * c g, 1 + max (d e) (d g), j1, ?_, by omega, by omega, ⟨by rw [j1.nk]; exact he, by rw [j1.nk]; exact hg, ?_, ?_, ?_, ?_⟩, (fun _ e => nomatch e), (fun _ _ _ => hnew), rfl, rfl⟩
          · unfold Shp.dat Has
            refine ⟨r, _, rfl, hr1, HasL.cons ?_ (HasL.cons ?_ (HasL.cons ?_ HasL.nil))⟩ <;> (unfold Has; rfl)
          · show (if y = y then _ else _) = 1 + (if e = y then _ else c e) * (if g = y then _ else c g)
            rw [if_pos rfl, if_neg ney, if_neg ngy]
          · show (if y = y then _ else _) ≤ top
            rw [if_pos rfl]; exact hcnt
          · show (if y = y then _ else _) = 1 + max (if e = y then _ else d e) (if g = y then _ else d g)
            rw [if_pos rfl, if_neg ney, if_neg ngy]
          · show (if y = y then _ else _) ≤ 2
            rw [if_pos rfl]; exact hdeep
    · intro K1
      refine ⟨_, rfl, _, _, rfl, rfl, _, rfl, ?_⟩
      refine ite2 (fun c0 => ?_) (fun c0 => ?_)
      · refine ⟨_, rfl, p, 2, rfl, j.st, by decide, by decide, fun r H1 r0 r1 b1 s1 => ?_⟩
        have j1 := j.sameB a b1.sb s1
        refine ⟨rfl, _, rfl, ?_⟩
        refine ite2 (fun c1 => ?_) (fun c1 => ?_)
        · have ec : cutV (ys.map V.str) none (some (0 + (i : Int))) = (ys.take i).map V.str := by
            rw [i0, cut_take _ _ (by omega), List.map_take]
          refine ⟨_, rfl, _, rfl, _, rfl, _, rfl, nm, _, rfl, SqL.of j1.nms, fun q1 hq1 => ?_⟩
          rw [ec]
          have sq := same_upd hq1 (.lst ((ys.take i).map V.str))
          have q1p : q1 ≠ p := s1.ne hq1
          have jq := j1.sameB a sq.sb (s1.keep (upd_ne (Ne.symm q1p)))
          have hq2 : upd H1 q1 (.lst ((ys.take i).map V.str)) q1 = some (.lst ((ys.take i).map V.str)) := upd_same
          generalize upd H1 q1 (.lst ((ys.take i).map V.str)) = Hq at jq hq2
          have lx := jq.hs.length
          rw [List.length_map] at lx
          have lk : ks.length = i := by
            have := congrArg List.length jq.nk
            rw [List.length_map, List.length_take] at this
            omega
          refine ⟨_, rfl, _, rfl, _, rfl, kl, rfl, ⟨_, SqL.of jq.kls⟩, ?_⟩
          refine comp_form xs.length (small1000 (by omega)) (fun m vs H' => H' = Hq ∧ vs.length = m ∧ HasL Hq vs (((ks.map (·.2)).map Shp.dat).take m)) ⟨rfl, rfl, by rw [List.take_zero]; exact HasL.nil⟩ (fun m vs H' z => z.2.1) ?_ ?_ ?_ ?_
          · rintro m vs H' hm ⟨rfl, _⟩
            exact ⟨xs, xs[m], SqL.of jq.kls, by simp [hm]⟩
          · rintro vs H' ⟨rfl, _⟩
            exact ⟨xs, SqL.of jq.kls, Nat.le_refl _⟩
          · rintro m vs H' x H'' R hm ⟨rfl, z2, z3⟩ yl hR
            obtain ⟨rfl, y'⟩ := yl
            have e1 := y' xs (SqL.of jq.kls)
            obtain ⟨d1, hd1, hx1⟩ := jq.hs.get e1
            rw [List.getElem?_map] at hd1
            cases hk : ks[m]? with
            | none => rw [hk] at hd1; cases hd1
            | some ys1 =>
              rw [hk] at hd1
              obtain ⟨y1, s1'⟩ := ys1
              cases hd1
              obtain ⟨a1, v1, rfl, ha1, hv1⟩ := has_kind hx1
              refine ⟨_, rfl, a1, _, 1, _, rfl, rfl, SqT.of ha1, rfl, hR _ _ ⟨rfl, by rw [List.length_append, z2]; rfl, ?_⟩⟩
              have e2 : ((ks.map (·.2)).map Shp.dat)[m]? = some s1'.dat := by rw [List.getElem?_map, List.getElem?_map, hk]; rfl
              rw [take_snoc e2]
              exact HasL.append z3 (HasL.one hv1)
          · rintro vs H' tk ⟨rfl, z2, z3⟩ htk
            have z4 : HasL H' vs ((ks.map (·.2)).map Shp.dat) := by
              rw [List.take_of_length_le (by rw [List.length_map, List.length_map]; omega)] at z3
              exact z3
            have st' := same_upd htk (.lst vs)
            have tkp : tk ≠ p := jq.st.ne htk
            have sc : Strm (upd H' tk (.lst vs)) p := jq.st.keep (upd_ne (Ne.symm tkp))
            have jc := jq.sameB a st'.sb sc
            have hi0 : 0 < i := by
              have z : (0 : Int) < 0 + (i : Int) := of_decide_eq_true c0
              omega
            have lti : (ys.take i).length = i := by rw [List.length_take]; omega
            refine ⟨_, rfl, p, q1, cn, dp, tk, top, ys.take i, ks.map (·.2), rfl, sc, st' _ _ hq2, by omega, by omega, ⟨kc, jc.cns, by rw [lti]; exact jc.lc, fun z hz => ⟨c z, (jc.vc z hz).1, Nat.zero_le _, (jc.vc z hz).2⟩⟩,
              ⟨kd, jc.dps, by rw [lti]; exact jc.ld, fun z hz => ⟨d z, (jc.vd z hz).1, Nat.zero_le _, (jc.vd z hz).2⟩⟩, lst_has upd_same (z4.mono st'), q1p, a.cnp, a.dpp, tkp, fun v H2 b2 s2 hv => ?_⟩
            refine K1 _ _ ⟨v, jc.sameB a b2 s2, rfl, ?_⟩
            rcases hv with hv | ⟨e, g, r', ca, cb, da, db, he, hg, rfl, _, hr2, hcc, hdd, h1, h2, h3⟩
            · exact .inl hv
            · refine .inr ⟨e, g, r', rfl, hr2, he, hg, ?_, ?_, h3⟩
              · obtain ⟨d1, d2⟩ := hdd kd jc.dps
                rw [(jc.vd e he).1] at d1
                rw [(jc.vd g hg).1] at d2
                injection d1 with d1
                injection d1 with d1
                injection d2 with d2
                injection d2 with d2
                have x1 : d e = da := by omega
                have x2 : d g = db := by omega
                rw [x1, x2]; exact h1
              · obtain ⟨d1, d2⟩ := hcc kc jc.cns
                rw [(jc.vc e he).1] at d1
                rw [(jc.vc g hg).1] at d2
                injection d1 with d1
                injection d1 with d1
                injection d2 with d2
                injection d2 with d2
                have x1 : c e = ca := by omega
                have x2 : c g = cb := by omega
                rw [x1, x2]; exact h2
        · exact K1 _ _ ⟨.non, j1, rfl, .inl rfl⟩
      · exact iteM (by simp) (K1 _ _ ⟨.non, j, rfl, .inl rfl⟩)
  · rintro σ H' ⟨kc, kd, ks, c, d, xs, j, z1, z2, rfl⟩
    have en : ((((ys.map V.str).length : Nat) : Int).toNat) = ys.length := by omega
    rw [en] at j
    refine ⟨_, rfl, _, rfl, by show 2 ≤ sizeLine; decide, fun t ht => ?_⟩
    have st := same_upd ht (.tup [.ref kl, .ref cn])
    have tp := j.st.ne ht
    have nk := j.nk
    rw [List.take_length] at nk
    have lk : ks.length = ys.length := by rw [← nk, List.length_map]
    exact q t kl cn ks c d xs _ (j.sb.trans st.sb) (j.st.keep (upd_ne (Ne.symm tp))) (j.sb.free tp ht) tp upd_same a.fk a.klp (st _ _ j.kls) (j.hs.mono st) j.kk (by rw [nk]; exact wds.nd) (by omega) (by omega) ⟨by rw [nk]; exact wds, ⟨tgs, wdt, j.tq⟩, j.pq⟩
end
end K4
set_option Elab.async false
set_option linter.all false
set_option maxRecDepth 100000
set_option maxHeartbeats 8000000
namespace L2
open PySem
def shOf (ks : List (Str × Shp)) (y : Str) : Option Shp := (ks.find? fun k => decide (k.1 = y)).map (·.2)
def worths (ks : List (Str × Shp)) : Nat → Str → List W
  | 0, _ => []
  | n + 1, y => match shOf ks y with
    | none => []
    | some (.tags ts) => .non :: ts.map W.tag
    | some (.pair a b) => .non :: (worths ks n a).flatMap fun u => (worths ks n b).map fun v => .pair u v
theorem shOf_mem {ks : List (Str × Shp)} {y : Str} {s : Shp} (h : shOf ks y = some s) : (y, s) ∈ ks := by
  unfold shOf at h
  cases e : ks.find? fun k => decide (k.1 = y) with
  | none => rw [e] at h; cases h
  | some k =>
    rw [e] at h
    have h' : k.2 = s := Option.some.inj h
    have q := List.find?_some e
    have m := List.mem_of_find?_eq_some e
    have z : k.1 = y := of_decide_eq_true q
    rw [← h', ← z]; exact m
theorem shOf_of {ks : List (Str × Shp)} {y : Str} (h : y ∈ ks.map (·.1)) : ∃ s, shOf ks y = some s := by
  obtain ⟨k, hk, rfl⟩ := List.mem_map.mp h
  unfold shOf
  cases e : ks.find? fun z => decide (z.1 = k.1) with
  | none =>
    have q := List.find?_eq_none.mp e k hk
    simp at q
  | some z => exact ⟨z.2, rfl⟩
theorem KK.at {top : Nat} {c d : Str → Nat} {ks : List (Str × Shp)} (h : KK top c d ks) {y : Str} {s : Shp} (e : shOf ks y = some s) : KK1 top c d (ks.map (·.1)) y s := by
  obtain ⟨i, hi, ei⟩ := List.mem_iff_getElem.mp (shOf_mem e)
  have q := h i y s (by rw [List.getElem?_eq_getElem hi, ei])
  have sub : ∀ z, z ∈ (ks.take i).map (·.1) → z ∈ ks.map (·.1) := fun z hz => by
    obtain ⟨k, hk, rfl⟩ := List.mem_map.mp hz
    exact List.mem_map.mpr ⟨k, List.mem_of_mem_take hk, rfl⟩
  cases s with
  | tags ts => exact q
  | pair a b => exact ⟨sub a q.1, sub b q.2.1, q.2.2⟩
theorem flat_len {α : Type} (f : α → List W) (k : Nat) : ∀ (l : List α), (∀ a ∈ l, (f a).length = k) → (l.flatMap f).length = l.length * k
  | [], _ => by simp
  | a :: l, h => by
    rw [List.flatMap_cons, List.length_append, h a (by simp), flat_len f k l fun b hb => h b (by simp [hb]), List.length_cons, Nat.succ_mul, Nat.add_comm]
theorem worths_ok {top : Nat} {c d : Str → Nat} {ks : List (Str × Shp)} (h : KK top c d ks) : ∀ (n : Nat) (y : Str), y ∈ ks.map (·.1) → d y < n → (worths ks n y).length = c y ∧ 0 < c y ∧ ∀ u ∈ worths ks n y, u.dep ≤ d y
  | 0, y, _, hd => absurd hd (Nat.not_lt_zero _)
  | n + 1, y, hy, hd => by
    obtain ⟨s, hs⟩ := shOf_of hy
    have k1 := h.at hs
    unfold worths
    rw [hs]
    cases s with
    | tags ts =>
      obtain ⟨h1, h2, h3, h4, _⟩ := k1
      refine ⟨?_, by omega, fun u hu => ?_⟩
      · show (W.non :: ts.map W.tag).length = c y
        rw [List.length_cons, List.length_map]; omega
      · have hu' : u = .non ∨ u ∈ ts.map W.tag := List.mem_cons.mp hu
        rcases hu' with rfl | hu'
        · exact Nat.zero_le _
        · obtain ⟨x, _, rfl⟩ := List.mem_map.mp hu'
          exact Nat.zero_le _
    | pair a b =>
      obtain ⟨h1, h2, h3, h4, h5, h6⟩ := k1
      have m1 := Nat.le_max_left (d a) (d b)
      have m2 := Nat.le_max_right (d a) (d b)
      obtain ⟨la, pa, da⟩ := worths_ok h n a h1 (by omega)
      obtain ⟨lb, pb, db⟩ := worths_ok h n b h2 (by omega)
      refine ⟨?_, by omega, fun u hu => ?_⟩
      · show (W.non :: (worths ks n a).flatMap fun u => (worths ks n b).map fun v => .pair u v).length = c y
        rw [List.length_cons, flat_len _ (c b) _ (fun a _ => by rw [List.length_map, lb]), la]; omega
      · have hu' : u = .non ∨ u ∈ (worths ks n a).flatMap fun u => (worths ks n b).map fun v => .pair u v := List.mem_cons.mp hu
        rcases hu' with rfl | hu'
        · exact Nat.zero_le _
        · obtain ⟨x, hx, hu2⟩ := List.mem_flatMap.mp hu'
          obtain ⟨z, hz, rfl⟩ := List.mem_map.mp hu2
          have q1 := da x hx
          have q2 := db z hz
          show 1 + max x.dep z.dep ≤ d y
          have := Nat.max_le.mpr ⟨Nat.le_trans q1 m1, Nat.le_trans q2 m2⟩
          omega
def Shapes (H : Hp) (a : Addr) (ks : List (Str × Shp)) : Prop := ∃ kvs, H a = some (.dK kvs) ∧ kvs.map (·.1) = ks.map (fun k => Sum.inr k.1) ∧ ∀ y s, shOf ks y = some s → ∃ v, valV kvs (Sum.inr y) = some v ∧ Has H v s.dat
theorem worths_fuel {top : Nat} {c d : Str → Nat} {ks : List (Str × Shp)} (h : KK top c d ks) : ∀ (n m : Nat) (y : Str), y ∈ ks.map (·.1) → d y < n → d y < m → worths ks n y = worths ks m y
  | 0, _, _, _, h1, _ => absurd h1 (Nat.not_lt_zero _)
  | _ + 1, 0, _, _, _, h2 => absurd h2 (Nat.not_lt_zero _)
  | n + 1, m + 1, y, hy, h1, h2 => by
    obtain ⟨s, hs⟩ := shOf_of hy
    have k1 := h.at hs
    unfold worths
    rw [hs]
    cases s with
    | tags ts => rfl
    | pair a b =>
      obtain ⟨q1, q2, q3, q4, q5, q6⟩ := k1
      have m1 := Nat.le_max_left (d a) (d b)
      have m2 := Nat.le_max_right (d a) (d b)
      show (W.non :: _) = (W.non :: _)
      rw [worths_fuel h n m a q1 (by omega) (by omega), worths_fuel h n m b q2 (by omega) (by omega)]
theorem strs_vals {H : Hp} : ∀ {ts : List Str} {zs : List V}, HasL H zs (ts.map Dat.str) → zs = ts.map V.str
  | [], [], _ => rfl
  | [], _ :: _, h => by rw [List.map_nil] at h; unfold HasL at h; exact h.elim
  | _ :: _, [], h => by rw [List.map_cons] at h; unfold HasL at h; exact h.elim
  | t :: ts, z :: zs, h => by
    rw [List.map_cons] at h
    unfold HasL at h
    obtain ⟨g1, g2⟩ := h
    unfold Has at g1
    rw [g1, strs_vals g2]; rfl
def wOf (ks : List (Str × Shp)) (n : Nat) : Shp → List W
  | .tags ts => .non :: ts.map W.tag
  | .pair a b => .non :: (worths ks n a).flatMap fun u => (worths ks n b).map fun v => .pair u v
theorem worths_eq {ks : List (Str × Shp)} {n : Nat} {y : Str} {s : Shp} (h : shOf ks y = some s) : worths ks (n + 1) y = wOf ks n s := by
  conv => lhs; unfold worths
  rw [h]
  cases s <;> rfl
theorem flat_snoc {α : Type} (f : α → List W) {l : List α} {i : Nat} {a : α} (h : l[i]? = some a) : (l.take (i + 1)).flatMap f = (l.take i).flatMap f ++ f a := by
  rw [take_snoc h, List.flatMap_append]; simp
theorem has_tags {H : Hp} {v : V} {ts : List Str} (h : Has H v (Shp.tags ts).dat) : ∃ p l, v = .ref p ∧ H p = some (.tup [.str "tags", .ref l]) ∧ H l = some (.tup (ts.map V.str)) := by
  unfold Shp.dat Has at h
  obtain ⟨p, xs, rfl, hp, hl⟩ := h
  match xs, hl with
  | [u, v], hl =>
    unfold HasL at hl
    obtain ⟨h1, h2⟩ := hl
    unfold HasL at h2
    unfold Has at h1
    subst h1
    have h3 := h2.1
    unfold Has at h3
    obtain ⟨l, zs, rfl, hz, hzl⟩ := h3
    have e : zs = ts.map V.str := strs_vals hzl
    rw [e] at hz
    exact ⟨p, l, rfl, hp, hz⟩
  | [], hl => unfold HasL at hl; exact hl.elim
  | [x], hl => unfold HasL at hl; obtain ⟨_, h2⟩ := hl; unfold HasL at h2; exact h2.elim
  | _ :: _ :: _ :: _, hl => unfold HasL at hl; obtain ⟨_, h2⟩ := hl; unfold HasL at h2; obtain ⟨_, h3⟩ := h2; unfold HasL at h3; exact h3.elim
theorem has_shpair {H : Hp} {v : V} {a b : Str} (h : Has H v (Shp.pair a b).dat) : ∃ p, v = .ref p ∧ H p = some (.tup [.str "pair", .str a, .str b]) := by
  unfold Shp.dat Has at h
  obtain ⟨p, xs, rfl, hp, hl⟩ := h
  match xs, hl with
  | [u, v, w], hl =>
    unfold HasL at hl
    obtain ⟨h1, h2⟩ := hl
    unfold HasL at h2
    obtain ⟨h2, h3⟩ := h2
    unfold HasL at h3
    have h3 := h3.1
    unfold Has at h1 h2 h3
    subst h1 h2 h3
    exact ⟨p, rfl, hp⟩
  | [], hl => unfold HasL at hl; exact hl.elim
  | [x], hl => unfold HasL at hl; obtain ⟨_, h2⟩ := hl; unfold HasL at h2; exact h2.elim
  | [x, y], hl => unfold HasL at hl; obtain ⟨_, h2⟩ := hl; unfold HasL at h2; obtain ⟨_, h3⟩ := h2; unfold HasL at h3; exact h3.elim
  | _ :: _ :: _ :: _ :: _, hl => unfold HasL at hl; obtain ⟨_, h2⟩ := hl; unfold HasL at h2; obtain ⟨_, h3⟩ := h2; unfold HasL at h3; obtain ⟨_, h4⟩ := h3; unfold HasL at h4; exact h4.elim
theorem Shapes.mono {H H' : Hp} {a : Addr} {ks : List (Str × Shp)} (s : Shapes H a ks) (e : Same H H') : Shapes H' a ks := by
  obtain ⟨kvs, h1, h2, h3⟩ := s
  exact ⟨kvs, e _ _ h1, h2, fun y s hs => let ⟨v, g1, g2⟩ := h3 y s hs; ⟨v, g1, g2.mono e⟩⟩
theorem tags_has {H : Hp} : ∀ ts : List Str, HasL H (ts.map V.str) ((ts.map W.tag).map W.dat)
  | [] => HasL.nil
  | t :: ts => HasL.cons (by show Has H (.str t) (W.dat (.tag t)); unfold W.dat Has; rfl) (tags_has ts)
end L2
namespace K4
open PySem L2
theorem scWorths : FnScope ["shapes", "kind", "shape", "found", "one"] ["shapes", "kind"] (defScope sWorths) := ⟨rfl, rfl, rfl, by decide +kernel, rfl, by decide +kernel, by decide +kernel⟩
theorem nd_oo : List.Nodup [("other" : Str), "one"] := by decide +kernel
section
variable {P : Program} {w : World} {K : PySem.W.Frag} {mg : Str → Option Value} {base : Heap} {f : Addr} {fd : FuncData}
def spWorths (n : Nat) : Sp := fun vs H Q _ => ∃ (a : Addr) (y : Str) (ks : List (Str × Shp)) (top : Nat) (c d : Str → Nat), vs = [.ref a, .str y] ∧ Shapes H a ks ∧ KK top c d ks ∧ top ≤ 30 ∧ y ∈ ks.map (·.1) ∧ d y < n ∧ d y < 3 ∧
  ∀ (r : Addr) (H' : Hp), Same H H' → H r = none → Has H' (.ref r) (.lst ((worths ks 3 y).map W.dat)) → Q (.ref r) H'
theorem ok_worths {n : Nat} (B : Blt mg) (F : Fun K "_law_worths" "_law_worths" sWorths f fd) (G : FnOk P w K mg base CX0 n f fd ["shapes", "kind"] (spWorths n)) (bG : Binds K fd ["shapes", "kind"] []) (mG : mg "_law_worths" = some (.ref f)) :
    FnOk P w K mg base CX0 (n + 1) f fd ["shapes", "kind"] (spWorths (n + 1)) := by
  refine F.ok scWorths (fun vs H Q E h => ?_) (fun cdv A outer s H vs Q E hr h => ?_)
  · obtain ⟨a, y, ks, top, c, d, rfl, _⟩ := h
    rfl
  obtain ⟨a, y, ks, top, c, d, rfl, hs, kk, t30, hy, dn, d3, q⟩ := h
  have hu := hu_of hr
  refine ⟨_, pss_cons (ps_set (i := 2) scWorths.nd rfl (Or.inl rfl) (pe_dget hu (pv 0) (pv 1) (fun _ _ => rfl)))
    (pss_cons (ps_if (pt_cmpR op_eq (pe_ix ix_tup (pv 2) pe_int (fun _ _ => rfl)) pe_str (nomark _)) (pss_one (ps_ret (pe_op op_cat (pe_lst (pa_cons pe_non pa_nil)) (pe_callTy call_list_of rfl B.list boot_list' (pa_cons (pe_ix ix_tup (pv 2) pe_int (fun _ _ => rfl)) pa_nil))))) pss_nil)
    (pss_cons (ps_set (i := 3) scWorths.nd rfl (Or.inl rfl) (pe_lst (pa_cons pe_non pa_nil)))
    (pss_cons (ps_for PassesOwn.never rfl (pi_list (pe_call G hr rfl mG F.kp bG .nil pass0 (pa_cons (pv 0) (pa_cons (pe_ix ix_tup (pv 2) pe_int (fun _ _ => rfl)) pa_nil)))) (pg_name (i := 4) scWorths.nd rfl (Or.inr rfl) (Or.inl rfl))
      (pss_one (ps_set (i := 3) scWorths.nd rfl (Or.inl rfl) (pe_op op_cat (pv 3) (pe_cmpr ["other"] [4] (pi_list (pe_call G hr rfl mG F.kp bG .nil pass0 (pa_cons (pv 0) (pa_cons (pe_ix ix_tup (pv 2) pe_int (fun _ _ => rfl)) pa_nil)))) (gk_name (i := 0) (by decide))
        (fun cl C fp s H => pg_name (i := 0) nd_oo rfl (Or.inl rfl) (Or.inr rfl)) (fun cl C fp s H => pe_tup (pa_cons (pv 1) (pa_cons (pv 0) pa_nil))))))))
    (pss_one (ps_ret (pv 3)))))), ?_⟩
  obtain ⟨sh, hsh⟩ := shOf_of hy
  obtain ⟨kvs, hk, _, hg⟩ := id hs
  obtain ⟨v, hv, hd⟩ := hg y sh hsh
  have k1 := kk.at hsh
  obtain ⟨wl, w0, wdp⟩ := worths_ok kk 3 y hy d3
  have gy : DGet H a (.str y) (some v) := by rw [← hv]; exact DGet.k (k := Sum.inr y) hk
  refine ⟨_, rfl, _, rfl, a, v, rfl, gy, ?_⟩
  have ew : worths ks 3 y = wOf ks 2 sh := worths_eq hsh
  cases sh with
  | tags ts =>
    obtain ⟨p, l, rfl, hp, hl⟩ := has_tags hd
    refine ⟨_, rfl, p, _, 0, _, rfl, rfl, SqT.of hp, rfl, rfl, _, rfl, iteP (by decide +kernel) ?_⟩
    obtain ⟨g1, g2, _⟩ := k1
    refine ⟨by show 1 ≤ sizeLine; decide, fun t1 ht1 => ?_⟩
    have s1 := same_upd ht1 (.lst [V.non])
    refine ⟨_, rfl, p, _, 1, _, rfl, rfl, SqT.of (s1 _ _ hp), rfl, l, _, rfl, .inr (SqT.of (s1 _ _ hl)), fun t2 ht2 => ?_⟩
    have s2 := same_upd ht2 (.lst (ts.map V.str))
    refine ⟨t1, t2, _, _, rfl, rfl, s2 _ _ upd_same, upd_same, ?_, fun t3 ht3 => ?_⟩
    · rw [List.length_map]
      exact Nat.le_of_lt (small1000 (by simp only [List.length_singleton]; omega))
    · refine q t3 _ ((s1.trans s2).trans (same_upd ht3 _)) ((s1.trans s2).free ht3) (lst_has upd_same ?_)
      rw [ew]
      exact HasL.cons has_non (tags_has ts)
  | pair e g =>
    obtain ⟨p, rfl, hp⟩ := has_shpair hd
    refine ⟨_, rfl, p, _, 0, _, rfl, rfl, SqT.of hp, rfl, rfl, _, rfl, iteM (by decide +kernel) ?_⟩
    obtain ⟨h1, h2, h3, h4, h5, h6⟩ := k1
    have m1 := Nat.le_max_left (d e) (d g)
    have m2 := Nat.le_max_right (d e) (d g)
    have ee : worths ks 2 e = worths ks 3 e := worths_fuel kk 2 3 e h1 (by omega) (by omega)
    have eg : worths ks 2 g = worths ks 3 g := worths_fuel kk 2 3 g h2 (by omega) (by omega)
    obtain ⟨le, pe, _⟩ := worths_ok kk 3 e h1 (by omega)
    obtain ⟨lg, pg, _⟩ := worths_ok kk 3 g h2 (by omega)
    refine ⟨by show 1 ≤ sizeLine; decide, fun fl hfl => ?_⟩
    have s0 := same_upd hfl (.lst [V.non])
    refine ⟨_, rfl, _, rfl, p, _, 1, _, rfl, rfl, SqT.of (s0 _ _ hp), rfl, a, e, ks, top, c, d, rfl, hs.mono s0, kk, t30, h1, by omega, by omega, fun r1 H1 s1 f1 u1 => ?_⟩
    obtain ⟨_, xs, er, hx, hxl⟩ := has_lst u1
    cases er
    have lx := hxl.length
    rw [List.length_map] at lx
    have sH := s0.trans s1
    refine ⟨r1, rfl, ⟨_, SqL.of hx⟩, ?_⟩
    refine for_list (xs := xs) (fun i σ H' => Same H1 H' ∧ ∃ (fl' : Addr) (zs : List V) (z : Option V), σ = [some (.ref a), some (.str y), some (.ref p), some (.ref fl'), z] ∧ H fl' = none ∧ H' fl' = some (.lst zs) ∧ i ≤ xs.length ∧
      HasL H' zs ((W.non :: ((worths ks 3 e).take i).flatMap fun u => (worths ks 3 g).map fun v => W.pair u v).map W.dat)) ?_ ?_ ?_ ?_
    · refine ⟨Same.refl _, fl, [.non], _, rfl, hfl, s1 _ _ upd_same, Nat.zero_le _, ?_⟩
      rw [List.take_zero]
      exact HasL.one has_non
    · rintro i σ H' _ ⟨z1, _⟩
      exact SqL.of (z1 _ _ hx)
    · rintro i x σ H' hxi ⟨z1, fl', zs, z, rfl, zf, hz, hi, hzl⟩
      obtain ⟨dx, hdx, hhx⟩ := hxl.get hxi
      rw [List.getElem?_map] at hdx
      cases hu1 : (worths ks 3 e)[i]? with
      | none => rw [hu1] at hdx; cases hdx
      | some u =>
        rw [hu1] at hdx
        cases hdx
        have hilt : i < xs.length := (List.getElem?_eq_some_iff.mp hxi).1
        have sP := sH.trans z1
        refine ⟨_, rfl, _, rfl, _, rfl, p, _, 2, _, rfl, rfl, SqT.of (sP _ _ hp), rfl, a, g, ks, top, c, d, rfl, hs.mono sP, kk, t30, h2, by omega, by omega, fun r2 H2 s2 f2 u2 => ?_⟩
        obtain ⟨_, ws, er, hw, hwl⟩ := has_lst u2
        cases er
        have lw := hwl.length
        rw [List.length_map] at lw
        refine ⟨r2, rfl, ⟨_, SqL.of hw⟩, ?_⟩
        have lim : 1 + (i + 1) * c g ≤ 30 := by
          have : (i + 1) * c g ≤ c e * c g := Nat.mul_le_mul_right _ (by omega)
          omega
        have lg30 : c g ≤ 30 := by
          have : 1 * c g ≤ (i + 1) * c g := Nat.mul_le_mul_right _ (by omega)
          omega
        have lz : zs.length = 1 + i * c g := by
          have := hzl.length
          rw [List.length_map, List.length_cons, flat_len _ (c g) _ (fun b _ => by rw [List.length_map, lg]), List.length_take] at this
          rw [this, Nat.min_eq_left (by omega)]
          omega
        refine comp_form ws.length (small1000 (by omega)) (fun m vs H3 => Same H2 H3 ∧ vs.length = m ∧ HasL H3 vs ((((worths ks 3 g).map fun v => W.pair u v).map W.dat).take m)) ⟨Same.refl _, rfl, by rw [List.take_zero]; exact HasL.nil⟩ (fun m vs H3 z => z.2.1) ?_ ?_ ?_ ?_
        · intro m vs H3 hm zz
          exact ⟨ws, ws[m], SqL.of (zz.1 _ _ hw), by simp [hm]⟩
        · intro vs H3 zz
          exact ⟨ws, SqL.of (zz.1 _ _ hw), Nat.le_refl _⟩
        · intro m vs H3 x2 H4 R hm zz yl hR
          obtain ⟨rfl, yy⟩ := yl
          obtain ⟨dz, hdz, hhz⟩ := hwl.get (yy ws (SqL.of (zz.1 _ _ hw)))
          rw [List.getElem?_map] at hdz
          cases hv1 : (worths ks 3 g)[m]? with
          | none => rw [hv1] at hdz; cases hdz
          | some v1 =>
            rw [hv1] at hdz
            cases hdz
            refine ⟨_, rfl, _, rfl, by show 2 ≤ sizeLine; decide, fun t ht => hR _ _ ?_⟩
            have st := same_upd ht (.tup [x, x2])
            refine ⟨zz.1.trans st, by rw [List.length_append, zz.2.1]; rfl, ?_⟩
            have e2 : (((worths ks 3 g).map fun v => W.pair u v).map W.dat)[m]? = some (W.pair u v1).dat := by rw [List.getElem?_map, List.getElem?_map, hv1]; rfl
            rw [take_snoc e2]
            refine HasL.append (zz.2.2.mono st) (HasL.one ?_)
            unfold W.dat Has
            exact ⟨t, _, rfl, upd_same, HasL.cons (hhx.mono (((z1.trans s2).trans zz.1).trans st)) (HasL.cons (hhz.mono (zz.1.trans st)) HasL.nil)⟩
        · intro vs H3 pl zz hpl
          have st := same_upd hpl (.lst vs)
          have z4 := zz.2.2
          rw [List.take_of_length_le (by rw [List.length_map, List.length_map]; omega)] at z4
          have sz := (s2.trans zz.1).trans st
          refine ⟨fl', pl, zs, vs, rfl, rfl, sz _ _ hz, upd_same, Nat.le_of_lt (small1000 ?_), fun nl hnl => ?_⟩
          · rw [lz, zz.2.1, lw, lg]
            have : (i + 1) * c g = i * c g + c g := Nat.succ_mul _ _
            omega
          · have s9 := sz.trans (same_upd hnl (.lst (zs ++ vs)))
            refine ⟨z1.trans s9, nl, zs ++ vs, _, rfl, ((sP.trans sz).free hnl), upd_same, hilt, ?_⟩
            have ef : (W.non :: ((worths ks 3 e).take (i + 1)).flatMap fun u => (worths ks 3 g).map fun v => W.pair u v).map W.dat = (W.non :: ((worths ks 3 e).take i).flatMap fun u => (worths ks 3 g).map fun v => W.pair u v).map W.dat ++ ((worths ks 3 g).map fun v => W.pair u v).map W.dat := by
              rw [flat_snoc _ hu1, ← List.cons_append, List.map_append]
            rw [ef]
            exact HasL.append (hzl.mono s9) (z4.mono (st.trans (same_upd hnl _)))
    · rintro σ H' ⟨z1, fl', zs, z, rfl, zf, hz, hi, hzl⟩
      refine ⟨_, rfl, q fl' H' (sH.trans z1) zf (lst_has hz ?_)⟩
      rw [List.take_of_length_le (by omega)] at hzl
      rw [ew]
      show HasL H' zs ((W.non :: (worths ks 2 e).flatMap fun u => (worths ks 2 g).map fun v => W.pair u v).map W.dat)
      rw [ee, eg]
      exact hzl
theorem worths_zero : FnOk P w K mg base CX0 0 f fd ["shapes", "kind"] (spWorths 0) := by
  have no : ∀ vs H Q E, ¬ spWorths 0 vs H Q E := fun vs H Q E h => by
    obtain ⟨a, y, ks, top, c, d, _, _, _, _, _, h1, _⟩ := h
    omega
  exact ⟨fun vs H Q E h => absurd h (no vs H Q E), fun A outer s H args us vs Q E _ _ _ _ h => absurd h (no vs H Q E)⟩
theorem worths_fn (B : Blt mg) (F : Fun K "_law_worths" "_law_worths" sWorths f fd) (bG : Binds K fd ["shapes", "kind"] []) (mG : mg "_law_worths" = some (.ref f)) : ∀ n : Nat, FnOk P w K mg base CX0 n f fd ["shapes", "kind"] (spWorths n)
  | 0 => worths_zero
  | n + 1 => ok_worths B F (worths_fn B F bG mG n) bG mG
end
end K4
set_option Elab.async false
set_option linter.all false
set_option maxRecDepth 100000
set_option maxHeartbeats 4100000
namespace L2
open PySem PySem.Spec PyProof.Rows
section
variable {X : Cx}
end
end L2
set_option Elab.async false
set_option linter.all false
set_option maxRecDepth 100000
set_option maxHeartbeats 4100000
namespace L2
open PySem PySem.Spec PyProof.Rows
theorem dp_plain : plainId "dict.update.loop" = true := by decide +kernel
theorem dp_entry : entryFor table "dict.update.loop" = some Builtin.«dict.update.loop» := entryFor_of_fast (by kernel_rfl)
theorem dp_miss : typeLookup (.type "list") (Str.ofString "keys") = pure none := am_miss_of_fast (by decide +kernel)
section
variable {prog : Program} {w : World} {A : Around} {E : Value → Shared → Prop} {s : Shared}
theorem dp_keys {a : Addr} {its : Array Value} {Q : Option Value → Shared → Prop} (pl : PlainL s.heap a its) (hA : A.handled = none)
    (h : ∀ h' tk, (∀ b o, s.heap.get? b = some o → h'.get? b = some o) → Q none { s with heap := h', toks := tk }) :
    wpAny (model prog w) A (getAttr? (.ref a) (Str.ofString "keys")) Q E s := by
  obtain ⟨⟨c, dct, dat, sl⟩, k, hx, hc, hd, hdat⟩ := pl
  simp only at hc hdat hd
  subst hc hdat hd
  obtain ⟨h0, gs, dr, tk, os⟩ := s
  have sl' := F.slot_list_getattribute
  have lk' := sl'.lookup
  have bd' := sl'.bind (.ref a)
  have no' := am_list_getattr_none
  have ae' := sub_AttributeError
  have hT : ∀ n, (Shared.mk h0 gs dr n os).TypeIs (.ref a) "list" := fun n => ⟨_, hx, rfl⟩
  simp only [getAttr?, getAttrBy?, getAttrBy]
  repeat (any_goals (first | assumption | exact hT _ | ((with_reducible show wpAny _ _ (call (Value.builtin "list.__getattribute__") _ _) _ _ _); refine call_meets F.slot_list_getattribute (hT _) am_entry_list_getattribute (F.args_list_getattribute_2 _ _) (meets_getattribute_miss_list a its k sl (Str.ofString "keys") _ dp_miss (by decide +kernel) (by size_fits)) ⟨hx, hA, fun h' tk' e hx' => ?_⟩) | wp_step))
  have there := hx'.there
  obtain ⟨_, _, he⟩ := there
  refine (?_ : wpAny _ _ (getattributeRaised _ _ _ _ _ _ _) _ _ _)
  simp only [getattributeRaised]
  repeat any_goals first | assumption | wp_step
  exact h _ _ hx'.keeps
end
def DpAt {prog : Program} {w : World} (h₀ : Heap) (vs : List (Key × Value)) (i : Nat) (v : Value) : Prop :=
  ∃ a k ku vu, v = .ref a ∧ vs[i]? = some (k, vu) ∧ h₀.IsTuple a #[ku, vu] ∧ (mixKind prog w).is k ku = true
theorem dp_stored (vs : List (Key × Value)) (hn : (vs.map (·.1)).Nodup) {i : Nat} {k : Key} {u : Value} (e : vs[i]? = some (k, u)) : stored (vs.take i) k u = vs.take (i + 1) := by
  obtain ⟨hi, e'⟩ := List.getElem?_eq_some_iff.mp e
  have hno : (vs.take i).any (fun kv => decide (kv.1 = k)) = false := by
    rw [Bool.eq_false_iff]
    intro hany
    obtain ⟨kv, hm, hk⟩ := List.any_eq_true.mp hany
    have hk' : kv.1 = k := of_decide_eq_true hk
    obtain ⟨j, hj, ej⟩ := List.mem_iff_getElem.mp hm
    rw [List.length_take] at hj
    rw [List.getElem_take] at ej
    have hj' : j < (vs.map (·.1)).length := by rw [List.length_map]; omega
    have hi' : i < (vs.map (·.1)).length := by rw [List.length_map]; omega
    have q : (vs.map (·.1))[j] = (vs.map (·.1))[i] := by
      rw [List.getElem_map, List.getElem_map, ej, e', hk']
    exact List.pairwise_iff_getElem.mp hn j i hj' hi' (by omega) q
  unfold stored
  rw [hno, List.take_add_one, e]
  rfl
section
variable {prog : Program} {w : World} {A : Around} {P : Nat → Value → Prop} {St : Nat → Heap → Prop} {R : Result → Shared → Prop} {n : Nat} {I : Addr} {fp wr : List Addr}
theorem dp_loop (W : Walks prog w A.in1 I fp wr n P St) {h₀ : Heap} {vs : List (Key × Value)} (hlen : vs.length = n) (hsz : vs.length ≤ sizeLine) (hn : (vs.map (·.1)).Nodup)
    (hP : ∀ i v, P i v → DpAt (prog := prog) (w := w) h₀ vs i v) (d : Addr) (hdf : d ∉ fp) (hw : ∀ b o, h₀.get? b = some o → b ∉ wr ∧ b ≠ d) (res : Value) :
    ∀ (k i : Nat) (s : Shared) (j : Int) (t : Tok), n - i = k → i ≤ n → St i s.heap → s.heap.DictOf (mixKind prog w) d (vs.take i) → (∀ b o, h₀.get? b = some o → s.heap.get? b = some o) →
    (∀ h' tk, h'.DictOf (mixKind prog w) d vs → (∀ b o, b ∉ wr → b ≠ d → s.heap.get? b = some o → h'.get? b = some o) → R (.ok (.ret res)) { s with heap := h', toks := tk }) →
    codeAny (model prog w) A (.builtin "dict.update.loop" ⟨[.ref d, .ref I, .int j t, res], []⟩) R s := by
  have hdw : d ∉ wr := fun h => hdf (W.sub _ h)
  intro k
  induction k with
  | zero =>
    intro i s j t hk hi hst hd h0 hR
    have hin : i = n := by omega
    subst hin
    refine codeAny_builtin dp_entry ?_
    rw [Around.under_plainId dp_plain _]
    refine wpAny_bind (m := pyNext (.ref I)) (W.done s _ _ hst fun h' tk hk' => wpAny_bind (wpAny_pure (wpAny_pure ?_)))
    refine hR h' tk ?_ fun b o hb _ e => hk' b o hb e
    rw [← hlen, List.take_length] at hd
    obtain ⟨o, es, ep, ho, rest⟩ := hd
    exact ⟨o, es, ep, hk' d o hdw ho, rest⟩
  | succ k ih =>
    intro i s j t hk hi hst hd h0 hR
    have hlt : i < n := by omega
    refine codeAny_builtin dp_entry ?_
    rw [Around.under_plainId dp_plain _]
    refine wpAny_bind (m := pyNext (.ref I)) (W.item i s _ _ hlt hst fun v h' tk hPv hst' hk' => ?_)
    obtain ⟨a, key, ku, vu, rfl, ev, ht, hkey⟩ := hP i v hPv
    have h0' : ∀ b o, h₀.get? b = some o → h'.get? b = some o := fun b o e => hk' b o (hw b o e).1 (h0 b o e)
    obtain ⟨o, ho, hc, m, hdat⟩ := ht
    have ho' := h0' a o ho
    have hT : ({ s with heap := h', toks := tk } : Shared).TypeIs (.ref a) "tuple" := ⟨o, ho', hc⟩
    refine wpAny_bind (wpAny_holding (wpAny_bind (wpAny_tryCatch ?_)))
    simp only [Builtin.Dict.pairItems]
    refine wpAny_bind (m := typeOf (.ref a)) (wpAny_typeOf hT ?_)
    rw [if_pos (by decide)]
    refine wpAny_bind (wpAny_seqItems ho' hdat (wpAny_pure ?_))
    show wpAny _ A.in1 (holding [ku, vu] (dictSet d ku vu)) _ _ _
    have hd' : Heap.DictOf (mixKind prog w) h' d (vs.take i) := by
      obtain ⟨o1, es, ep, ho1, rest⟩ := hd
      exact ⟨o1, es, ep, hk' d o1 hdw ho1, rest⟩
    refine wpAny_holding (wpAny_dictSet_pairs (hsz := by rw [List.length_take]; omega) hkey hd' fun h2 hd2 hs2 => ?_)
    rw [dp_stored vs hn ev] at hd2
    refine wpAny_pure ⟨plainId_quiet dp_plain _, ih (i + 1) _ (j + 1) 0 (by omega) hlt (W.frame _ _ _ hst' fun b hb o e => ?_) hd2 (fun b o e => ?_) fun h3 tk3 hd3 hk3 => ?_⟩
    · exact (hs2.2 b (fun z => hdf (z ▸ hb))).trans e
    · exact (hs2.2 b (hw b o e).2).trans (h0' b o e)
    · refine hR h3 tk3 hd3 fun b o hb hbd e => hk3 b o hb hbd ((hs2.2 b hbd).trans (hk' b o hb e))
end
section
variable {X : Cx}
def PrsAt (K : PySem.W.Frag) (H : Hp) (ts : List Addr) (kvs : List (Key × V)) : Prop := ts.length = kvs.length ∧ ∀ (i : Nat) (a : Addr) (k : Key) (y : V), ts[i]? = some a → kvs[i]? = some (k, y) → SqT K H a [kV k, y]
theorem prs_vals (h : Heap) : ∀ (ts : List Addr) (kvs : List (Key × V)), ts.length = kvs.length → (∀ (i : Nat) (a : Addr) (k : Key) (y : V), ts[i]? = some a → kvs[i]? = some (k, y) → ∃ ku vu, h.IsTuple a #[ku, vu] ∧ RelV (kV k) ku ∧ RelV y vu) →
    ∃ vs, KV kvs vs ∧ ∀ (i : Nat) (a : Addr), ts[i]? = some a → ∃ k ku vu, vs[i]? = some (k, vu) ∧ h.IsTuple a #[ku, vu] ∧ RelV (kV k) ku
  | [], [], _, _ => ⟨[], .nil, fun i a e => by simp at e⟩
  | [], _ :: _, e, _ => by simp at e
  | _ :: _, [], e, _ => by simp at e
  | t :: ts, kv :: kvs, e, hp => by
    obtain ⟨ku, vu, h1, h2, h3⟩ := hp 0 t kv.1 kv.2 rfl rfl
    obtain ⟨vs, r, hv⟩ := prs_vals h ts kvs (by simpa using e) fun i a k y e1 e2 => hp (i + 1) a k y e1 e2
    refine ⟨(kv.1, vu) :: vs, .cons ⟨rfl, h3⟩ r, fun i a ea => ?_⟩
    cases i with
    | zero =>
      have ea' : some t = some a := ea
      cases ea'
      exact ⟨kv.1, ku, vu, rfl, h1, h2⟩
    | succ i => exact hv i a ea
theorem call_dict_pairs (hc : X.calm = true) : CallR X (.type "dict") (fun xs H Q => ∃ (p : Addr) (ts : List Addr) (kvs : List (Key × V)), xs = [.ref p] ∧ SqL X.K H p (ts.map V.ref) ∧ PrsAt X.K H ts kvs ∧ (kvs.map (·.1)).Nodup ∧ ∀ l, H l = none → Q (.ref l) (upd H l (.dK kvs))) := by
  intro pins s σ H xs us Q I r h
  obtain ⟨p, ts, kvs, rfl, hq, hp, hn, q⟩ := h
  obtain ⟨u, rfl, ru⟩ := vals1 r
  cases ru
  obtain ⟨its, r', pl, hz⟩ := I.list hq
  rw [List.length_map] at hz
  have hlts : its.length = ts.length := by
    have := r'.length
    rw [List.length_map] at this
    exact this.symm
  have hat : ∀ (i : Nat) (a : Addr), ts[i]? = some a → its[i]? = some (Value.ref a) := fun i a e => by
    obtain ⟨u, hu, ru⟩ := r'.get (show (ts.map V.ref)[i]? = some (V.ref a) by rw [List.getElem?_map, e]; rfl)
    rw [hu, show u = Value.ref a from ru]
  obtain ⟨vs, rel, hvs⟩ := prs_vals s.heap ts kvs hp.1 fun i a k y e1 e2 => by
    obtain ⟨its2, r2, p2, _⟩ := I.tuple (hp.2 i a k y e1 e2)
    cases r2 with
    | cons r1 t1 =>
      cases t1 with
      | cons r3 t3 =>
        cases t3
        exact ⟨_, _, p2, r1, r3⟩
  have hlv : vs.length = its.toArray.size := by rw [List.size_toArray, hlts, hp.1, ← rel.length]
  have hkeys : vs.map (·.1) = kvs.map (·.1) := by
    have all : ∀ {l : List (Key × V)} {m : List (Key × Value)}, KV l m → m.map (·.1) = l.map (·.1) := by
      intro l m q
      induction q with
      | nil => rfl
      | cons hq t ih => rw [List.map_cons, List.map_cons, ih, hq.1]
    exact all rel
  have hpl : p < s.heap.objs.size := by
    obtain ⟨o, n, e, _⟩ := pl
    exact Heap.lt_size e
  refine callType_codes (Q₁ := fun ob t => ob = .ref s.heap.objs.size ∧ t = { s with heap := s.heap.push { cls := .type "dict", data := .dict #[] } }) F.kt_called_dict (F.kt_typeCall_dict_1 _) F.entry_dict_init (kt_code_dict_new _ ⟨rfl, rfl⟩) fun ob t ht => ?_
  obtain ⟨rfl, rfl⟩ := ht
  have hnew : (s.heap.push { cls := .type "dict", data := .dict #[] }).DictOf (mixKind X.prog X.w) s.heap.objs.size [] := Heap.DictOf.new s.heap
  have k0 : ∀ b o, s.heap.get? b = some o → (s.heap.push { cls := .type "dict", data := .dict #[] }).get? b = some o := fun b o e => Heap.get?_push_of_some _ e
  refine And.intro hnew.typeIs (And.intro (F.args_dict_init_2 _ _) ?_)
  delta Builtin.«dict.__init__» Builtin.Dict.selfAndRest
  refine wpAny_bind (wpAny_bind (wpAny_notOrdered_dict hnew.typeIs (wpAny_pure (?_ : wpAny _ _ (Builtin.Dict.updateFrom "dict.__init__" s.heap.objs.size (.ref p) [] .none) _ _ _))))
  delta Builtin.Dict.updateFrom
  have pl' := pl.keeps k0
  refine wpAny_bind (wpAny_typeOf pl'.isList.typeIs ?_)
  rw [if_pos (by decide)]
  refine wpAny_bind (dp_keys pl' (I.ok.hd hc) fun h1 tk1 hk1 => ?_)
  simp only [Option.isNone_none, if_true]
  refine wpAny_bind (wpAny_rule ?_)
  refine wpAny_bind (wpAny_pyIter_list (pl'.keeps hk1).isList ?_)
  have ld : s.heap.objs.size < h1.objs.size := by
    obtain ⟨o, es, ep, ho, _⟩ := hnew
    exact Heap.lt_size (hk1 _ _ ho)
  have k1 : ∀ b o, s.heap.get? b = some o → (h1.push { cls := .type "list_iterator", data := .fields #[.ref p, .int 0 0] }).get? b = some o := fun b o e => Heap.get?_push_of_some _ (hk1 b o (k0 b o e))
  refine wpAny_pure ⟨plainId_quiet dp_plain _, dp_loop (Walks.list (A := X.A.in1.in1) (I.ok.hd hc) h1.objs.size p (Nat.ne_of_lt (Nat.lt_trans hpl ld)) its.toArray) (h₀ := s.heap) (vs := vs) hlv (by rw [← rel.length, ← hp.1]; exact hz) (by rw [hkeys]; exact hn) ?_ s.heap.objs.size ?_ ?_ .none _ 0 _ 0 0 rfl (Nat.zero_le _) ?_ ?_ k1 ?_⟩
  · intro i v hv
    have hi : i < its.length := by
      have := (Array.getElem?_eq_some_iff.mp hv).1
      rwa [List.size_toArray] at this
    have ht : i < ts.length := by omega
    obtain ⟨k, ku, vu, e1, e2, e3⟩ := hvs i ts[i] (List.getElem?_eq_getElem ht)
    refine ⟨ts[i], k, ku, vu, ?_, e1, e2, kV_is e3⟩
    have := hat i ts[i] (List.getElem?_eq_getElem ht)
    have hv' : its[i]? = some v := by simpa using hv
    rw [this] at hv'
    exact (Option.some.inj hv').symm
  · intro hm
    have two : s.heap.objs.size = h1.objs.size ∨ s.heap.objs.size = p := by simpa using hm
    rcases two with e | e
    · exact absurd e (Nat.ne_of_lt ld)
    · exact absurd e (Nat.ne_of_gt hpl)
  · intro b o e
    have hb := Heap.lt_size e
    refine ⟨fun hm => ?_, Nat.ne_of_lt hb⟩
    have e' : b = h1.objs.size := by simpa using hm
    rw [e'] at hb
    exact absurd ld (Nat.not_lt_of_lt hb)
  · exact ⟨⟨_, Heap.get?_push_size _ rfl, rfl, rfl⟩, (pl.keeps k1).isList⟩
  · obtain ⟨o, es, ep, ho, rest⟩ := hnew
    exact ⟨o, es, ep, Heap.get?_push_of_some _ (hk1 _ _ ho), rest⟩
  · intro h' tk hd' hk'
    refine ⟨rfl, .ref s.heap.objs.size, _, I.laid (a := s.heap.objs.size) (o := .dK kvs) (fun b o e => ?_) (Nat.le_refl _) (dk_new (by rw [← hp.1]; exact hz) (beq_eq_false_iff_ne.mpr (Ne.symm (Nat.ne_of_lt I.big))) rel hd'), rfl, q _ (I.hok.fresh (Nat.le_refl _))⟩
    have hb := Heap.lt_size e
    refine hk' b o (fun hm => ?_) (Nat.ne_of_lt hb) (k1 b o e)
    have e' : b = h1.objs.size := by simpa using hm
    rw [e'] at hb
    exact absurd ld (Nat.not_lt_of_lt hb)
end
end L2
set_option Elab.async false
set_option linter.all false
set_option maxRecDepth 100000
set_option maxHeartbeats 4100000
namespace L2
open PySem PySem.Spec PyProof.Rows
section
variable {X : Cx}
theorem ps_comp {elt tg iter : Expr} {scope : Scope} {pos spos py : Pos} {wi : TI} {g : TG} {te : TE} {i0 : Nat} {x0 : Str} (own : List Str) (ix : List Nat) (hc : X.calm = true) (hN : X.N.Nodup) (hi0 : X.N[i0]? = some x0) (hx0 : Loc X.env.scope x0) (hi : PI X tg iter wi)
    (hkind : scope.kind = .function) (hnames : ∀ x ∈ scope.names, x.2 = .local → scope.names.lookup x.1 = some .local) (hcell : ∀ x ∈ scope.names, x.2 ≠ .cell)
    (hcap : ∀ x ∈ scope.names, x.2 = .free → X.env.scope.names.lookup x.1 = some .cell ∨ X.env.scope.names.lookup x.1 = some .free)
    (hix : ∀ j ∈ ix, ∃ y, X.N[j]? = some y ∧ scope.names.lookup y = some .free) (hgk : GK own.length g)
    (hg : ∀ cl C fp s H, PG (cxComp X (compN X own ix) scope cl C fp s H) tg g) (he : ∀ cl C fp s H, PE (cxComp X (compN X own ix) scope cl C fp s H) elt te)
    (hsw : swapsWith (.ListComp elt [⟨tg, iter, [], 0⟩] scope pos) (some (.Name x0 py)) spos.line X.env = pure true) (hf : X.fn x0 = true ∨ X.env.scope.names.lookup x0 = some .local)
    (hs : ∀ x, foldedSetIterable iter X.env x = pure x := by intro _; rfl) :
    PS X (.Assign [.Name x0 py] (.ListComp elt [⟨tg, iter, [], 0⟩] scope pos) spos) (tAsg (tComp own.length ix wi g te) (gName i0)) := by
  intro pins s σ H D0 I h
  have hcells : ∀ x ∈ scope.names, x.2 = .free → ∃ c, X.env.cells.lookup x.1 = some c := fun x hx hf => I.ok.has x.1 (hcap x hx hf)
  obtain ⟨cl, hcl, hcl1, hcl2⟩ := closure_of hcells
  have used := exec_Assign_Name_used _ _ _ _ hsw
  rw [used]
  refine wpAny_bind (wpAny_standAt (wpAny_bind (?_ : wpAny _ X.A (do let _ ← comprehension (.ListComp elt [⟨tg, iter, [], 0⟩] scope pos) scope X.env _ (newList []) false (eval iter X.env) (some (assign (.Name x0 py) X.env))) _ _ s)))
  refine wpAny_bind (wpAny_mono (wpAny_comprehension_free (use := some (assign (.Name x0 py) X.env)) (Q := fun _ s' => ∃ σ' H', Inv X pins σ' H' s' ∧ D0.nx σ' H') rfl hs hcl hkind hnames ?_) (fun _ s' hq => wpAny_pure (wpAny_pure hq)) fun _ _ e => e)
  refine thn (hi pins s σ H _ I h) fun v s1 h1 => thn h1 fun itv s2 h2 => ?_
  obtain ⟨it, fp, tn, J, H2, e, I2, T, st2, f2, W, ⟨m0, w0⟩, turn⟩ := h2
  subst e
  refine wpAny_newObj_type (wpAny_newFunctionEnv hcell (by intro y hy; simp at hy) (fun h4 hns hsb => ?_) hkind)
  dsimp only at hns hsb ⊢
  -- the list
  generalize hh3 : s2.heap.push { cls := .type "list", dict := none, data := .seq ([] : List Value).toArray } = h3 at hns hsb ⊢
  have sz3 : h3.objs.size = s2.heap.objs.size + 1 := by rw [← hh3, Heap.size_push]
  have k23 : ∀ b u, s2.heap.get? b = some u → h3.get? b = some u := fun b u q => by rw [← hh3]; exact Heap.get?_push_of_some _ q
  have D3 : h3.get? s2.heap.objs.size = some { cls := .type "list", data := .seq #[] } := by rw [← hh3]; exact Heap.get?_push_size _ rfl
  obtain ⟨D, hD⟩ : ∃ D, D = s2.heap.objs.size := ⟨_, rfl⟩
  obtain ⟨C, hC⟩ : ∃ C, C = h3.objs.size := ⟨_, rfl⟩
  rw [← hC] at hns hsb
  rw [← hD] at D3 sz3
  have hCD : C = D + 1 := hC.trans sz3
  let s3 : Shared := { s2 with heap := h3 }
  have I3 : Inv X pins σ H2 s3 := I2.kept (t' := s2.toks) k23
  have lt3 : ∀ b u, h3.get? b = some u → b < C := fun b u q => by rw [hC]; exact Heap.lt_size q
  have k34 : ∀ b u, h3.get? b = some u → h4.get? b = some u := fun b u q => hsb.extBut b u (Nat.ne_of_lt (lt3 b u q)) (Heap.get?_push_of_some _ q)
  have H2D : H2 D = none := I2.hok.fresh (by rw [hD]; exact Nat.le_refl _)
  have H2C : H2 C = none := I2.hok.fresh (by rw [hCD, hD]; exact Nat.le_succ _)
  have fD : FpOk X pins H2 D := I2.fpOk (by rw [hD]; exact Nat.le_refl _) H2D
  have cellsLt : ∀ x c, X.env.cells.lookup x = some c → c < D := fun x c e => by
    obtain ⟨v, z⟩ := I2.cell x c e
    rw [hD]; exact z.lt
  -- the iterator's own objects stand below the list
  have fpLt : ∀ b ∈ fp, b < D := fun b hb => by
    obtain ⟨o, e, _⟩ := T.obj 0 _ st2 b hb
    rw [hD]; exact Heap.lt_size e
  let X' : Cx := cxComp X (compN X own ix) scope cl C (D :: fp) s3 H2
  have stkLt : ∀ b ∈ frs X.stack, b ∉ D :: fp := fun b hb z => by
    rcases List.mem_cons.mp z with z | z
    · have q := I2.stack
      obtain ⟨_, o, e, _⟩ := q.mem hb
      have := Heap.lt_size e
      rw [z, hD] at this
      exact Nat.lt_irrefl _ this
    · rcases List.mem_cons.mp (I2.stkSub b hb) with q | q
      · exact (f2 b z).2.1 q
      · exact (f2 b z).2.2.1 q
  have ok' : X'.Ok := by
    refine ⟨I.ok.mod, hkind, I.ok.glob, I.ok.blt, ?_, fun x y c h1 h2 => I.ok.inj x y c (hcl1 x c h1) (hcl1 y c h2), fun x hx => hcl2 x (relabel_back (scope := scope) hx hcell), (fun x c z => Bool.noConfusion (show false = true from z)), I.ok.hd, I.ok.frames, .inl rfl, fun b hb => ⟨?_, fun x c h1 => ?_⟩, fun b o e => ?_, ?_, fun b o e hb => ?_, fun b hb z => stkLt b z hb, ?_, fun b hb => I2.stkFree b hb⟩
    · show h3.objs.size ≤ C
      rw [hC]; exact Nat.le_refl _
    · show b ≠ C
      rcases List.mem_cons.mp hb with z | z
      · rw [z, hCD]; exact Nat.ne_of_lt (Nat.lt_succ_self _)
      · rw [hCD]; exact Nat.ne_of_lt (Nat.lt_succ_of_lt (fpLt b z))
    · rcases List.mem_cons.mp hb with z | z
      · rw [z]; exact Nat.ne_of_lt (cellsLt x c (hcl1 x c h1))
      · exact (f2 b z).2.2.2.2.1 x c (hcl1 x c h1)
    · exact I3.bs b o e
    · show X.base.objs.size ≤ h3.objs.size
      have := Nat.le_trans I.ok.bsz I2.sz
      rw [← hD] at this
      rw [← hC, hCD]
      exact Nat.le_succ_of_le this
    · rcases List.mem_cons.mp hb with z | z
      · have := Heap.lt_size (I2.bk b o e)
        rw [z, hD] at this
        exact Nat.lt_irrefl _ this
      · rcases (f2 b z).2.2.2.1 with q | q
        · exact I.ok.noex b o e q
        · have := Nat.lt_of_lt_of_le (Heap.lt_size (I.ok.bs b o e).1) q
          exact Nat.lt_irrefl _ this
    · exact I3.stack
  have lenN : (compS own.length ix σ).length = (compN X own ix).length := by simp [compS, compN]
  have I4 : ∀ t, Inv X' [] (compS own.length ix σ) H2 { s2 with heap := h4, toks := t } := fun t => by
    refine ⟨ok', rfl, I2.bare, Un.kept k34, ⟨_, hns, fun i x v e1 e2 e3 => ?_⟩, fun x c e => ?_, H2C, fun x c e => I2.freeC x c (hcl1 x c e), fun p hp => absurd (show p ∈ ([] : List (Addr × Obj)) from hp) (by simp), (I3.hok).kept k34, lenN⟩
    · -- a name of the def that the block reads
      have hi' : own.length ≤ i := by
        apply Nat.le_of_not_lt
        intro hlt
        unfold compS at e2
        rw [List.getElem?_append_left (by simpa using hlt), List.getElem?_replicate, if_pos hlt] at e2
        cases e2
      have e1' : (ix.map fun j => X.N.getD j ("" : Str))[i - own.length]? = some x := by
        have z : (own ++ ix.map fun j => X.N.getD j ("" : Str))[i]? = some x := e1
        rwa [List.getElem?_append_right hi'] at z
      have e2' : (ix.map fun j => σ.getD j none)[i - own.length]? = some (some v) := by
        unfold compS at e2
        rw [List.getElem?_append_right (by simpa using hi')] at e2
        simpa using e2
      rw [List.getElem?_map] at e1' e2'
      cases hj : ix[i - own.length]? with
      | none => rw [hj] at e1'; cases e1'
      | some j =>
        rw [hj] at e1' e2'
        obtain ⟨y, hy, hfree⟩ := hix j (List.mem_of_getElem? hj)
        have ex : x = y := by
          have z : X.N.getD j ("" : Str) = x := Option.some.inj e1'
          rw [← z, List.getD_eq_getElem?_getD, hy]; rfl
        subst ex
        have ev : σ[j]? = some (some v) := by
          have z : σ.getD j none = some v := Option.some.inj e2'
          rw [List.getD_eq_getElem?_getD] at z
          cases q : σ[j]? with
          | none => rw [q] at z; cases z
          | some a => rw [q] at z; exact congrArg some z
        have hxm := PySem.mem_of_lookup hfree
        have hvis := hcap _ hxm rfl
        obtain ⟨m, hn, hl⟩ := I2.loc
        obtain ⟨u, r, lk⟩ := hl j x v hy ev (.inr hvis)
        refine ⟨u, r, .inr ⟨?_, ?_⟩⟩
        · rcases e3 with z | z
          · exact absurd z (relabel_fwd hfree)
          · exact z
        · rcases lk with ⟨k, _⟩ | ⟨_, c, hc1, z⟩
          · rcases hvis with q | q
            · exact absurd (k.symm.trans q) (by simp)
            · exact absurd (k.symm.trans q) (by simp)
          · obtain ⟨c', hc'⟩ := hcl2 x hxm
            have := hcl1 x c' hc'
            rw [hc1] at this
            cases this
            obtain ⟨o, ho, hd⟩ := z
            exact ⟨c, hc', o, k34 _ _ (k23 _ _ ho), hd⟩
    · obtain ⟨v, z⟩ := I3.cell x c (hcl1 x c e)
      obtain ⟨o, ho, hd⟩ := z
      exact ⟨v, o, k34 _ _ ho, hd⟩
  have nfp : ∀ b ∈ fp, b ≠ D := fun b hb => Nat.ne_of_lt (fpLt b hb)
  have fp' : ∀ {H' : Hp} {pl : List (Addr × Obj)}, (∀ p ∈ pl, p.1 = D) → (∀ b ∈ fp, H' b = none) → ∀ b ∈ fp, FpOk X' pl H' b := fun {H' pl} hp hn b hb =>
    ⟨hn b hb, (ok'.exf b (List.mem_cons_of_mem _ hb)).1, ok'.exfs b (List.mem_cons_of_mem _ hb), .inl (List.mem_cons_of_mem _ hb), (ok'.exf b (List.mem_cons_of_mem _ hb)).2, fun p hp' z => nfp b hb (z ▸ hp p (by
      have q : p ∈ ([] : List (Addr × Obj)) ++ pl := hp'
      simpa using q))⟩
  have dX : D ≠ X'.env.locals := (ok'.exf D List.mem_cons_self).1
  have dF : D ∉ X'.fs := ok'.exfs D List.mem_cons_self
  have loop : ∀ t, codeAny (model X.prog X.w) X.A (.compLoop (.ListComp elt [⟨tg, iter, [], 0⟩] scope pos) 0 (.ref it) (.ref D) (compEnvC scope cl C X.env))
      (compPost (model X.prog X.w) X.A X.xe (some (assign (.Name x0 py) X.env)) (fun _ s' => ∃ σ' H', Inv X pins σ' H' s' ∧ D0.nx σ' H') (.ref D) C) { s2 with heap := h4, toks := t } := fun t => by
    have st4 : tn 0 h4 := T.keep 0 _ _ st2 fun b _ o e => k34 _ _ (k23 _ _ e)
    refine compLoop_go (fun n s' => ∃ i ys its H', Inv X' [] (compS own.length ix σ) H' s' ∧ tn i s'.heap ∧ (∀ b ∈ fp, H' b = none) ∧ H' D = none ∧ s'.heap.PlainList D (List.toArray its) ∧ Vals ys its ∧ W i n ys H') ?_ m0
      ⟨0, [], [], H2, I4 t, st4, fun b hb => (f2 b hb).1, H2D, ⟨_, k34 _ _ D3⟩, .nil, w0⟩
    rintro n s5 ⟨i, ys, its, H5, I5, st5, fr5, d5, ⟨nn, l5⟩, v5, w5⟩
    obtain ⟨hz, hcase⟩ := turn i n ys H5 w5
    let oD : Obj := { cls := .type "list", data := .seq its.toArray nn }
    have onlyD : ∀ p ∈ [((D, oD) : Addr × Obj)], p.1 = D := fun p hp => by
      have e : p = (D, oD) := by simpa using hp
      rw [e]
    have I5' : Inv X' [(D, oD)] (compS own.length ix σ) H5 s5 := I5.pins_of fun p hp => by
      have e : p = (D, oD) := by simpa using hp
      subst e
      exact ⟨l5, d5, dX, dF, fun v z => nomatch z⟩
    rcases hcase with ⟨stop, qn⟩ | ⟨go, step⟩
    · refine thn (T.done X' rfl rfl rfl hc i _ s5 _ H5 _ I5' (fp' onlyD fr5) st5 stop) fun r s6 ⟨hr, I6⟩ => ?_
      subst hr
      obtain ⟨m, hn6, _⟩ := id I6.loc
      have I7 : Inv X pins σ H5 s6 := I3.call' (ch := D :: fp) I6.os I6.base I6.hok I6.bare fun b hb => by
        rcases List.mem_cons.mp hb with z | z
        · subst z
          exact ⟨fD.2.2.2.1, fD.2.1, fD.2.2.2.2.1, fD.2.2.2.2.2⟩
        · have f := f2 b z
          exact ⟨f.2.2.2.1, f.2.1, f.2.2.2.2.1, f.2.2.2.2.2⟩
      obtain ⟨gD, nD, _⟩ := I6.pin (D, oD) (by simp)
      have I8 := I7.retrack (o := .lst ys) nD ⟨nD, fD.2⟩ ⟨Nat.le_of_lt hz, its, nn, v5, gD⟩
      have fC : FpOk X pins (upd H5 D (.lst ys)) C := I2.fpOk (by rw [hCD, hD]; exact Nat.le_succ _) (by rw [upd_ne (by rw [hCD]; exact Nat.ne_of_gt (Nat.lt_succ_self _))]; exact I6.free)
      show wpAny _ X.A (assign (.Name x0 py) X.env (.ref D)) _ _ _
      refine wpAny_assign_Name (store_ok2 (v := .ref D) I8 hN hi0 hx0 rfl (fun s7 I9 hs7 => ?_) hf)
      obtain ⟨a, hs7, ha⟩ := hs7
      have hCa : C ≠ a := by
        rcases ha with ha | ha
        · rw [ha]; exact fC.2.1
        · exact fun z => fC.2.2.2.2.1 x0 a ha z.symm
      refine ⟨m, hn6.sameBut hs7 hCa, fun h' hs' => ⟨_, _, I9.turned (it := C) (t' := s7.toks) (fun b o hb e => (hs'.2 b hb).trans e) fC.1 fC.2.1 fC.2.2.2.1 fC.2.2.2.2.1 fC.2.2.2.2.2, qn D nD⟩⟩
    · refine thn (T.item X' rfl rfl rfl hc i _ s5 _ H5 _ I5' (fp' onlyD fr5) st5 go) fun r s6 ⟨u, hr, h6⟩ => ?_
      subst hr
      refine thn h6 fun _ s7 ⟨x, H7, I7, r7, y7, st7, fr7⟩ => ?_
      have I7' := I7.pinned (fp' onlyD fr7) (T.obj _ _ st7)
      refine thn (hg cl C (D :: fp) s3 H2 _ s7 _ H7 x u _ I7' r7 (hgk _ _ _ _ (step x H7 y7))) fun _ s8 ⟨σ8, H8, I8, q8, l8, k8⟩ => ?_
      refine thn (he cl C (D :: fp) s3 H2 _ s8 σ8 H8 _ I8 q8) fun yv s9 ⟨y, H9, I9, r9, m', hm', w9⟩ => ?_
      obtain ⟨gD, nD, _⟩ := I9.pin (D, oD) (by simp)
      have hlen : its.length = ys.length := v5.length.symm
      refine wpAny_list_append_plain (l := D) (items := its.toArray) ⟨nn, gD⟩ (fun h' hl' hs' => ?_) (by rw [List.size_toArray, hlen]; exact Nat.le_of_lt hz)
      have kp : ∀ b o, b ≠ D → s9.heap.get? b = some o → h'.get? b = some o := fun b o hb q => (hs'.2 b hb).trans q
      have I9' : Inv X' (pinsAt fp s7.heap) σ8 H9 s9 := I9.pins_of fun p hp => I9.pin p (by
        refine List.mem_append_right _ (List.mem_append_right _ hp))
      have pinNe : ∀ p ∈ X'.pn ++ pinsAt fp s7.heap, p.1 ≠ D := fun p hp => by
        have q : p ∈ ([] : List (Addr × Obj)) ++ pinsAt fp s7.heap := hp
        exact nfp _ (of_pinsAt (by simpa using q)).1
      have I10 : Inv X' (pinsAt fp s7.heap) σ8 H9 { s9 with heap := h', toks := s9.toks } := I9'.turned (it := D) kp nD dX (.inl List.mem_cons_self) (ok'.exf D List.mem_cons_self).2 pinNe
      refine ⟨m', hm', i + 1, ys ++ [y], its ++ [yv], H9, ?_, ?_, ?_, nD, ?_, v5.append (.cons r9 .nil), w9⟩
      · refine Inv.weak (I10.pins_of (pins' := []) fun p hp => nomatch hp) (by rw [l8]) fun j v hj => ?_
        by_cases hlt : j < own.length
        · unfold compS at hj
          rw [List.getElem?_append_left (by simpa using hlt), List.getElem?_replicate, if_pos hlt] at hj
          cases hj
        · have e : σ8[j]? = (compS own.length ix σ)[j]? := by
            have q := congrArg (fun l : List (Option V) => l[j - own.length]?) k8
            simp only [List.getElem?_drop] at q
            rwa [Nat.add_sub_cancel' (Nat.le_of_not_lt hlt)] at q
          rw [e]; exact hj
      · exact T.keep _ _ _ st7 fun b hb o e => (I10.pin (b, o) (List.mem_append_right _ (mem_pinsAt hb e))).1
      · intro b hb
        obtain ⟨o, e, d⟩ := T.obj _ _ st7 b hb
        exact (I10.pin (b, o) (List.mem_append_right _ (mem_pinsAt hb e))).2.1
      · have e : (its ++ [yv]).toArray = its.toArray.push yv := by simp
        rw [e]; exact hl'
  rw [← hC, ← hD]
  exact codeAny_compStart_list (loop _) (T.self _ 0 _ _ _ (T.keep 0 _ _ st2 fun b _ o e => k34 _ _ (k23 _ _ e)) (loop _))
theorem ps_cmpr {elt tg iter : Expr} {scope : Scope} {pos spos py : Pos} {wi : TI} {g : TG} {te : TE} {i0 : Nat} {x0 : Str} (own : List Str) (ix : List Nat) (hN : X.N.Nodup) (hi0 : X.N[i0]? = some x0) (hx0 : Loc X.env.scope x0) (hi : PI X tg iter wi) (hgk : GK own.length g)
    (hg : ∀ cl C fp s H, PG (cxComp X (compN X own ix) scope cl C fp s H) tg g) (he : ∀ cl C fp s H, PE (cxComp X (compN X own ix) scope cl C fp s H) elt te)
    (hc : X.calm = true := by rfl) (hkind : scope.kind = .function := by rfl) (hok : compOk scope X.env.scope.names X.N ix = true := by rfl)
    (hsw : swapsWith (.ListComp elt [⟨tg, iter, [], 0⟩] scope pos) (some (.Name x0 py)) spos.line X.env = pure true := by rfl) (hf : X.fn x0 = true ∨ X.env.scope.names.lookup x0 = some .local := by first | exact .inl rfl | exact .inr rfl | assumption)
    (hs : ∀ x, foldedSetIterable iter X.env x = pure x := by intro _; rfl) :
    PS X (.Assign [.Name x0 py] (.ListComp elt [⟨tg, iter, [], 0⟩] scope pos) spos) (tAsg (tComp own.length ix wi g te) (gName i0)) := by
  unfold compOk at hok
  rw [Bool.and_eq_true, List.all_eq_true, List.all_eq_true] at hok
  obtain ⟨h1, h2⟩ := hok
  refine ps_comp own ix hc hN hi0 hx0 hi hkind (fun x hx hl => ?_) (fun x hx => ?_) (fun x hx hf => ?_) (fun j hj => ?_) hgk hg he hsw hf hs
  · have q := h1 x hx
    simp only [Bool.and_eq_true, Bool.or_eq_true, decide_eq_true_eq] at q
    exact q.1.1.resolve_left fun z => z hl
  · have q := h1 x hx
    simp only [Bool.and_eq_true, Bool.or_eq_true, decide_eq_true_eq] at q
    exact q.1.2
  · have q := h1 x hx
    simp only [Bool.and_eq_true, Bool.or_eq_true, decide_eq_true_eq] at q
    rcases q.2 with (z | z) | z
    · exact absurd hf z
    · exact .inl z
    · exact .inr z
  · have q := h2 j hj
    cases e : X.N[j]? with
    | none => rw [e] at q; cases q
    | some y => rw [e] at q; exact ⟨y, rfl, of_decide_eq_true q⟩
end
end L2
set_option Elab.async false
set_option linter.all false
set_option maxRecDepth 100000
set_option maxHeartbeats 4100000
namespace L2
open PySem PySem.Spec PyProof.Rows
theorem compLoop_goI {prog : Program} {w : World} {A : Around} {R : Result → Shared → Prop} {s : Shared} {elt target iter ct : Expr} {scope : Scope} {pos : Pos} {it acc : Value} {env : Env} (I : Nat → Shared → Prop)
    (turn : ∀ n s, I n s → wpAny (model prog w) A (pyNext it) (fun r s1 => match r with
      | none => R (.ok .next) s1
      | some v => wpAny (model prog w) A (letOwnedTupleGo target it v) (fun _ s1' => wpAny (model prog w) A (assign target env v) (fun _ s2 => wpAny (model prog w) A (isTrue ct env (eval ct env)) (fun b s2' => if b = true then wpAny (model prog w) A (eval elt env) (fun x s3 =>
          wpAny (model prog w) A (call (.builtin "list.append") [acc, x]) (fun _ s4 => ∃ m, m < n ∧ I m s4) (fun _ _ => False) s3)
          (fun _ _ => False) s2' else ∃ m, m < n ∧ I m s2') (fun _ _ => False) s2) (fun _ _ => False) s1') (fun _ _ => False) s1) (fun _ _ => False) s)
    (n : Nat) (h : I n s) : codeAny (model prog w) A (.compLoop (.ListComp elt [⟨target, iter, [ct], 0⟩] scope pos) 0 it acc env) R s := by
  refine codeAny_loop rfl I (fun n s hI => wpAny_noted (m := compTurn (.ListComp elt [⟨target, iter, [ct], 0⟩] scope pos) 0 it acc env) ?_) n h
  rw [compTurn_list]
  refine wpAny_bind (wpAny_standAt (wpAny_bind (wpAny_mono (turn n s hI) (fun r s1 h1 => ?_) fun _ _ h' => h'.elim)))
  cases r with
  | none => exact wpAny_pure h1
  | some v =>
    refine wpAny_bind (wpAny_mono h1 (fun _ s1' h1' => wpAny_bind (wpAny_mono h1' (fun _ s2 h2 => ?_) fun _ _ h' => h'.elim)) fun _ _ h' => h'.elim)
    dsimp only
    refine wpAny_bind ?_
    rw [List.forIn_cons]
    simp only [if_true]
    refine wpAny_bind (wpAny_bind (wpAny_mono h2 (fun b s2' h2' => wpAny_pure ?_) fun _ _ h' => h'.elim))
    dsimp only
    rw [List.forIn_nil]
    refine wpAny_pure ?_
    cases b with
    | true =>
      rw [if_pos rfl] at h2'
      simp only [if_true]
      exact wpAny_bind (wpAny_bind (wpAny_mono h2' (fun x s3 h3 => wpAny_bind (wpAny_mono h3 (fun _ s4 h4 => wpAny_pure (wpAny_pure ⟨rfl, h4⟩)) fun _ _ h' => h'.elim)) fun _ _ h' => h'.elim))
    | false =>
      rw [if_neg (by simp)] at h2'
      simp only [if_neg Bool.false_ne_true]
      exact wpAny_pure ⟨rfl, h2'⟩
def CompWI (J : It) (g : TG) (tc : TT) (te : TE) (s0 : St) (Q : VK) (H1 : Hp) : Prop := ∃ W : Nat → Nat → List V → Hp → Prop, (∃ m, W 0 m [] H1) ∧ ∀ i m ys H, W i m ys H →
  ys.length < sizeLine ∧ ((J.stop i H ∧ ∀ p, H p = none → Q (.ref p) (upd H p (.lst ys))) ∨
    (J.go i H ∧ ∀ x H', J.yld i H x H' → g x s0 H' fun σ2 H2 => tc σ2 H2 fun b H3 => if b = true then te σ2 H3 fun y H4 => ∃ m', m' < m ∧ W (i + 1) m' (ys ++ [y]) H4 else ∃ m', m' < m ∧ W (i + 1) m' ys H3))
def tCompI (k : Nat) (ix : List Nat) (wi : TI) (g : TG) (tc : TT) (te : TE) : TE := fun σ H Q => wi σ H fun J H1 => CompWI J g tc te (compS k ix σ) Q H1
theorem comp_formI {J : It} {g : TG} {tc : TT} {te : TE} {s0 : St} {Q : VK} {H : Hp} (n : Nat) (hn : n < sizeLine) (Pv : Nat → List V → Hp → Prop) (h0 : Pv 0 [] H) (hlen : ∀ i vs H, Pv i vs H → vs.length ≤ i)
    (hgo : ∀ i vs H, i < n → Pv i vs H → J.go i H) (hstop : ∀ vs H, Pv n vs H → J.stop n H)
    (hs : ∀ i vs H x H' (R : Bool → V → Hp → Prop), i < n → Pv i vs H → J.yld i H x H' → (∀ v H3, Pv (i + 1) (vs ++ [v]) H3 → R true v H3) → (∀ H3, Pv (i + 1) vs H3 → R false .non H3) → g x s0 H' fun s2 H2 => tc s2 H2 fun b H3 => if b = true then te s2 H3 (R true) else R false .non H3)
    (hd : ∀ vs H p, Pv n vs H → H p = none → Q (.ref p) (upd H p (.lst vs))) :
    CompWI J g tc te s0 Q H := by
  refine ⟨fun i m vs H => m = n - i ∧ i ≤ n ∧ Pv i vs H, ⟨n, by simp, Nat.zero_le _, h0⟩, ?_⟩
  rintro i m vs H ⟨rfl, hi, p⟩
  have hl := hlen i vs H p
  refine ⟨by omega, ?_⟩
  by_cases hlt : i < n
  · exact .inr ⟨hgo i vs H hlt p, fun x H' y => hs i vs H x H' (fun b v H3 => if b = true then ∃ m', m' < n - i ∧ m' = n - (i + 1) ∧ i + 1 ≤ n ∧ Pv (i + 1) (vs ++ [v]) H3 else ∃ m', m' < n - i ∧ m' = n - (i + 1) ∧ i + 1 ≤ n ∧ Pv (i + 1) vs H3) hlt p y
      (fun v H3 p3 => by rw [if_pos rfl]; exact ⟨n - (i + 1), by omega, rfl, hlt, p3⟩) fun H3 p3 => by rw [if_neg (by simp)]; exact ⟨n - (i + 1), by omega, rfl, hlt, p3⟩⟩
  · have e : i = n := by omega
    subst e
    exact .inl ⟨hstop vs H p, fun a ha => hd vs H a p ha⟩
section
variable {X : Cx}
theorem ps_compI {elt tg iter ct : Expr} {tc : TT} {scope : Scope} {pos spos py : Pos} {wi : TI} {g : TG} {te : TE} {i0 : Nat} {x0 : Str} (own : List Str) (ix : List Nat) (hc : X.calm = true) (hN : X.N.Nodup) (hi0 : X.N[i0]? = some x0) (hx0 : Loc X.env.scope x0) (hi : PI X tg iter wi)
    (hkind : scope.kind = .function) (hnames : ∀ x ∈ scope.names, x.2 = .local → scope.names.lookup x.1 = some .local) (hcell : ∀ x ∈ scope.names, x.2 ≠ .cell)
    (hcap : ∀ x ∈ scope.names, x.2 = .free → X.env.scope.names.lookup x.1 = some .cell ∨ X.env.scope.names.lookup x.1 = some .free)
    (hix : ∀ j ∈ ix, ∃ y, X.N[j]? = some y ∧ scope.names.lookup y = some .free) (hgk : GK own.length g)
    (hg : ∀ cl C fp s H, PG (cxComp X (compN X own ix) scope cl C fp s H) tg g) (hct : ∀ cl C fp s H, PT (cxComp X (compN X own ix) scope cl C fp s H) ct tc) (he : ∀ cl C fp s H, PE (cxComp X (compN X own ix) scope cl C fp s H) elt te)
    (hsw : swapsWith (.ListComp elt [⟨tg, iter, [ct], 0⟩] scope pos) (some (.Name x0 py)) spos.line X.env = pure true) (hf : X.fn x0 = true ∨ X.env.scope.names.lookup x0 = some .local)
    (hs : ∀ x, foldedSetIterable iter X.env x = pure x := by intro _; rfl) :
    PS X (.Assign [.Name x0 py] (.ListComp elt [⟨tg, iter, [ct], 0⟩] scope pos) spos) (tAsg (tCompI own.length ix wi g tc te) (gName i0)) := by
  intro pins s σ H D0 I h
  have hcells : ∀ x ∈ scope.names, x.2 = .free → ∃ c, X.env.cells.lookup x.1 = some c := fun x hx hf => I.ok.has x.1 (hcap x hx hf)
  obtain ⟨cl, hcl, hcl1, hcl2⟩ := closure_of hcells
  have used := exec_Assign_Name_used _ _ _ _ hsw
  rw [used]
  refine wpAny_bind (wpAny_standAt (wpAny_bind (?_ : wpAny _ X.A (do let _ ← comprehension (.ListComp elt [⟨tg, iter, [ct], 0⟩] scope pos) scope X.env _ (newList []) false (eval iter X.env) (some (assign (.Name x0 py) X.env))) _ _ s)))
  refine wpAny_bind (wpAny_mono (wpAny_comprehension_free (use := some (assign (.Name x0 py) X.env)) (Q := fun _ s' => ∃ σ' H', Inv X pins σ' H' s' ∧ D0.nx σ' H') rfl hs hcl hkind hnames ?_) (fun _ s' hq => wpAny_pure (wpAny_pure hq)) fun _ _ e => e)
  refine thn (hi pins s σ H _ I h) fun v s1 h1 => thn h1 fun itv s2 h2 => ?_
  obtain ⟨it, fp, tn, J, H2, e, I2, T, st2, f2, W, ⟨m0, w0⟩, turn⟩ := h2
  subst e
  refine wpAny_newObj_type (wpAny_newFunctionEnv hcell (by intro y hy; simp at hy) (fun h4 hns hsb => ?_) hkind)
  dsimp only at hns hsb ⊢
  -- the list
  generalize hh3 : s2.heap.push { cls := .type "list", dict := none, data := .seq ([] : List Value).toArray } = h3 at hns hsb ⊢
  have sz3 : h3.objs.size = s2.heap.objs.size + 1 := by rw [← hh3, Heap.size_push]
  have k23 : ∀ b u, s2.heap.get? b = some u → h3.get? b = some u := fun b u q => by rw [← hh3]; exact Heap.get?_push_of_some _ q
  have D3 : h3.get? s2.heap.objs.size = some { cls := .type "list", data := .seq #[] } := by rw [← hh3]; exact Heap.get?_push_size _ rfl
  obtain ⟨D, hD⟩ : ∃ D, D = s2.heap.objs.size := ⟨_, rfl⟩
  obtain ⟨C, hC⟩ : ∃ C, C = h3.objs.size := ⟨_, rfl⟩
  rw [← hC] at hns hsb
  rw [← hD] at D3 sz3
  have hCD : C = D + 1 := hC.trans sz3
  let s3 : Shared := { s2 with heap := h3 }
  have I3 : Inv X pins σ H2 s3 := I2.kept (t' := s2.toks) k23
  have lt3 : ∀ b u, h3.get? b = some u → b < C := fun b u q => by rw [hC]; exact Heap.lt_size q
  have k34 : ∀ b u, h3.get? b = some u → h4.get? b = some u := fun b u q => hsb.extBut b u (Nat.ne_of_lt (lt3 b u q)) (Heap.get?_push_of_some _ q)
  have H2D : H2 D = none := I2.hok.fresh (by rw [hD]; exact Nat.le_refl _)
  have H2C : H2 C = none := I2.hok.fresh (by rw [hCD, hD]; exact Nat.le_succ _)
  have fD : FpOk X pins H2 D := I2.fpOk (by rw [hD]; exact Nat.le_refl _) H2D
  have cellsLt : ∀ x c, X.env.cells.lookup x = some c → c < D := fun x c e => by
    obtain ⟨v, z⟩ := I2.cell x c e
    rw [hD]; exact z.lt
  -- the iterator's own objects stand below the list
  have fpLt : ∀ b ∈ fp, b < D := fun b hb => by
    obtain ⟨o, e, _⟩ := T.obj 0 _ st2 b hb
    rw [hD]; exact Heap.lt_size e
  let X' : Cx := cxComp X (compN X own ix) scope cl C (D :: fp) s3 H2
  have stkLt : ∀ b ∈ frs X.stack, b ∉ D :: fp := fun b hb z => by
    rcases List.mem_cons.mp z with z | z
    · have q := I2.stack
      obtain ⟨_, o, e, _⟩ := q.mem hb
      have := Heap.lt_size e
      rw [z, hD] at this
      exact Nat.lt_irrefl _ this
    · rcases List.mem_cons.mp (I2.stkSub b hb) with q | q
      · exact (f2 b z).2.1 q
      · exact (f2 b z).2.2.1 q
  have ok' : X'.Ok := by
    refine ⟨I.ok.mod, hkind, I.ok.glob, I.ok.blt, ?_, fun x y c h1 h2 => I.ok.inj x y c (hcl1 x c h1) (hcl1 y c h2), fun x hx => hcl2 x (relabel_back (scope := scope) hx hcell), (fun x c z => Bool.noConfusion (show false = true from z)), I.ok.hd, I.ok.frames, .inl rfl, fun b hb => ⟨?_, fun x c h1 => ?_⟩, fun b o e => ?_, ?_, fun b o e hb => ?_, fun b hb z => stkLt b z hb, ?_, fun b hb => I2.stkFree b hb⟩
    · show h3.objs.size ≤ C
      rw [hC]; exact Nat.le_refl _
    · show b ≠ C
      rcases List.mem_cons.mp hb with z | z
      · rw [z, hCD]; exact Nat.ne_of_lt (Nat.lt_succ_self _)
      · rw [hCD]; exact Nat.ne_of_lt (Nat.lt_succ_of_lt (fpLt b z))
    · rcases List.mem_cons.mp hb with z | z
      · rw [z]; exact Nat.ne_of_lt (cellsLt x c (hcl1 x c h1))
      · exact (f2 b z).2.2.2.2.1 x c (hcl1 x c h1)
    · exact I3.bs b o e
    · show X.base.objs.size ≤ h3.objs.size
      have := Nat.le_trans I.ok.bsz I2.sz
      rw [← hD] at this
      rw [← hC, hCD]
      exact Nat.le_succ_of_le this
    · rcases List.mem_cons.mp hb with z | z
      · have := Heap.lt_size (I2.bk b o e)
        rw [z, hD] at this
        exact Nat.lt_irrefl _ this
      · rcases (f2 b z).2.2.2.1 with q | q
        · exact I.ok.noex b o e q
        · have := Nat.lt_of_lt_of_le (Heap.lt_size (I.ok.bs b o e).1) q
          exact Nat.lt_irrefl _ this
    · exact I3.stack
  have lenN : (compS own.length ix σ).length = (compN X own ix).length := by simp [compS, compN]
  have I4 : ∀ t, Inv X' [] (compS own.length ix σ) H2 { s2 with heap := h4, toks := t } := fun t => by
    refine ⟨ok', rfl, I2.bare, Un.kept k34, ⟨_, hns, fun i x v e1 e2 e3 => ?_⟩, fun x c e => ?_, H2C, fun x c e => I2.freeC x c (hcl1 x c e), fun p hp => absurd (show p ∈ ([] : List (Addr × Obj)) from hp) (by simp), (I3.hok).kept k34, lenN⟩
    · -- a name of the def that the block reads
      have hi' : own.length ≤ i := by
        apply Nat.le_of_not_lt
        intro hlt
        unfold compS at e2
        rw [List.getElem?_append_left (by simpa using hlt), List.getElem?_replicate, if_pos hlt] at e2
        cases e2
      have e1' : (ix.map fun j => X.N.getD j ("" : Str))[i - own.length]? = some x := by
        have z : (own ++ ix.map fun j => X.N.getD j ("" : Str))[i]? = some x := e1
        rwa [List.getElem?_append_right hi'] at z
      have e2' : (ix.map fun j => σ.getD j none)[i - own.length]? = some (some v) := by
        unfold compS at e2
        rw [List.getElem?_append_right (by simpa using hi')] at e2
        simpa using e2
      rw [List.getElem?_map] at e1' e2'
      cases hj : ix[i - own.length]? with
      | none => rw [hj] at e1'; cases e1'
      | some j =>
        rw [hj] at e1' e2'
        obtain ⟨y, hy, hfree⟩ := hix j (List.mem_of_getElem? hj)
        have ex : x = y := by
          have z : X.N.getD j ("" : Str) = x := Option.some.inj e1'
          rw [← z, List.getD_eq_getElem?_getD, hy]; rfl
        subst ex
        have ev : σ[j]? = some (some v) := by
          have z : σ.getD j none = some v := Option.some.inj e2'
          rw [List.getD_eq_getElem?_getD] at z
          cases q : σ[j]? with
          | none => rw [q] at z; cases z
          | some a => rw [q] at z; exact congrArg some z
        have hxm := PySem.mem_of_lookup hfree
        have hvis := hcap _ hxm rfl
        obtain ⟨m, hn, hl⟩ := I2.loc
        obtain ⟨u, r, lk⟩ := hl j x v hy ev (.inr hvis)
        refine ⟨u, r, .inr ⟨?_, ?_⟩⟩
        · rcases e3 with z | z
          · exact absurd z (relabel_fwd hfree)
          · exact z
        · rcases lk with ⟨k, _⟩ | ⟨_, c, hc1, z⟩
          · rcases hvis with q | q
            · exact absurd (k.symm.trans q) (by simp)
            · exact absurd (k.symm.trans q) (by simp)
          · obtain ⟨c', hc'⟩ := hcl2 x hxm
            have := hcl1 x c' hc'
            rw [hc1] at this
            cases this
            obtain ⟨o, ho, hd⟩ := z
            exact ⟨c, hc', o, k34 _ _ (k23 _ _ ho), hd⟩
    · obtain ⟨v, z⟩ := I3.cell x c (hcl1 x c e)
      obtain ⟨o, ho, hd⟩ := z
      exact ⟨v, o, k34 _ _ ho, hd⟩
  have nfp : ∀ b ∈ fp, b ≠ D := fun b hb => Nat.ne_of_lt (fpLt b hb)
  have fp' : ∀ {H' : Hp} {pl : List (Addr × Obj)}, (∀ p ∈ pl, p.1 = D) → (∀ b ∈ fp, H' b = none) → ∀ b ∈ fp, FpOk X' pl H' b := fun {H' pl} hp hn b hb =>
    ⟨hn b hb, (ok'.exf b (List.mem_cons_of_mem _ hb)).1, ok'.exfs b (List.mem_cons_of_mem _ hb), .inl (List.mem_cons_of_mem _ hb), (ok'.exf b (List.mem_cons_of_mem _ hb)).2, fun p hp' z => nfp b hb (z ▸ hp p (by
      have q : p ∈ ([] : List (Addr × Obj)) ++ pl := hp'
      simpa using q))⟩
  have dX : D ≠ X'.env.locals := (ok'.exf D List.mem_cons_self).1
  have dF : D ∉ X'.fs := ok'.exfs D List.mem_cons_self
  have loop : ∀ t, codeAny (model X.prog X.w) X.A (.compLoop (.ListComp elt [⟨tg, iter, [ct], 0⟩] scope pos) 0 (.ref it) (.ref D) (compEnvC scope cl C X.env))
      (compPost (model X.prog X.w) X.A X.xe (some (assign (.Name x0 py) X.env)) (fun _ s' => ∃ σ' H', Inv X pins σ' H' s' ∧ D0.nx σ' H') (.ref D) C) { s2 with heap := h4, toks := t } := fun t => by
    have st4 : tn 0 h4 := T.keep 0 _ _ st2 fun b _ o e => k34 _ _ (k23 _ _ e)
    refine compLoop_goI (fun n s' => ∃ i ys its H', Inv X' [] (compS own.length ix σ) H' s' ∧ tn i s'.heap ∧ (∀ b ∈ fp, H' b = none) ∧ H' D = none ∧ s'.heap.PlainList D (List.toArray its) ∧ Vals ys its ∧ W i n ys H') ?_ m0
      ⟨0, [], [], H2, I4 t, st4, fun b hb => (f2 b hb).1, H2D, ⟨_, k34 _ _ D3⟩, .nil, w0⟩
    rintro n s5 ⟨i, ys, its, H5, I5, st5, fr5, d5, ⟨nn, l5⟩, v5, w5⟩
    obtain ⟨hz, hcase⟩ := turn i n ys H5 w5
    let oD : Obj := { cls := .type "list", data := .seq its.toArray nn }
    have onlyD : ∀ p ∈ [((D, oD) : Addr × Obj)], p.1 = D := fun p hp => by
      have e : p = (D, oD) := by simpa using hp
      rw [e]
    have I5' : Inv X' [(D, oD)] (compS own.length ix σ) H5 s5 := I5.pins_of fun p hp => by
      have e : p = (D, oD) := by simpa using hp
      subst e
      exact ⟨l5, d5, dX, dF, fun v z => nomatch z⟩
    rcases hcase with ⟨stop, qn⟩ | ⟨go, step⟩
    · refine thn (T.done X' rfl rfl rfl hc i _ s5 _ H5 _ I5' (fp' onlyD fr5) st5 stop) fun r s6 ⟨hr, I6⟩ => ?_
      subst hr
      obtain ⟨m, hn6, _⟩ := id I6.loc
      have I7 : Inv X pins σ H5 s6 := I3.call' (ch := D :: fp) I6.os I6.base I6.hok I6.bare fun b hb => by
        rcases List.mem_cons.mp hb with z | z
        · subst z
          exact ⟨fD.2.2.2.1, fD.2.1, fD.2.2.2.2.1, fD.2.2.2.2.2⟩
        · have f := f2 b z
          exact ⟨f.2.2.2.1, f.2.1, f.2.2.2.2.1, f.2.2.2.2.2⟩
      obtain ⟨gD, nD, _⟩ := I6.pin (D, oD) (by simp)
      have I8 := I7.retrack (o := .lst ys) nD ⟨nD, fD.2⟩ ⟨Nat.le_of_lt hz, its, nn, v5, gD⟩
      have fC : FpOk X pins (upd H5 D (.lst ys)) C := I2.fpOk (by rw [hCD, hD]; exact Nat.le_succ _) (by rw [upd_ne (by rw [hCD]; exact Nat.ne_of_gt (Nat.lt_succ_self _))]; exact I6.free)
      show wpAny _ X.A (assign (.Name x0 py) X.env (.ref D)) _ _ _
      refine wpAny_assign_Name (store_ok2 (v := .ref D) I8 hN hi0 hx0 rfl (fun s7 I9 hs7 => ?_) hf)
      obtain ⟨a, hs7, ha⟩ := hs7
      have hCa : C ≠ a := by
        rcases ha with ha | ha
        · rw [ha]; exact fC.2.1
        · exact fun z => fC.2.2.2.2.1 x0 a ha z.symm
      refine ⟨m, hn6.sameBut hs7 hCa, fun h' hs' => ⟨_, _, I9.turned (it := C) (t' := s7.toks) (fun b o hb e => (hs'.2 b hb).trans e) fC.1 fC.2.1 fC.2.2.2.1 fC.2.2.2.2.1 fC.2.2.2.2.2, qn D nD⟩⟩
    · refine thn (T.item X' rfl rfl rfl hc i _ s5 _ H5 _ I5' (fp' onlyD fr5) st5 go) fun r s6 ⟨u, hr, h6⟩ => ?_
      subst hr
      refine thn h6 fun _ s7 ⟨x, H7, I7, r7, y7, st7, fr7⟩ => ?_
      have I7' := I7.pinned (fp' onlyD fr7) (T.obj _ _ st7)
      refine thn (hg cl C (D :: fp) s3 H2 _ s7 _ H7 x u _ I7' r7 (hgk _ _ _ _ (step x H7 y7))) fun _ s8 ⟨σ8, H8, I8, q8, l8, k8⟩ => ?_
      refine thn (hct cl C (D :: fp) s3 H2 _ s8 σ8 H8 _ I8 q8) fun cb s8' ⟨H8', I8', q8'⟩ => ?_
      have pinNe : ∀ p ∈ X'.pn ++ pinsAt fp s7.heap, p.1 ≠ D := fun p hp => by
        have q : p ∈ ([] : List (Addr × Obj)) ++ pinsAt fp s7.heap := hp
        exact nfp _ (of_pinsAt (by simpa using q)).1
      have weak : ∀ {H9 : Hp} {s9 : Shared}, Inv X' (pinsAt fp s7.heap) σ8 H9 s9 → Inv X' [] (compS own.length ix σ) H9 s9 := fun {H9 s9} I10 => by
        refine Inv.weak (I10.pins_of (pins' := []) fun p hp => nomatch hp) (by rw [l8]) fun j v hj => ?_
        by_cases hlt : j < own.length
        · unfold compS at hj
          rw [List.getElem?_append_left (by simpa using hlt), List.getElem?_replicate, if_pos hlt] at hj
          cases hj
        · have e : σ8[j]? = (compS own.length ix σ)[j]? := by
            have q := congrArg (fun l : List (Option V) => l[j - own.length]?) k8
            simp only [List.getElem?_drop] at q
            rwa [Nat.add_sub_cancel' (Nat.le_of_not_lt hlt)] at q
          rw [e]; exact hj
      have cut : ∀ {H9 : Hp} {s9 : Shared}, Inv X' ((D, oD) :: pinsAt fp s7.heap) σ8 H9 s9 → Inv X' (pinsAt fp s7.heap) σ8 H9 s9 := fun {H9 s9} I9 => I9.pins_of fun p hp => I9.pin p (List.mem_append_right _ (List.mem_cons_of_mem _ hp))
      cases cb with
      | false =>
        rw [if_neg (by simp)] at q8'
        rw [if_neg (by simp)]
        obtain ⟨m', hm', w9⟩ := q8'
        obtain ⟨gD, nD, _⟩ := I8'.pin (D, oD) (by simp)
        have I10 := cut I8'
        refine ⟨m', hm', i + 1, ys, its, H8', weak I10, ?_, ?_, nD, ⟨nn, gD⟩, v5, w9⟩
        · exact T.keep _ _ _ st7 fun b hb o e => (I10.pin (b, o) (List.mem_append_right _ (mem_pinsAt hb e))).1
        · intro b hb
          obtain ⟨o, e, d⟩ := T.obj _ _ st7 b hb
          exact (I10.pin (b, o) (List.mem_append_right _ (mem_pinsAt hb e))).2.1
      | true =>
        rw [if_pos rfl] at q8'
        rw [if_pos rfl]
        refine thn (he cl C (D :: fp) s3 H2 _ s8' σ8 H8' _ I8' q8') fun yv s9 ⟨y, H9, I9, r9, m', hm', w9⟩ => ?_
        obtain ⟨gD, nD, _⟩ := I9.pin (D, oD) (by simp)
        have hlen : its.length = ys.length := v5.length.symm
        refine wpAny_list_append_plain (l := D) (items := its.toArray) ⟨nn, gD⟩ (fun h' hl' hs' => ?_) (by rw [List.size_toArray, hlen]; exact Nat.le_of_lt hz)
        have kp : ∀ b o, b ≠ D → s9.heap.get? b = some o → h'.get? b = some o := fun b o hb q => (hs'.2 b hb).trans q
        have I10 : Inv X' (pinsAt fp s7.heap) σ8 H9 { s9 with heap := h', toks := s9.toks } := (cut I9).turned (it := D) kp nD dX (.inl List.mem_cons_self) (ok'.exf D List.mem_cons_self).2 pinNe
        refine ⟨m', hm', i + 1, ys ++ [y], its ++ [yv], H9, weak I10, ?_, ?_, nD, ?_, v5.append (.cons r9 .nil), w9⟩
        · exact T.keep _ _ _ st7 fun b hb o e => (I10.pin (b, o) (List.mem_append_right _ (mem_pinsAt hb e))).1
        · intro b hb
          obtain ⟨o, e, d⟩ := T.obj _ _ st7 b hb
          exact (I10.pin (b, o) (List.mem_append_right _ (mem_pinsAt hb e))).2.1
        · have e : (its ++ [yv]).toArray = its.toArray.push yv := by simp
          rw [e]; exact hl'
  rw [← hC, ← hD]
  exact codeAny_compStart_list (loop _) (T.self _ 0 _ _ _ (T.keep 0 _ _ st2 fun b _ o e => k34 _ _ (k23 _ _ e)) (loop _))
theorem ps_cmpi {elt tg iter ct : Expr} {scope : Scope} {pos spos py : Pos} {wi : TI} {g : TG} {tc : TT} {te : TE} {i0 : Nat} {x0 : Str} (own : List Str) (ix : List Nat) (hN : X.N.Nodup) (hi0 : X.N[i0]? = some x0) (hx0 : Loc X.env.scope x0) (hi : PI X tg iter wi) (hgk : GK own.length g)
    (hg : ∀ cl C fp s H, PG (cxComp X (compN X own ix) scope cl C fp s H) tg g) (hct : ∀ cl C fp s H, PT (cxComp X (compN X own ix) scope cl C fp s H) ct tc) (he : ∀ cl C fp s H, PE (cxComp X (compN X own ix) scope cl C fp s H) elt te)
    (hc : X.calm = true := by rfl) (hkind : scope.kind = .function := by rfl) (hok : compOk scope X.env.scope.names X.N ix = true := by rfl)
    (hsw : swapsWith (.ListComp elt [⟨tg, iter, [ct], 0⟩] scope pos) (some (.Name x0 py)) spos.line X.env = pure true := by rfl) (hf : X.fn x0 = true ∨ X.env.scope.names.lookup x0 = some .local := by first | exact .inl rfl | exact .inr rfl | assumption)
    (hs : ∀ x, foldedSetIterable iter X.env x = pure x := by intro _; rfl) :
    PS X (.Assign [.Name x0 py] (.ListComp elt [⟨tg, iter, [ct], 0⟩] scope pos) spos) (tAsg (tCompI own.length ix wi g tc te) (gName i0)) := by
  unfold compOk at hok
  rw [Bool.and_eq_true, List.all_eq_true, List.all_eq_true] at hok
  obtain ⟨h1, h2⟩ := hok
  refine ps_compI own ix hc hN hi0 hx0 hi hkind (fun x hx hl => ?_) (fun x hx => ?_) (fun x hx hf => ?_) (fun j hj => ?_) hgk hg hct he hsw hf hs
  · have q := h1 x hx
    simp only [Bool.and_eq_true, Bool.or_eq_true, decide_eq_true_eq] at q
    exact q.1.1.resolve_left fun z => z hl
  · have q := h1 x hx
    simp only [Bool.and_eq_true, Bool.or_eq_true, decide_eq_true_eq] at q
    exact q.1.2
  · have q := h1 x hx
    simp only [Bool.and_eq_true, Bool.or_eq_true, decide_eq_true_eq] at q
    rcases q.2 with (z | z) | z
    · exact absurd hf z
    · exact .inl z
    · exact .inr z
  · have q := h2 j hj
    cases e : X.N[j]? with
    | none => rw [e] at q; cases q
    | some y => rw [e] at q; exact ⟨y, rfl, of_decide_eq_true q⟩
end
end L2
set_option Elab.async false
set_option linter.all false
set_option maxRecDepth 100000
set_option maxHeartbeats 4100000
namespace PySem.W
open PySem PyProof.Rows
section
variable {prog : Program} {w : World} {A : Around} {E : Value → Shared → Prop} {s : Shared} {K : Frag} {x D : Addr} {ox : Obj} {odo : Option Obj}
theorem findObj_any {name : Str} {a g : Value} (hc : (clsIn K D).isSome = true) (ha : findIn K (.ref D) name = some (some a)) (hn : specialIn K a "__get__" = some (some g)) (htk : takesIn K a = some true) : findObj K D odo name = some (.bind g a) := by
  obtain ⟨cd, e⟩ := Option.isSome_iff_exists.mp hc
  simp only [findObj, e, ha, Option.bind_some, hn, htk]
structure ExcC (K : Frag) (D : Addr) : Prop where
  cls : (clsIn K D).isSome = true
  ga : findIn K (.ref D) "__getattribute__" = some (some (.builtin "BaseException.__getattribute__"))
  gn : findIn K (.ref D) "__getattr__" = some none
  base : mroIn K D (.type "BaseException") = some true
  obj : mroIn K D (.type "object") = some true
  ha : findIn K (.ref D) "__class__" = some (some (.builtin "object.__class__"))
  hn : specialIn K (.builtin "object.__class__") "__get__" = some (some (.builtin "getset_descriptor.__get__"))
  htk : takesIn K (.builtin "object.__class__") = some true
theorem cls_at {h : Heap} (X : K.In h) (hc : (clsIn K D).isSome = true) : ∃ c d cd sl, h.get? D = some ⟨c, d, .cls cd, sl⟩ := by
  unfold clsIn at hc
  split at hc
  case h_1 c d cd sl ho => exact ⟨c, d, cd, sl, X D _ ho⟩
  case h_2 => cases hc
theorem cls_looks {M : Model} {h : Heap} (X : K.In h) (hc : (clsIn K D).isSome = true) : Looks M h (isType (.ref D)) true := by
  obtain ⟨c, d, cd, sl, ho⟩ := cls_at X hc
  intro A' Q' E' s' k q
  simp only [isType, loadHead]
  exact wpAny_bind (wpAny_loadPart (k D _ ho) (wpAny_pure q))
theorem ga_kind : builtinKind "BaseException.__getattribute__" = some .slot := by decide +kernel
theorem ga_split : splitId "BaseException.__getattribute__" = some ("BaseException", "__getattribute__") := by decide +kernel
theorem ga_not : (Value.builtin "BaseException.__getattribute__" == .builtin "object.__getattribute__") = false := by decide +kernel
theorem exc_check {M : Model} {nameV : Value} {Q : Unit → Shared → Prop} (C : ExcC K D) (X : K.In s.heap) (I : InstAt s.heap x ox D odo) (hq : Q () s) :
    wpAny M A (checkBuiltinCall "BaseException.__getattribute__" ⟨[.ref x, nameV], []⟩) Q E s := by
  have hs := looks_mroIn (M := M) X C.base
  have hn := F.args_bexc_ga (.ref x) nameV
  have ht := I.type (M := M)
  unfold checkBuiltinCall
  simp only [ga_kind, ga_split, isInstance]
  obtain ⟨h, g, d, t, os⟩ := s
  refine wpAny_bind (wpAny_bind (ht.at (hs.at ?_)))
  repeat any_goals first | exact hn | exact hq | wp_step
theorem exc_class {Q : Option Value → Shared → Prop} (C : ExcC K D) (X : K.In s.heap) (I : InstAt s.heap x ox D odo) (h : Q (some (.ref D)) { s with toks := s.toks + 1 }) :
    wpAny (model prog w) A (getAttr? (.ref x) "__class__") Q E s := by
  obtain ⟨hh, g, d, t, os⟩ := s
  have ht := I.type (M := model prog w)
  have l1 := looks_findIn (M := model prog w) X C.ga
  have l2 := looks_findIn (M := model prog w) X C.gn
  have l3 := looks_find (M := model prog w) X I (findObj_any C.cls C.ha C.hn C.htk)
  have sl := F.attr_ValueError.ga
  have bs := sl.bind (.ref x)
  simp only [getAttr?, getAttrBy?, getAttrBy]
  refine wpAny_bind (wpAny_mkText (wpAny_bind (wpAny_attempt (wpAny_holding (wpAny_bind (ht.at ?_))))))
  refine wpAny_bind (l1.at ?_)
  simp only [ga_not, Bool.and_false, Bool.false_eq_true, if_false, getAttrByItsOwn, hookBefore]
  refine wpAny_bind (l2.at (wpAny_bind (wpAny_attempt (wpAny_holding ?_))))
  simp only [callGetattribute, boundAndCalled, Bool.false_and, Bool.false_eq_true, if_false]
  rw [bs]
  refine wpAny_bind (wpAny_pure (wpAny_call (codeAny_call_builtin sl.plain F.entry_bexc_ga (exc_check C X I ?_))))
  simp only [Builtin.«object.__getattribute__»]
  repeat (first | (with_reducible refine wpAny_call (class_get (s := ⟨hh, g, d, t + 1, os⟩) X I C.obj ?_)) | lk)
  exact h
theorem cls_no_tuple {h : Heap} {tp : Addr} {dd : Option Addr} {its : List Value} {n : Nat} {sl : Array (Option Value)} (X : K.In h) (hc : (clsIn K D).isSome = true) (htp : h.get? tp = some ⟨.type "tuple", dd, .seq its.toArray n, sl⟩) : (Value.ref D == .ref tp) = false := by
  obtain ⟨c, d, cd, sl', ho⟩ := cls_at X hc
  cases hb : (Value.ref D == Value.ref tp) with
  | false => rfl
  | true => cases beq_iff_eq.mp hb; cases ho.symm.trans htp
theorem kitx_exc (C : ExcC K D) : KitX K (.ref x) (.ref D) (fun h => ∃ ox odo, InstAt h x ox D odo) :=
  ⟨fun _ _ _ ⟨_, _, I⟩ => I.type, fun _ _ X _ => cls_looks X C.cls, fun _ _ _ _ _ _ X ht => cls_no_tuple X C.cls ht, fun X ⟨_, _, I⟩ k => exc_class C X I k⟩
theorem exc_matches {M : Model} {N : Addr} {b : Bool} {Q : Bool → Shared → Prop} (X : K.In s.heap) (I : InstAt s.heap x ox D odo)
    (hN : (clsIn K N).isSome = true) (hT : typeIn K (.ref N) = some (.type "type")) (hB : mroIn K N (.type "BaseException") = some true) (hS : subIn K (.ref D) (.ref N) = some b) (hq : Q b s) :
    wpAny M A (excMatches (.ref x) (.ref N)) Q E s := by
  have ht := I.type (M := M)
  have l1 := looks_typeIn (M := M) X hT
  have l2 := looks_mroIn (M := M) X hB
  have l3 := looks_subIn (M := M) X hS
  have l4 := cls_looks (M := M) X hN
  have nt := tc_notTuple
  obtain ⟨h, g, d, t, os⟩ := s
  simp only [excMatches, isInstance, isExcClass]
  repeat any_goals first | assumption | lk
  cases b <;> (repeat any_goals first | assumption | lk)
end
end PySem.W
set_option Elab.async false
set_option linter.all false
set_option maxRecDepth 100000
set_option maxHeartbeats 4100000
namespace L2
open PySem PySem.Spec PyProof.Rows
def Trc (old : Heap) (H : Hp) (h : Heap) (ea : Addr) (vs : Array Value) : Prop :=
  vs[1]? = some .none ∨ ∃ T oT ts, vs[1]? = some (.ref T) ∧ T ≠ ea ∧ old.get? T = none ∧ H T = none ∧ h.get? T = some oT ∧ oT.data = .fields ts ∧ ts[3]? = some .none
structure Fly (old : Heap) (H : Hp) (h : Heap) (ea C : Addr) (dx : Option Addr) : Prop where
  new : old.get? ea = none
  free : H ea = none
  obj : ∃ oe vs, h.get? ea = some oe ∧ oe.cls = .ref C ∧ oe.dict = dx ∧ oe.data = .fields vs ∧ 1 < vs.size ∧ Trc old H h ea vs
section
variable {M : Model} {A : Around} {s : Shared} {E : Value → Shared → Prop}
def tbO (head : Value) (L : Addr) (pl : List Value) : Obj := { cls := .type "traceback", dict := none, data := .fields ([head, .ref L, .none, rawInt L, .none] ++ (if pl.isEmpty then List.replicate 6 Value.none else pl)).toArray }
def tbH (g : Heap) (head : Value) (L ea : Addr) (pl : List Value) : Heap :=
  ((g.push (tbO head L pl)).update ea (Obj.mapFields (·.setIfInBounds 1 (.ref g.objs.size)))).update g.objs.size (Obj.mapFields (·.setIfInBounds 3 ((none : Option Addr).elim Value.none fun f => rawInt f)))
section
variable {g : Heap} {head : Value} {L ea : Addr} {pl : List Value} {oe : Obj} {vs : Array Value}
theorem tb_other {b : Addr} {o : Obj} (hb : b ≠ ea) (q : g.get? b = some o) : (tbH g head L ea pl).get? b = some o :=
  (Heap.get?_update_other _ _ (Nat.ne_of_gt (Heap.lt_size q))).trans ((Heap.get?_update_other _ _ (Ne.symm hb)).trans (Heap.get?_push_of_some _ q))
theorem tb_exc0 (q : g.get? ea = some oe) (hd : oe.data = .fields vs) : ((g.push (tbO head L pl)).update ea (Obj.mapFields (·.setIfInBounds 1 (.ref g.objs.size)))).get? ea = some (oe.mapFields (·.setIfInBounds 1 (.ref g.objs.size))) :=
  Heap.get?_update_self _ (Heap.get?_push_of_some _ q) (Obj.isFreed_of_fields (Obj.data_mapFields hd _))
theorem tb_exc (q : g.get? ea = some oe) (hd : oe.data = .fields vs) : (tbH g head L ea pl).get? ea = some (oe.mapFields (·.setIfInBounds 1 (.ref g.objs.size))) :=
  (Heap.get?_update_other _ _ (Nat.ne_of_gt (Heap.lt_size q))).trans (tb_exc0 q hd)
theorem tb_self0 (q : g.get? ea = some oe) : ((g.push (tbO head L pl)).update ea (Obj.mapFields (·.setIfInBounds 1 (.ref g.objs.size)))).get? g.objs.size = some (tbO head L pl) :=
  (Heap.get?_update_other _ _ (Nat.ne_of_lt (Heap.lt_size q))).trans (Heap.get?_push_size g rfl)
theorem tb_self (q : g.get? ea = some oe) : ∃ o ts, (tbH g head L ea pl).get? g.objs.size = some o ∧ o.data = .fields ts ∧ ts[3]? = some Value.none :=
  ⟨_, _, Heap.get?_update_self _ (tb_self0 q) (Obj.isFreed_of_fields (Obj.data_mapFields rfl _)), Obj.data_mapFields rfl _, by
    rw [Array.getElem?_setIfInBounds_self_of_lt (by simp)]; rfl⟩
end
theorem entry_x {base : Heap} {env : Env} {outer : List Env} {L ea : Addr} {oe : Obj} {vs : Array Value} {head : Value} {hadNext : Bool} {Q : Unit → Shared → Prop}
    (fr : A.frames = some (env :: outer)) (ff : s.heap.FunFrames base (env :: outer)) (fl : env.frame = some L)
    (he : s.heap.get? ea = some oe) (hd : oe.data = .fields vs) (hsz : 1 < vs.size)
    (h : ∀ h' T oT ts, s.heap.get? T = none → (∀ b o, b ≠ ea → b ∉ frs (env :: outer) → s.heap.get? b = some o → h'.get? b = some o) → (∀ b o, b ≠ ea → s.heap.get? b = some o → ∃ sl, h'.get? b = some { o with slots := sl }) →
      h'.get? ea = some (oe.mapFields (·.setIfInBounds 1 (.ref T))) → h'.get? T = some oT → oT.data = .fields ts → ts[3]? = some .none → Q () { s with heap := h' }) :
    wpAny M A (do let a ← frameOf env; let pl ← entryPlaceOf L hadNext; let b ← EntryCells.newEntry head a .none (rawInt L) .none pl; setField (.ref ea) 1 b) (fun _ s' => wpAny M A (setFlight (.ref ea) none) Q E s') E s := by
  have apart : ea ∉ frs (env :: outer) := fun z => (ff.mem z).2.elim fun o q => q.2 vs (by have e := he.symm.trans q.1; cases e; exact hd)
  refine wpAny_bind (wpAny_frameOf_fun fr ff fl fun g hg => wpAny_bind (wpAny_entryPlaceOf fun pl hp => ?_))
  have hea : g.get? ea = some oe := (hg.2.1 ea apart).trans he
  obtain ⟨oT, ts, q1, q2, q3⟩ := tb_self (head := head) (L := L) (pl := pl) hea
  simp only [EntryCells.newEntry, newFields]
  refine wpAny_bind (wpAny_newObj_type (wpAny_setField (Heap.get?_push_of_some _ hea) hd hsz ?_) (hp.sizeOk5 _ _ _ _ _))
  simp only [setFlight]
  refine wpAny_bind (wpAny_field (tb_exc0 (head := head) (L := L) (pl := pl) hea hd) (Obj.data_mapFields hd _) (x := .ref g.objs.size) (by simp [hsz]) ?_)
  rw [if_pos (by simp)]
  refine wpAny_setField (tb_self0 hea) rfl (by simp) ?_
  refine h (tbH g head L ea pl) g.objs.size oT ts (Heap.get?_none_of_le (Nat.le_of_eq hg.1.symm)) (fun b o hb nf q => tb_other hb ((hg.2.1 b nf).trans q)) (fun b o hb q => ?_) (tb_exc hea hd) q1 q2 q3
  obtain ⟨sl, q'⟩ := hg.2.2 b o q
  exact ⟨sl, tb_other hb q'⟩
theorem note_x {base : Heap} {env : Env} {outer : List Env} {L ea C : Addr} {dx : Option Addr} {old : Heap} {H : Hp} {Q : Unit → Shared → Prop}
    (hfr : A.frames = some (env :: outer)) (hl : s.heap.FunFrames base (env :: outer)) (hf : env.frame = some L) (F : Fly old H s.heap ea C dx) (hT : ∀ b o, old.get? b = some o → ∃ u, s.heap.get? b = some u) (hH : ∀ b o, H b = some o → ∃ u, s.heap.get? b = some u)
    (h : ∀ h', (∀ b o, (H b ≠ none ∨ ∃ u, old.get? b = some u) → b ∉ frs (env :: outer) → s.heap.get? b = some o → h'.get? b = some o) →
      (∀ b o, (∀ vs, o.data ≠ .fields vs) → s.heap.get? b = some o → ∃ sl, h'.get? b = some { o with slots := sl }) → Fly old H h' ea C dx → Q () { s with heap := h' }) :
    wpAny M A (noteFrame (.ref ea) env) (fun _ s₂ => wpAny M A (setFlight (.ref ea) none) Q E s₂) E s := by
  obtain ⟨hnew, hfree, oe, vs, he, hc, hdx, hd, hsz, ht⟩ := F
  unfold noteFrame
  simp only [hf]
  have done : ∀ h1 : Heap, (∀ b o, b ≠ ea → (H b ≠ none ∨ (∃ u, old.get? b = some u) ∨ ∀ vs, o.data ≠ .fields vs) → s.heap.get? b = some o → h1.get? b = some o) → (∀ b, (∃ u, s.heap.get? b = some u) → ∃ u, h1.get? b = some u) →
      ∀ h' T oT ts, h1.get? T = none → (∀ b o, b ≠ ea → b ∉ frs (env :: outer) → h1.get? b = some o → h'.get? b = some o) → (∀ b o, b ≠ ea → h1.get? b = some o → ∃ sl, h'.get? b = some { o with slots := sl }) →
      h'.get? ea = some (oe.mapFields (·.setIfInBounds 1 (.ref T))) → h'.get? T = some oT → oT.data = .fields ts → ts[3]? = some .none → Q () { s with heap := h' } := by
    intro h1 k1 k2 h' T oT ts hTn hk hsl hea hTo hTd hT3
    have dead : ∀ b, h1.get? b = none → s.heap.get? b = none := fun b hb => by
      cases q : s.heap.get? b with
      | none => rfl
      | some u => obtain ⟨v, hv⟩ := k2 b ⟨u, q⟩; rw [hb] at hv; cases hv
    have hTs := dead T hTn
    refine h h' (fun b o hb hnf hq => ?_) (fun b o hnd hq => ?_) ⟨hnew, hfree, _, _, hea, ?_, ?_, Obj.data_mapFields hd _, by simpa using hsz, .inr ⟨T, oT, ts, by simp [hsz], ?_, ?_, ?_, hTo, hTd, hT3⟩⟩
    · have hne : b ≠ ea := by
        rintro rfl
        rcases hb with z | ⟨u, z⟩
        · exact z hfree
        · rw [hnew] at z; cases z
      exact hk b o hne hnf (k1 b o hne (by rcases hb with z | z; exact .inl z; exact .inr (.inl z)) hq)
    · have hne : b ≠ ea := by
        rintro rfl
        rw [he] at hq; cases hq; exact hnd _ hd
      exact hsl b o hne (k1 b o hne (.inr (.inr hnd)) hq)
    · rw [Obj.cls_mapFields]; exact hc
    · rw [← hdx]; obtain ⟨c, d, dt, sl⟩ := oe; cases dt <;> rfl
    · rintro rfl; rw [he] at hTs; cases hTs
    · cases q : old.get? T with
      | none => rfl
      | some u => obtain ⟨v, hv⟩ := hT T u q; rw [hTs] at hv; cases hv
    · cases q : H T with
      | none => rfl
      | some u => obtain ⟨v, hv⟩ := hH T u q; rw [hTs] at hv; cases hv
  rcases ht with h1 | ⟨T, oT, ts, h1, hTe, hnT, hfT, hTo, hdT, h3⟩
  · refine wpAny_bind (wpAny_field he hd h1 ?_)
    rw [if_neg (by decide)]
    exact entry_x hfr hl hf he hd hsz (done s.heap (fun b o _ _ q => q) (fun b q => q))
  · refine wpAny_bind (wpAny_field he hd h1 ?_)
    rw [if_pos (by simp)]
    refine wpAny_bind (wpAny_field hTo hdT h3 ?_)
    rw [if_neg (by simp [rawInt])]
    have lt3 := (Array.getElem?_eq_some_iff.mp h3).1
    have other : ∀ b, b ≠ T → (s.heap.update T (Obj.mapFields fun a => a.setIfInBounds 3 .none)).get? b = s.heap.get? b := fun b z => Heap.get?_update_other _ _ z.symm
    refine wpAny_bind (wpAny_setField hTo hdT lt3 ?_)
    refine entry_x hfr (hl.of_keeps fun b o hb hnf => ⟨o, (other b fun q => by rw [q, hTo] at hb; cases hb; exact hnf _ hdT).trans hb, rfl⟩) hf ((other ea (Ne.symm hTe)).trans he) hd hsz
      (done _ (fun b o hne hb hq => ?_) (fun b hb => ?_))
    · refine (other b ?_).trans hq
      rintro rfl
      rcases hb with z | ⟨u, z⟩ | z
      · exact z hfT
      · rw [hnT] at z; cases z
      · rw [hTo] at hq; cases hq; exact z _ hdT
    · by_cases e : b = T
      · subst e
        exact ⟨_, Heap.get?_update_self _ hTo (Obj.isFreed_of_fields (Obj.data_mapFields hdT _))⟩
      · obtain ⟨u, hu⟩ := hb
        exact ⟨u, (other b e).trans hu⟩
end
end L2
set_option Elab.async false
set_option linter.all false
set_option maxRecDepth 100000
set_option maxHeartbeats 4100000
namespace L2
open PySem PySem.Spec PyProof.Rows
section
variable {P : Program} {w : World} {H : Hp} {h : Heap} {a : Addr} {o : HO}
theorem ObjOk.ex (x : ObjOk P w H h a o) : ∃ u, h.get? a = some u := by
  cases o with
  | lst xs => obtain ⟨_, _, _, _, e⟩ := x; exact ⟨_, e⟩
  | tup xs => obtain ⟨_, _, _, o, e, _⟩ := x; exact ⟨_, e⟩
  | dK kvs => obtain ⟨_, _, _, _, o, _, _, e, _⟩ := x; exact ⟨_, e⟩
  | dT kvs => obtain ⟨_, _, _, _, o, _, _, e, _⟩ := x; exact ⟨_, e⟩
  | set S n => obtain ⟨o, _, _, _, e, _⟩ := x; exact ⟨_, e⟩
  | ins C dx fs => obtain ⟨_, _, _, e, _⟩ := x; exact ⟨_, e⟩
  | own y => exact x
  | xd fs => obtain ⟨_, ⟨_, _, _, e, _⟩, _⟩ := x; exact ⟨_, e⟩
  | rng lo hi => obtain ⟨_, _, _, e⟩ := x; exact ⟨_, e⟩
  | frz ob u => obtain ⟨e, _⟩ := x; exact ⟨_, e⟩
  | tbl ps => exact ⟨_, x⟩
  | met f y => exact ⟨_, x⟩
  | ext φ => obtain ⟨_, e, _⟩ := x; exact e
end
def CX1 (P : Program) (w : World) : CXT := fun outer H s E e s' => ∃ ea C dx H', e = .ref ea ∧ s'.os = s.os ∧ AllBare s'.gens ∧ Un (frs outer) [] H H' s.heap s'.heap ∧ HOk P w H' s'.heap ∧ Fly s.heap H' s'.heap ea C dx ∧ E (.ref C) dx H'
def Lets (X : Cx) (E : XK) : Prop := ∀ (pins : List (Addr × Obj)) (σ : St) (H : Hp) (s : Shared) (ea C : Addr) (dx : Option Addr), Inv X pins σ H s → Fly X.s₀.heap H s.heap ea C dx → E (.ref C) dx H → X.xe (.ref ea) s
theorem Fly.older {old old' : Heap} {H : Hp} {h : Heap} {ea C : Addr} {dx : Option Addr} (F : Fly old H h ea C dx) (k : ∀ b u, old'.get? b = some u → ∃ v, old.get? b = some v) : Fly old' H h ea C dx := by
  have dead : ∀ b, old.get? b = none → old'.get? b = none := fun b hb => by
    cases q : old'.get? b with
    | none => rfl
    | some u => obtain ⟨v, hv⟩ := k b u q; rw [hb] at hv; cases hv
  obtain ⟨hnew, hfree, oe, vs, he, hc, hdx, hd, hsz, ht⟩ := F
  refine ⟨dead _ hnew, hfree, oe, vs, he, hc, hdx, hd, hsz, ?_⟩
  rcases ht with h1 | ⟨T, oT, ts, h1, hTe, hnT, r⟩
  · exact .inl h1
  · exact .inr ⟨T, oT, ts, h1, hTe, dead _ hnT, r⟩
section
variable {P : Program} {w : World} {K : PySem.W.Frag} {mg : Str → Option Value} {base : Heap} {N : List Str} {qual : Str} {scope : Scope} {f : Addr} {cd : Value} {A : Around} {outer : List Env} {s₀ : Shared} {H₀ : Hp} {E : XK}
theorem lets_cx : Lets (cxOf (CX1 P w) P w K mg base N qual scope f cd A outer s₀ H₀ E) E := by
  intro pins σ H s ea C dx I F q
  have there : ∀ b u, s₀.heap.get? b = some u → ∃ v, s.heap.get? b = some v := fun b u e => I.base.there b u e (by simp [cxOf])
  show wpAny _ _ (leaving _ _) _ _ s
  unfold leaving
  refine wpAny_bind (note_x (base := base) (outer := outer) I.ok.frames I.stack rfl F there (fun b o e => (I.hok b o e).ex) fun h' hk hsl F' => ?_)
  have fr : ∀ b ∈ frs (envOfC qual scope s₀.heap.objs.size f cd :: outer), H b = none := I.stkFree
  have nofr : ∀ b o, H b = some o → b ∉ frs (envOfC qual scope s₀.heap.objs.size f cd :: outer) := fun b o e z => by rw [fr b z] at e; cases e
  have tk : ∀ b o u, H b = some o → s.heap.get? b = some u → h'.get? b = some u := fun b o u e q => hk b u (.inl (by rw [e]; simp)) (nofr b o e) q
  have B := I.base
  refine ⟨ea, C, dx, H, rfl, I.os, I.bare, ⟨fun b o e n hb _ => ?_, fun b o e n hb _ => ?_, fun b o e n _ => B.free b o e n (by simp [cxOf]), fun b o e _ => ?_, B.tups, B.frzs, B.tbls⟩, fun a o e => ?_, F', q⟩
  · refine hk b o (.inr ⟨o, e⟩) ?_ (B.keep b o e n hb (by simp [cxOf]))
    intro z
    have z' : b ∈ (s₀.heap.objs.size :: frs outer) := z
    rcases List.mem_cons.mp z' with rfl | z'
    · exact (Nat.lt_irrefl _ (Heap.lt_size e)).elim
    · exact hb z'
  · obtain ⟨sl, e1⟩ := B.slot b o e n hb (by simp [cxOf])
    have nd : ∀ vs, o.data ≠ .fields vs := fun vs z => by
      obtain ⟨_, o', ho', hd'⟩ := I.stack.mem (b := b) (by show b ∈ (s₀.heap.objs.size :: frs outer); exact List.mem_cons_of_mem _ hb)
      rw [e1] at ho'; cases ho'; exact hd' vs z
    obtain ⟨sl2, e2⟩ := hsl b { o with slots := sl } nd e1
    exact ⟨sl2, e2⟩
  · by_cases hb : b ∈ frs (envOfC qual scope s₀.heap.objs.size f cd :: outer)
    · obtain ⟨_, o', ho', hd'⟩ := I.stack.mem hb
      obtain ⟨sl, e2⟩ := hsl b o' hd' ho'
      exact ⟨_, e2⟩
    · obtain ⟨o', e1⟩ := there b o e
      exact ⟨o', hk b o' (.inr ⟨o, e⟩) hb e1⟩
  · refine (I.hok a o e).stay (fun b u hb q => ?_) (fun _ q => q) fun _ _ q => q
    rcases hb with rfl | hb
    · exact tk _ _ _ e q
    · exact tk _ _ _ hb q
end
section
variable {X : Cx} {E : XK}
theorem Lets.passes (h : Lets X E) (hex : X.ex = []) : Passes (CX1 X.prog X.w) X E := by
  intro pins σ H s e s' I hx
  obtain ⟨ea, C, dx, H', rfl, os, bare, un, hok, F, q⟩ := hx
  obtain ⟨hh, g, d, t, os'⟩ := s'
  obtain rfl : os' = s.os := os
  exact h pins σ H' _ ea C dx (I.call (h' := hh) (g' := g) (d' := d) (t' := t) (ch := []) un hok bare (fun b z => absurd z (by simp))) (F.older fun b u q => I.base.there b u q (by rw [hex]; simp)) q
end
end L2
set_option Elab.async false
set_option linter.all false
set_option maxRecDepth 100000
set_option maxHeartbeats 4100000
namespace L2
open PySem PySem.Spec PyProof.Rows
abbrev vErr : List Value := [.type "ValueError", .type "Exception", .type "BaseException", .type "object"]
abbrev IsX (K : PySem.W.Frag) (C : Addr) : Prop := PySem.W.excIn K C vErr "ValueError.__new__" = true
theorem cls_obj {K : PySem.W.Frag} {h : Heap} {C : Addr} (X : K.In h) (q : IsX K C) :
    ∃ tl N nm qn bs hd sn sub ab col dd k0 k1 k2 k3 k5 mN, h.get? C = some (excClassObj nm qn C N bs tl hd sn sub ab col dd k0 k1 k2 k3 k5 "ValueError.__new__") ∧ h.Ns N mN ∧ mN "__init__" = none ∧ OwnTail h vErr tl := by
  unfold IsX PySem.W.excIn at q
  split at q
  case h_1 dd cd sl ho =>
    split at q
    case h_1 C2 tl k0 k1 k2 k3 n k5 hm hs =>
      rw [Bool.and_eq_true, Bool.and_eq_true, Bool.and_eq_true, Bool.and_eq_true, Bool.and_eq_true] at q
      obtain ⟨⟨⟨⟨⟨q1, q2⟩, q3⟩, q4⟩, q5⟩, q6⟩ := q
      have e1 : C2 = C := beq_iff_eq.mp q1
      have e2 : n = "ValueError.__new__" := beq_iff_eq.mp q2
      subst e1 e2
      cases cd with
      | mk nm bs mro ns qn hd sn sub ab col del =>
        have e3 : mro = .ref C2 :: tl := hm
        have e4 : del = false := by cases del with
          | false => rfl
          | true => cases q3
        subst e3 e4
        have e5 : sl = #[k0, k1, k2, k3, some (.builtin "ValueError.__new__"), k5] := by
          cases sl with
          | mk l => exact congrArg Array.mk hs
        subst e5
        exact ⟨tl, ns, nm, qn, bs, hd, sn, sub, ab, col, dd, k0, k1, k2, k3, k5, h.nsMap ns, X _ _ ho, .of_isNs (PySem.W.isNs_of_in X q5), PySem.W.nsMap_none_of_in X q5 (beq_iff_eq.mp q6), PySem.W.tail_of_in X q4⟩
    case h_2 => cases q
  case h_2 => cases q
section
variable {X : Cx} {E : XK} {x : Str} {C : Addr} {e : Expr} {es : List Expr} {t : TA} {np cpos pos : Pos}
def tRaise (C : Addr) (E : XK) (t : TA) : TS := fun _ σ H => t σ H fun vs H1 => vs.length ≤ sizeLine ∧ E (.ref C) none H1
theorem ps_raise (hl : Lets X E) (hex : X.ex = []) (hc : X.calm = true) (hg : Gl X x) (hm : X.mg x = some (.ref C)) (hC : IsX X.K C) (ha : PA X (e :: es) t)
    (hdb : (x == ("__debug__" : Str)) = false := by decide) (he : starEach (e :: es) X.env = (false, eval e X.env) :: starEach es X.env := by rfl)
    (hpl : (backTo cpos (starEach es X.env)).any (·.1) = false := by rfl) :
    PS X (.Raise (some (.Call (.Name x np) (e :: es) [] cpos)) none pos) (tRaise C E t) := by
  intro pins s σ H D I h
  obtain ⟨tl, N, nm, qn, bs, hd, sn, sub, ab, col, dd, k0, k1, k2, k3, k5, mN, hCo, hN, hni, T⟩ := cls_obj I.ok.mod.kin hC
  refine wpAny_Raise_call_subT (C := C) (nm := nm) (q := qn) (N := N) (bs := bs) (bm := tl) (hdct := hd) (sn := sn) (sub := sub) (ab := ab) (col := col) (dd := dd) (k0 := k0) (k1 := k1) (k2 := k2) (k3 := k3) (k5 := k5)
    F.excBase_ValueError (mN := mN) (T.hasType F.excBase_ValueError.hasBase) (I.ok.hd hc) ?_ hni (ld_glob I hg hm ⟨rfl, ?_⟩ hdb)
  · rw [he]
    show (false || (backTo cpos (starEach es X.env)).any (·.1)) = false
    rw [hpl]; rfl
  · have ha' := ha cpos pins s σ H _ I h
    rw [he] at ha' ⊢
    refine Calls.evalArgs_plain (wpAny_mono ha' (fun us s2 ⟨vs, H1, I1, r1, hz, q1⟩ => ⟨rfl, by show us.length ≤ sizeLine; rw [← r1.length]; exact hz, I1.bk _ _ hCo, hN.keeps I1.bk, T.keeps I1.bk, fun h' ea hx => ?_⟩) fun _ _ z => z)
    obtain ⟨tt, ht, _, _⟩ := hx.there
    refine hl pins σ H1 _ ea C none (I1.kept (h' := h') (t' := s2.toks) hx.keeps) ⟨?_, ?_, _, _, ht, rfl, rfl, rfl, (by show 1 < 6; decide), .inl rfl⟩ q1
    · cases q : X.s₀.heap.get? ea with
      | none => rfl
      | some u => obtain ⟨v, hv⟩ := I1.base.there ea u q (by rw [hex]; simp); rw [hx.new] at hv; cases hv
    · cases q : H1 ea with
      | none => rfl
      | some u => obtain ⟨v, hv⟩ := (I1.hok ea u q).ex; rw [hx.new] at hv; cases hv
def tFmt (t : TE) : TE := fun σ H Q => t σ H fun v H1 => ∃ x, v = .str x ∧ x.length ≤ 1000 ∧ Q (.str x) H1
theorem pe_fmt {v : Expr} {tv : TE} (hv : PE X v tv) : PE X (.FormattedValue v (-1) none pos) (tFmt tv) := by
  intro pins s σ H Q I h
  refine wpAny_FormattedValue_plain (thn (hv pins s σ H _ I h) fun u s1 ⟨y, H1, I1, r1, z, hz, hl, q⟩ => ?_)
  subst hz
  obtain ⟨tk, rfl⟩ := r1
  exact wpAny_formatField_str ⟨.str z, H1, I1, ⟨_, rfl⟩, q⟩ ⟨.str z, H1, I1.tok _, ⟨_, rfl⟩, q⟩ (Nat.le_trans hl (by decide))
def tJoin : List TE → Str → TE
  | [], acc => fun _ H Q => Q (.str acc) H
  | t :: ts, acc => fun σ H Q => t σ H fun v H1 => ∃ x, v = .str x ∧ (acc ++ x).length ≤ sizeLine ∧ tJoin ts (acc ++ x) σ H1 Q
inductive PEs (X : Cx) : List Expr → List TE → Prop where
  | nil : PEs X [] []
  | cons {e : Expr} {t : TE} {es : List Expr} {ts : List TE} : PE X e t → PEs X es ts → PEs X (e :: es) (t :: ts)
theorem joins_ok {pins : List (Addr × Obj)} {σ : St} {Q : VK} : ∀ {es : List Expr} {ts : List TE} (hp : PEs X es ts) (acc : Str) (s : Shared) (H : Hp), acc.length ≤ sizeLine → Inv X pins σ H s → tJoin ts acc σ H Q →
    Joins (model X.prog X.w) X.A X.xe (evalEach es X.env) acc (fun out s₁ => out.length ≤ sizeLine ∧ EP X pins σ Q (.str out s₁.toks) { s₁ with toks := s₁.toks + 1 }) s
  | _, _, .nil, acc, s, H, hz, I, h => by
    unfold evalEach
    exact ⟨hz, .str acc, H, I.tok _, ⟨_, rfl⟩, h⟩
  | _, _, .cons (e := e) (es := es) hp hr, acc, s, H, hz, I, h => by
    unfold evalEach
    refine thn (hp pins s σ H _ I h) fun u s1 ⟨y, H1, I1, r1, x, hx, hl, q⟩ => ?_
    subst hx
    obtain ⟨tk, rfl⟩ := r1
    exact ⟨x, tk, rfl, hl, joins_ok hr (acc ++ x) s1 H1 hl I1 q⟩
theorem pe_joined {v1 v2 : Expr} {vs : List Expr} {ts : List TE} (hp : PEs X (v1 :: v2 :: vs) ts) : PE X (.JoinedStr (v1 :: v2 :: vs) pos) (tJoin ts Str.empty) := by
  intro pins s σ H Q I h
  exact wpAny_JoinedStr (joins_ok hp Str.empty s H (by decide) I h)
end
end L2
set_option Elab.async false
set_option linter.all false
set_option maxRecDepth 100000
set_option maxHeartbeats 4100000
namespace L2
open PySem PySem.Spec PyProof.Rows
def excO (ea C : Addr) (dx : Option Addr) : HO := .ext fun h => ∃ ox, h.get? ea = some ox ∧ ox.cls = .ref C ∧ PySem.W.notCls ox = true ∧ ox.dict = dx
section
variable {P : Program} {w : World} {M : Model} {A : Around} {E : Value → Shared → Prop} {s s' : Shared} {H H' : Hp} {l : List Env} {ea C : Addr} {dx : Option Addr}
theorem note_un {base : Heap} {env : Env} {outer : List Env} {L : Addr} {Q : Unit → Shared → Prop} (hfr : A.frames = some (env :: outer)) (hl : s'.heap.FunFrames base (env :: outer)) (hf : env.frame = some L)
    (hH : ∀ b ∈ frs (env :: outer), H' b = none) (un : Un (frs (env :: outer)) [] H H' s.heap s'.heap) (hok : HOk P w H' s'.heap) (F : Fly s.heap H' s'.heap ea C dx)
    (h : ∀ h', Un (frs (env :: outer)) [] H H' s.heap h' → HOk P w H' h' → Fly s.heap H' h' ea C dx → Q () { s' with heap := h' }) :
    wpAny M A (noteFrame (.ref ea) env) (fun _ s₂ => wpAny M A (setFlight (.ref ea) none) Q E s₂) E s' := by
  have there : ∀ b u, s.heap.get? b = some u → ∃ v, s'.heap.get? b = some v := fun b u e => un.there b u e (by simp)
  refine note_x hfr hl hf F there (fun b o e => (hok b o e).ex) fun h' hk hsl F' => ?_
  have nofr : ∀ b o, H' b = some o → b ∉ frs (env :: outer) := fun b o e z => by rw [hH b z] at e; cases e
  have tk : ∀ b o u, H' b = some o → s'.heap.get? b = some u → h'.get? b = some u := fun b o u e q => hk b u (.inl (by rw [e]; simp)) (nofr b o e) q
  refine h h' ⟨fun b o e n hb hx => hk b o (.inr ⟨o, e⟩) hb (un.keep b o e n hb hx), fun b o e n hb hx => ?_, un.free, fun b o e hx => ?_, un.tups, un.frzs, un.tbls⟩ (fun a o e => ?_) F'
  · obtain ⟨sl, e1⟩ := un.slot b o e n hb hx
    have nd : ∀ vs, o.data ≠ .fields vs := fun vs z => by
      obtain ⟨_, o', ho', hd'⟩ := hl.mem hb
      rw [e1] at ho'; cases ho'; exact hd' vs z
    obtain ⟨sl2, e2⟩ := hsl b { o with slots := sl } nd e1
    exact ⟨sl2, e2⟩
  · by_cases hb : b ∈ frs (env :: outer)
    · obtain ⟨_, o', ho', hd'⟩ := hl.mem hb
      obtain ⟨sl, e2⟩ := hsl b o' hd' ho'
      exact ⟨_, e2⟩
    · obtain ⟨o', e1⟩ := there b o e
      exact ⟨o', hk b o' (.inr ⟨o, e⟩) hb e1⟩
  · refine (hok a o e).stay (fun b u hb q => ?_) (fun _ q => q) fun _ _ q => q
    rcases hb with rfl | hb
    · exact tk _ _ _ e q
    · exact tk _ _ _ hb q
theorem flight_un {Q : Unit → Shared → Prop} {fs : List Addr} (un : Un fs [] H H' s.heap s'.heap) (hok : HOk P w H' s'.heap) (F : Fly s.heap H' s'.heap ea C dx) (hT : ∀ b ∈ fs, ∀ o vs, s'.heap.get? b = some o → o.data ≠ .fields vs)
    (h : ∀ h', Un fs [] H H' s.heap h' → HOk P w H' h' → Fly s.heap H' h' ea C dx → Q () { s' with heap := h' }) :
    wpAny M A (setFlight (.ref ea) none) Q E s' := by
  obtain ⟨hnew, hfree, oe, vs, he, hc, hdx, hd, hsz, ht⟩ := id F
  unfold setFlight
  rcases ht with h1 | ⟨T, oT, ts, h1, hTe, hnT, hfT, hTo, hdT, h3⟩
  · refine wpAny_bind (wpAny_field he hd h1 ?_)
    rw [if_neg (by decide)]
    obtain ⟨hh, g, d, t, os⟩ := s'
    exact wpAny_pure (h hh un hok F)
  · refine wpAny_bind (wpAny_field he hd h1 ?_)
    rw [if_pos (by simp)]
    have hlt := (Array.getElem?_eq_some_iff.mp h3).1
    have other : ∀ b, b ≠ T → (s'.heap.update T (Obj.mapFields (·.setIfInBounds 3 ((none : Option Addr).elim Value.none fun f => rawInt f)))).get? b = s'.heap.get? b := fun b z => Heap.get?_update_other _ _ (Ne.symm z)
    have self := Heap.get?_update_self (Obj.mapFields (·.setIfInBounds 3 ((none : Option Addr).elim Value.none fun f => rawInt f))) hTo (Obj.isFreed_of_fields (Obj.data_mapFields hdT _))
    have old : ∀ b o, s.heap.get? b = some o → b ≠ T := fun b o e z => by rw [z, hnT] at e; cases e
    refine wpAny_setField hTo hdT hlt (h _ ⟨fun b o e n hb hx => (other b (old b o e)).trans (un.keep b o e n hb hx), fun b o e n hb hx => ?_, un.free, fun b o e hx => ?_, un.tups, un.frzs, un.tbls⟩ (fun a o e => ?_)
      ⟨hnew, hfree, oe, vs, (other ea (Ne.symm hTe)).trans he, hc, hdx, hd, hsz, .inr ⟨T, _, _, h1, hTe, hnT, hfT, self, Obj.data_mapFields hdT _, by simp [hlt]⟩⟩)
    · obtain ⟨sl, e1⟩ := un.slot b o e n hb hx
      exact ⟨sl, (other b (old b o e)).trans e1⟩
    · obtain ⟨o', e1⟩ := un.there b o e hx
      exact ⟨o', (other b (old b o e)).trans e1⟩
    · refine (hok a o e).stay (fun b u hb q => ?_) (fun _ q => q) fun _ _ q => q
      refine (other b ?_).trans q
      rintro rfl
      rcases hb with rfl | hb
      · rw [hfT] at e; cases e
      · rw [hfT] at hb; cases hb
theorem Fly.track {fs : List Addr} {old h : Heap} (F : Fly old H' h ea C dx) (un : Un fs [] H H' old h) (hok : HOk P w H' h) : Un fs [] H (upd H' ea (excO ea C dx)) old h ∧ HOk P w (upd H' ea (excO ea C dx)) h := by
  obtain ⟨hnew, hfree, oe, vs, he, hc, hdx, hd, hsz, ht⟩ := F
  have ne : ∀ b o, H' b = some o → b ≠ ea := fun b o e z => by rw [z, hfree] at e; cases e
  refine ⟨⟨un.keep, un.slot, fun b o e n hx => ?_, un.there, fun b xs e => ?_, fun b o u e => ?_, fun b ps e => ?_⟩, fun a o e => ?_⟩
  · rw [upd_ne (fun z => by rw [z, hnew] at e; cases e)]; exact un.free b o e n hx
  · rw [upd_ne (ne b _ (un.tups b xs e))]; exact un.tups b xs e
  · rw [upd_ne (ne b _ (un.frzs b o u e))]; exact un.frzs b o u e
  · obtain ⟨more, q⟩ := un.tbls b ps e
    exact ⟨more, by rw [upd_ne (ne b _ q)]; exact q⟩
  · by_cases z : a = ea
    · subst z
      rw [upd_same] at e
      cases e
      refine ⟨⟨oe, he, hc, ?_, hdx⟩, ⟨oe, he⟩, fun h1 h2 ⟨ox, q1, q2⟩ k => ⟨ox, k ox q1, q2⟩⟩
      unfold PySem.W.notCls; rw [hd]
    · rw [upd_ne z] at e
      exact (hok a o e).stay (fun b u _ q => q) (fun b q => by rw [upd_ne (ne b _ q)]; exact q) fun b xs q => by rw [upd_ne (ne b _ q)]; exact q
end
abbrev Cx.sui (X : Cx) (A' : Around) : Cx := { X with A := A', calm := false, xe := fun _ _ => False }
section
variable {X : Cx} {pins : List (Addr × Obj)} {σ : St} {H : Hp} {s : Shared}
theorem Inv.sui {A' : Around} (I : Inv X pins σ H s) (hA : A'.frames = some X.stack) : Inv (X.sui A') pins σ H s :=
  ⟨⟨I.ok.mod, I.ok.kind, I.ok.glob, I.ok.blt, I.ok.above, I.ok.inj, I.ok.has, I.ok.cab, fun z => absurd z (by simp), hA, I.ok.stk, I.ok.exf, I.ok.bs, I.ok.bsz, I.ok.noex, I.ok.exfs, I.ok.funs, I.ok.frf⟩,
    I.os, I.bare, I.base, I.loc, I.cell, I.free, I.freeC, I.pin, I.hok, I.len⟩
theorem Inv.unsui {A' : Around} (I : Inv (X.sui A') pins σ H s) (ok : X.Ok) : Inv X pins σ H s :=
  ⟨ok, I.os, I.bare, I.base, I.loc, I.cell, I.free, I.freeC, I.pin, I.hok, I.len⟩
theorem name_goes {M : Model} {A : Around} {E : Value → Shared → Prop} {i : Nat} {x : Str} {pos : Pos} {Q : Unit → Shared → Prop} (I : Inv X pins σ H s) (hN : X.N.Nodup) (hi : X.N[i]? = some x) (hx : X.env.kindOf x = some .local)
    (h : ∀ s', Inv X pins (σ.set i none) H s' → Q () s') : wpAny M A (do bindName X.env x .none; unbindBehindTheSuite X.env x pos) Q E s := by
  obtain ⟨m, hn, hl⟩ := id I.loc
  have hcls : (X.env.scope.kind == .class || (X.env.scope.kind == .module && X.env.locals != X.env.globals)) = false := by rw [I.ok.kind]; rfl
  refine wpAny_nameGoes_keeps hx hn hcls fun h' v hn' hs => h _ ?_
  have oth : ∀ b, b ≠ X.env.locals → h'.get? b = s.heap.get? b := fun b z => hs.2 b z
  have nel : ∀ b o, X.s₀.heap.get? b = some o → b ≠ X.env.locals := fun b o e => Nat.ne_of_lt (Nat.lt_of_lt_of_le (Heap.lt_size e) I.ok.above)
  have tk : ∀ b o, H b = some o → b ≠ X.env.locals := fun b o e z => by rw [z, I.free] at e; cases e
  have B := I.base
  refine ⟨I.ok, I.os, I.bare, ⟨fun b o e n hb hx => (oth b (nel b o e)).trans (B.keep b o e n hb hx), fun b o e n hb hx => ?_, B.free, fun b o e hx => ?_, B.tups, B.frzs, B.tbls⟩, ⟨_, hn', fun j y u hj hσ hv => ?_⟩, fun y c e => ?_, I.free, I.freeC, fun p hp => ?_, fun a o e => ?_, ?_⟩
  · obtain ⟨sl, e1⟩ := B.slot b o e n hb hx
    exact ⟨sl, (oth b (nel b o e)).trans e1⟩
  · obtain ⟨o', e1⟩ := B.there b o e hx
    exact ⟨o', (oth b (nel b o e)).trans e1⟩
  · by_cases hji : j = i
    · subst hji
      rw [List.getElem?_set_self' ] at hσ
      cases q : σ[j]? with
      | none => rw [q] at hσ; cases hσ
      | some z => rw [q] at hσ; cases hσ
    · rw [List.getElem?_set_ne (Ne.symm hji)] at hσ
      obtain ⟨u', ru, lk⟩ := hl j y u hj hσ hv
      have hyx : y ≠ x := fun z => hji (nodup_ix hN hj (z ▸ hi))
      refine ⟨u', ru, ?_⟩
      rcases lk with ⟨k1, k2⟩ | ⟨k1, c, k2, k3⟩
      · exact .inl ⟨k1, by show (if y = x then v else m y) = some u'; rw [if_neg hyx]; exact k2⟩
      · refine .inr ⟨k1, c, k2, k3.sameBut hs ?_⟩
        exact I.cne y c k2
  · obtain ⟨v', hv'⟩ := I.cell y c e
    exact ⟨v', hv'.sameBut hs (I.cne y c e)⟩
  · obtain ⟨e, n, ne, nf, d⟩ := I.pin p hp
    exact ⟨(oth p.1 ne).trans e, n, ne, nf, d⟩
  · refine (I.hok a o e).stay (fun b u hb q => ?_) (fun _ q => q) fun _ _ q => q
    refine (oth b ?_).trans q
    rcases hb with rfl | hb
    · exact tk _ _ e
    · exact tk _ _ hb
  · rw [List.length_set]; exact I.len
end
end L2
set_option Elab.async false
set_option linter.all false
set_option maxRecDepth 100000
set_option maxHeartbeats 4100000
namespace L2
open PySem PySem.Spec PyProof.Rows
def PassesS (CX : CXT) (X : Cx) (σ : St) (E : XK) : Prop := ∀ (pins : List (Addr × Obj)) (H : Hp) (s : Shared) (e : Value) (s' : Shared), Inv X pins σ H s → CX X.stack H s E e s' → X.xe e s'
section
variable {X : Cx} {CX : CXT} {k : Nat} {f C : Addr} {fd : FuncData} {ps : List Str} {sp : Sp} {dvs : List V} {ds : List Value} {E : St → XK} {x m : Str} {p pos apos : Pos} {e o : Expr} {es : List Expr} {ta : TE} {t : TA}
def tCallS (sp : Sp) (dvs : List V) (E : St → XK) (t : TA) : TE := fun σ H Q => t σ H fun vs H1 => sp (vs ++ dvs) H1 Q (E σ)
theorem run_fnS {pins : List (Addr × Obj)} {σ : St} {H : Hp} {s : Shared} {Q : VK} {us : List Value} {vs : List V} (F : FnOk X.prog X.w X.K X.mg X.base CX k f fd ps sp) (hr : Room k X.A) (hb : Binds X.K fd ps ds) (hd : Vals dvs ds) (hx : ∀ σ, PassesS CX X σ (E σ))
    (I : Inv X pins σ H s) (r : Vals vs us) (h : sp (vs ++ dvs) H Q (E σ)) : wpAny (model X.prog X.w) X.A (call (.ref f) us) (EP X pins σ Q) X.xe s := by
  have r2 : Vals (vs ++ dvs) (us ++ ds) := r.append hd
  have hl : (us ++ ds).length = ps.length := by rw [← r2.length]; exact F.len _ _ _ _ h
  refine wpAny_call (codeAny_mono (F.run X.A X.stack s H ⟨us, []⟩ (us ++ ds) (vs ++ dvs) Q (E σ) hr I.env0 (hb s us I.kIn hl) r2 h) fun r s' hq => ?_)
  cases r with
  | error e => exact hx σ pins H s e s' I hq
  | ok fl =>
    cases fl with
    | ret u => exact I.after hq
    | next => exact False.elim hq
    | brk => exact False.elim hq
    | cont => exact False.elim hq
theorem pe_callS (F : FnOk X.prog X.w X.K X.mg X.base CX k f fd ps sp) (hr : Room k X.A) (hg : Gl X x) (hm : X.mg x = some (.ref f)) (hk : PySem.W.keepIn X.K (.ref f) = true) (hb : Binds X.K fd ps ds) (hd : Vals dvs ds) (hx : ∀ σ, PassesS CX X σ (E σ))
    (ha : PA X (e :: es) t) (hdb : (x == ("__debug__" : Str)) = false := by decide) (he : starEach (e :: es) X.env = (false, eval e X.env) :: starEach es X.env := by rfl) (hpl : (backTo pos (starEach es X.env)).any (·.1) = false := by rfl) :
    PE X (.Call (.Name x p) (e :: es) [] pos) (tCallS sp dvs E t) := by
  intro pins s σ H Q I h
  refine wpAny_Call_Name_kw (ld_glob I hg hm ?_ hdb)
  refine PySem.W.callWith_K (h₀ := X.base) I.ok.mod.kin hk (thn (ha pos pins s σ H _ I h) fun us s1 ⟨vs, H1, I1, r, q⟩ => ⟨I1.kIn, ?_⟩) he hpl
  exact run_fnS F hr hb hd hx I1 r q
end
structure HandC (K : PySem.W.Frag) (N : Addr) : Prop where
  cls : (PySem.W.clsIn K N).isSome = true
  ty : PySem.W.typeIn K (.ref N) = some (.type "type")
  base : PySem.W.mroIn K N (.type "BaseException") = some true
def tTry (K : PySem.W.Frag) (Nc : Addr) (i : Nat) (tb : (St → XK) → TS) (ts : TS) : TS := fun D σ H =>
  tb (fun σ' cls dx H' => ∃ C, cls = .ref C ∧ PySem.W.subIn K (.ref C) (.ref Nc) = some true ∧ (∀ d, dx = some d → ∃ o, H' d = some o) ∧
    ∀ ea, H' ea = none → ts { nx := fun σ H => D.nx (σ.set i none) H, rt := D.rt, bk := fun σ H => D.bk (σ.set i none) H, ct := fun σ H => D.ct (σ.set i none) H } (σ'.set i (some (.ref ea))) (upd H' ea (excO ea C dx))) D σ H
section
variable {X : Cx} {i : Nat} {x n : Str} {Nc : Addr} {body suite : List Stmt} {b₀ : Stmt} {np hpos pos : Pos} {tb : (St → XK) → TS} {ts : TS}
theorem mark_frames {A : Around} {v : Option Value} {l : List Env} (h : A.frames = some l) : (A.mark v).frames = some l := h
abbrev Cx.tried (X : Cx) (pn : List (Addr × Obj)) (W : Value → Shared → Prop) : Cx := { X with pn := pn, xe := W }
theorem Inv.tried {pins : List (Addr × Obj)} {σ : St} {H : Hp} {s : Shared} {W : Value → Shared → Prop} (I : Inv X pins σ H s) : Inv (X.tried (X.pn ++ pins) W) [] σ H s :=
  ⟨⟨I.ok.mod, I.ok.kind, I.ok.glob, I.ok.blt, I.ok.above, I.ok.inj, I.ok.has, I.ok.cab, I.ok.hd, I.ok.frames, I.ok.stk, I.ok.exf, I.ok.bs, I.ok.bsz, I.ok.noex, I.ok.exfs, I.ok.funs, I.ok.frf⟩,
    I.os, I.bare, I.base, I.loc, I.cell, I.free, I.freeC, fun p hp => I.pin p (by rw [List.append_nil] at hp; exact hp), I.hok, I.len⟩
theorem Inv.untried {pins pins' : List (Addr × Obj)} {σ : St} {H : Hp} {s : Shared} {W : Value → Shared → Prop} (I : Inv (X.tried (X.pn ++ pins) W) pins' σ H s) (ok : X.Ok) : Inv X pins σ H s :=
  ⟨ok, I.os, I.bare, I.base, I.loc, I.cell, I.free, I.freeC, fun p hp => I.pin p (List.mem_append_left _ hp), I.hok, I.len⟩
theorem ps_try (hst : X.stack = X.env :: X.outer) (hfr : X.env.frame = some X.env.locals) (hN : X.N.Nodup) (hi : X.N[i]? = some n) (hk : X.env.kindOf n = some .local) (hg : Gl X x) (hm : X.mg x = some (.ref Nc)) (hC : HandC X.K Nc)
    (hb : ∀ (EX : St → XK) (pn : List (Addr × Obj)) (W : Value → Shared → Prop), (∀ σ, PassesS (CX1 X.prog X.w) (X.tried pn W) σ (EX σ)) → PSs (X.tried pn W) body (tb EX)) (hs : ∀ A', PSs (X.sui A') (b₀ :: suite) ts)
    (hdb : (x == ("__debug__" : Str)) = false := by decide) :
    PS X (.Try body [.ExceptHandler (some (.Name x np)) (some n) (b₀ :: suite) hpos] [] [] pos) (tTry X.K Nc i tb ts) := by
  intro pins s σ H D I h
  refine wpAny_Try_except ?_
  let EX : St → XK := fun σ' cls dx H' => ∃ C, cls = .ref C ∧ PySem.W.subIn X.K (.ref C) (.ref Nc) = some true ∧ (∀ d, dx = some d → ∃ o, H' d = some o) ∧
    ∀ ea, H' ea = none → ts { nx := fun σ H => D.nx (σ.set i none) H, rt := D.rt, bk := fun σ H => D.bk (σ.set i none) H, ct := fun σ H => D.ct (σ.set i none) H } (σ'.set i (some (.ref ea))) (upd H' ea (excO ea C dx))
  let W : Value → Shared → Prop := fun e s' => ∃ σ' H1 s1, Inv X pins σ' H1 s1 ∧ CX1 X.prog X.w X.stack H1 s1 (EX σ') e s'
  have hp : ∀ σ, PassesS (CX1 X.prog X.w) (X.tried (X.pn ++ pins) W) σ (EX σ) := fun σ' pins' H1 s1 e s' I1 hx => ⟨σ', H1, s1, I1.untried I.ok, hx⟩
  refine wpAny_mono (hb EX (X.pn ++ pins) W hp [] s σ H D I.tried h) (fun fl s1 q => ?_) fun e s1 q => ?_
  · cases fl with
    | next =>
      obtain ⟨σ', H', I', q⟩ := q
      exact wpAny_execs_nil ⟨σ', H', I'.untried I.ok, q⟩
    | brk => obtain ⟨σ', H', I', q⟩ := q; exact ⟨σ', H', I'.untried I.ok, q⟩
    | cont => obtain ⟨σ', H', I', q⟩ := q; exact ⟨σ', H', I'.untried I.ok, q⟩
    | ret u => obtain ⟨v, σ', H', I', q⟩ := q; exact ⟨v, σ', H', I'.untried I.ok, q⟩
  · obtain ⟨σ', H1, s0, I0, ea, C, dx, H', rfl, os, bare, un, hok, F, C', hC', hsub, hdx, q⟩ := q
    cases hC'
    have frm : X.A.frames = some (X.env :: X.outer) := hst ▸ I.ok.frames
    have hJ : ∀ h' t', Un (frs X.stack) [] H1 H' s0.heap h' → HOk X.prog X.w H' h' → Inv X pins σ' H' { s1 with heap := h', toks := t' } := fun h' t' u k =>
      I0.call' (s' := { s1 with heap := h', toks := t' }) os u k bare (fun b z => absurd z (by simp))
    have J1 := hJ s1.heap s1.toks un hok
    have un' : Un (frs (X.env :: X.outer)) [] H1 H' s0.heap s1.heap := hst ▸ un
    refine note_un (P := X.prog) (w := X.w) (base := X.base) (s := s0) frm (hst ▸ J1.stack) hfr (hst ▸ J1.stkFree) un' hok F fun h2 un2 hok2 F2 => ?_
    have un2' : Un (frs X.stack) [] H1 H' s0.heap h2 := hst ▸ un2
    have J2 := hJ h2 s1.toks un2' hok2
    obtain ⟨ut, kt⟩ := F2.track un2' hok2
    have inst : ∀ h3, HOk X.prog X.w (upd H' ea (excO ea C dx)) h3 → ∃ ox odo, PySem.W.InstAt h3 ea ox C odo := fun h3 k3 => by
      obtain ⟨⟨ox, e1, e2, e3, e4⟩, _⟩ := (show ObjOk X.prog X.w _ h3 ea (excO ea C dx) from k3 ea _ upd_same)
      cases hd : dx with
      | none => exact ⟨ox, none, e1, e2, e3, by rw [e4, hd]; trivial⟩
      | some d =>
        obtain ⟨o, ho⟩ := hdx d hd
        have hde : upd H' ea (excO ea C dx) d = some o := by
          rw [upd_ne (fun z => by rw [z, F2.free] at ho; cases ho)]; exact ho
        obtain ⟨u, hu⟩ := (k3 d o hde).ex
        exact ⟨ox, some u, e1, e2, e3, by rw [e4, hd]; exact hu⟩
    have JS : Inv (X.sui (X.A.mark (some (.ref ea)))) pins σ' H' { s1 with heap := h2 } := J2.sui (mark_frames I.ok.frames)
    refine wpAny_handleBy_cons (codeAny_handlers_test (ld_glob JS hg hm ?_ hdb)) (by intro z; cases z)
    obtain ⟨ox, odo, IA⟩ := inst h2 kt
    refine PySem.W.exc_matches (s := { s1 with heap := h2 }) JS.kIn IA hC.cls hC.ty hC.base hsub ?_
    refine codeAny_handlers_suite_as (flight_un (P := X.prog) (w := X.w) (s := s0) un2' hok2 F2 (fun b hb o vs ho => ?_) fun h4 un4 hok4 F4 => ?_)
    · obtain ⟨_, o', ho', hd'⟩ := J2.stack.mem hb
      have ho2 : h2.get? b = some o := ho
      have ho2' : h2.get? b = some o' := ho'
      rw [ho2] at ho2'; cases ho2'; exact hd' vs
    · obtain ⟨ut4, kt4⟩ := F4.track un4 hok4
      have J4 : Inv X pins σ' (upd H' ea (excO ea C dx)) { s1 with heap := h4 } := I0.call' (s' := { s1 with heap := h4 }) os ut4 kt4 bare (fun b z => absurd z (by simp))
      refine store_ok (v := .ref ea) J4 hN hi (.inl hk) rfl (fun s5 J5 => ?_) (.inr hk)
      have JS5 : Inv (X.sui (X.A.mark (some (.ref ea)))) pins (σ'.set i (some (.ref ea))) (upd H' ea (excO ea C dx)) s5 := J5.sui (mark_frames I.ok.frames)
      refine wpAny_mono (hs _ pins s5 _ _ _ JS5 (q ea F4.free)) (fun fl s6 z => ?_) fun _ _ z => z.elim
      cases fl with
      | next =>
        obtain ⟨σ6, H6, I6, z⟩ := z
        exact name_goes (I6.unsui I.ok) hN hi hk fun s7 I7 => ⟨_, H6, I7, z⟩
      | brk =>
        obtain ⟨σ6, H6, I6, z⟩ := z
        exact name_goes (I6.unsui I.ok) hN hi hk fun s7 I7 => ⟨_, H6, I7, z⟩
      | cont =>
        obtain ⟨σ6, H6, I6, z⟩ := z
        exact name_goes (I6.unsui I.ok) hN hi hk fun s7 I7 => ⟨_, H6, I7, z⟩
      | ret u =>
        obtain ⟨v, σ6, H6, I6, rv, z⟩ := z
        exact name_goes (I6.unsui I.ok) hN hi hk fun s7 I7 => ⟨v, _, H6, I7, rv, z⟩
end
end L2
set_option Elab.async false
set_option linter.all false
set_option maxRecDepth 100000
set_option maxHeartbeats 4100000
namespace L2
open PySem PySem.Spec PyProof.Rows
section
variable {X : Cx}
structure Caught (H : Hp) (ea C : Addr) (dx : Option Addr) : Prop where
  at_ : H ea = some (excO ea C dx)
  dict : ∀ d, dx = some d → ∃ o, H d = some o
theorem Inv.inst {pins : List (Addr × Obj)} {σ : St} {H : Hp} {s : Shared} {ea C : Addr} {dx : Option Addr} (I : Inv X pins σ H s) (c : Caught H ea C dx) : ∃ ox odo, PySem.W.InstAt s.heap ea ox C odo := by
  obtain ⟨⟨ox, e1, e2, e3, e4⟩, _⟩ := (show ObjOk X.prog X.w H s.heap ea (excO ea C dx) from I.hok ea _ c.at_)
  cases hd : dx with
  | none => exact ⟨ox, none, e1, e2, e3, by rw [e4, hd]; trivial⟩
  | some d =>
    obtain ⟨o, ho⟩ := c.dict d hd
    obtain ⟨u, hu⟩ := (I.hok d o ho).ex
    exact ⟨ox, some u, e1, e2, e3, by rw [e4, hd]; exact hu⟩
theorem vals_refs : ∀ {Cs : List Addr} {us : List Value}, Vals (Cs.map V.ref) us → us = Cs.map Value.ref
  | [], _, r => by cases r; rfl
  | _ :: _, _, r => by
    cases r with
    | cons h t =>
      have e : _ = Value.ref _ := h
      rw [e, vals_refs t]; rfl
def rIsiX (K : PySem.W.Frag) : List V → Hp → VK → Prop := fun xs H Q => ∃ (ea C : Addr) (dx : Option Addr) (c : V) (b : Bool), xs = [.ref ea, c] ∧ Caught H ea C dx ∧ PySem.W.ExcC K C ∧
  ((∃ (tp : Addr) (Cs : List Addr), c = .ref tp ∧ H tp = some (.tup (Cs.map V.ref)) ∧ PySem.W.kitAny K (.ref C) (Cs.map Value.ref) = some b) ∨ (∃ N, c = .ref N ∧ PySem.W.kitOne K (.ref C) (.ref N) = some b) ∨ (∃ T, c = .ty T ∧ PySem.W.kitOne K (.ref C) (.type T) = some b)) ∧ Q (.bl b) H
theorem call_isiX : CallR X (.builtin "isinstance") (rIsiX X.K) := by
  intro pins s σ H xs us Q I r h
  obtain ⟨ea, C, dx, c, b, rfl, hc, hC, hk, q⟩ := h
  obtain ⟨u, w', rfl, ru, rw'⟩ := vals2 r
  cases ru
  obtain ⟨ox, odo, IA⟩ := I.inst hc
  have fin : ∀ tk, EP X pins σ Q (.bool b) { s with toks := tk } := fun tk => ⟨.bl b, H, I.tok _, rfl, q⟩
  rcases hk with ⟨tp, Cs, rfl, ht, e⟩ | ⟨N, rfl, e⟩ | ⟨T, rfl, e⟩
  · cases rw'
    obtain ⟨_, its, rv, o, h1, h2, h3, n, h4⟩ := (show ObjOk X.prog X.w H s.heap tp (.tup (Cs.map V.ref)) from I.hok tp _ ht)
    rw [vals_refs rv] at h4
    obtain ⟨oc, od, oda, osl⟩ := o
    cases h3
    cases h4
    exact PySem.W.kia_tup (PySem.W.kitx_exc hC) I.kIn ⟨ox, odo, IA⟩ h1 e (fun z => nomatch z) fin
  · cases rw'
    exact PySem.W.kia_one (PySem.W.kitx_exc hC) I.kIn ⟨ox, odo, IA⟩ e (fun z => nomatch z) fin
  · cases rw'
    exact PySem.W.kia_one (PySem.W.kitx_exc hC) I.kIn ⟨ox, odo, IA⟩ e (fun z => nomatch z) fin
end
section
variable {P : Program} {w : World} {K : PySem.W.Frag} {mg : Str → Option Value} {base : Heap}
theorem Fun.okX {x qual : Str} {st : Stmt} {f : Addr} {fd : FuncData} {N ps : List Str} {k : Nat} {sp : Sp} (F : Fun K x qual st f fd) (S : FnScope N ps (defScope st)) (len : ∀ vs H Q E, sp vs H Q E → vs.length = ps.length)
    (hbody : ∀ (cdv : Value) (A : Around) (outer : List Env) (s : Shared) (H : Hp) (vs : List V) (Q : VK) (E : XK), Room k (A.deeper (envOfC qual (defScope st) s.heap.objs.size f cdv)) → sp vs H Q E →
      ∃ t, PSs (cxOf (CX1 P w) P w K mg base N qual (defScope st) f cdv A outer s H E) (defBody st) t ∧ t { nx := fun _ H' => Q .non H', rt := Q } (start N vs) H) : FnOk P w K mg base (CX1 P w) (k + 1) f fd ps sp := by
  obtain ⟨oc, od, kV, doc, pm, an, cdv, ct, osl, rfl, lk, hcd⟩ := F.ex
  exact fn_of lk hcd S len fun A outer s H vs Q E hr hsp => hbody cdv A outer s H vs Q E hr hsp
end
end L2
set_option Elab.async false
set_option linter.all false
set_option maxRecDepth 100000
set_option maxHeartbeats 4100000
namespace L2
open PySem PySem.Spec PyProof.Rows SeqAt
mutual
def Dat.pq : Dat → Dat → Bool
  | .non, .non => true
  | .bl a, .bl b => a == b
  | .bl a, .int b => (if a then 1 else 0) == b
  | .int a, .bl b => a == (if b then 1 else 0)
  | .int a, .int b => a == b
  | .str a, .str b => a == b
  | .tup a, .tup b => Dat.pqs a b
  | .lst a, .lst b => Dat.pqs a b
  | _, _ => false
def Dat.pqs : List Dat → List Dat → Bool
  | [], [] => true
  | a :: as, b :: bs => Dat.pq a b && Dat.pqs as bs
  | _, _ => false
end
mutual
theorem Dat.pq_self : ∀ a : Dat, a.pq a = true
  | .non => by unfold Dat.pq; rfl
  | .bl b => by unfold Dat.pq; exact beq_self_eq_true b
  | .int i => by unfold Dat.pq; exact beq_self_eq_true i
  | .str x => by unfold Dat.pq; exact beq_self_eq_true x
  | .tup ds => by unfold Dat.pq; exact Dat.pqs_self ds
  | .lst ds => by unfold Dat.pq; exact Dat.pqs_self ds
theorem Dat.pqs_self : ∀ a : List Dat, Dat.pqs a a = true
  | [] => by unfold Dat.pqs; rfl
  | a :: as => by unfold Dat.pqs; rw [Dat.pq_self a, Dat.pqs_self as]; rfl
end
mutual
def Dat.nb : Dat → Bool
  | .bl _ => false
  | .tup ds => Dat.nbs ds
  | .lst ds => Dat.nbs ds
  | _ => true
def Dat.nbs : List Dat → Bool
  | [] => true
  | d :: ds => d.nb && Dat.nbs ds
end
mutual
theorem Dat.pq_eq : ∀ (a b : Dat), a.nb = true → b.nb = true → a.pq b = true → a = b
  | .non, b, _, hb, h => by cases b <;> unfold Dat.pq at h <;> first | rfl | cases h
  | .bl _, _, ha, _, _ => by unfold Dat.nb at ha; cases ha
  | .int i, b, _, hb, h => by cases b <;> unfold Dat.pq at h <;> first | (cases h; done) | (unfold Dat.nb at hb; cases hb; done) | rw [beq_iff_eq.mp h]
  | .str i, b, _, hb, h => by cases b <;> unfold Dat.pq at h <;> first | (cases h; done) | rw [beq_iff_eq.mp h]
  | .tup ds, b, ha, hb, h => by
    cases b with
    | tup es => unfold Dat.pq at h; unfold Dat.nb at ha hb; rw [Dat.pqs_eq ds es ha hb h]
    | _ => unfold Dat.pq at h; cases h
  | .lst ds, b, ha, hb, h => by
    cases b with
    | lst es => unfold Dat.pq at h; unfold Dat.nb at ha hb; rw [Dat.pqs_eq ds es ha hb h]
    | _ => unfold Dat.pq at h; cases h
theorem Dat.pqs_eq : ∀ (a b : List Dat), Dat.nbs a = true → Dat.nbs b = true → Dat.pqs a b = true → a = b
  | [], [], _, _, _ => rfl
  | [], _ :: _, _, _, h => by unfold Dat.pqs at h; cases h
  | _ :: _, [], _, _, h => by unfold Dat.pqs at h; cases h
  | a :: as, b :: bs, ha, hb, h => by
    unfold Dat.pqs at h
    unfold Dat.nbs at ha hb
    rw [Bool.and_eq_true] at h ha hb
    rw [Dat.pq_eq a b ha.1 hb.1 h.1, Dat.pqs_eq as bs ha.2 hb.2 h.2]
end
theorem pqs_min : ∀ (as bs : List Dat), ((List.range (min as.length bs.length)).all (fun i => ((as[i]?).getD .non).pq ((bs[i]?).getD .non)) && as.length == bs.length) = Dat.pqs as bs
  | [], [] => by unfold Dat.pqs; rfl
  | [], _ :: _ => by unfold Dat.pqs; simp
  | _ :: _, [] => by unfold Dat.pqs; simp
  | a :: as, b :: bs => by
    have ih := pqs_min as bs
    have e : min (a :: as).length (b :: bs).length = min as.length bs.length + 1 := by simp only [List.length_cons]; omega
    rw [e, List.range_succ_eq_map, List.all_cons, List.all_map]
    unfold Dat.pqs
    rw [← ih]
    have e2 : ((a :: as).length == (b :: bs).length) = (as.length == bs.length) := by simp
    rw [e2, Bool.and_assoc]
    rfl
theorem pqs_len {as bs : List Dat} (h : as.length = bs.length) : (List.range as.length).all (fun i => ((as[i]?).getD .non).pq ((bs[i]?).getD .non)) = Dat.pqs as bs := by
  rw [← pqs_min as bs, h]; simp
theorem pqs_ne {as bs : List Dat} (h : as.length ≠ bs.length) : Dat.pqs as bs = false := by
  rw [← pqs_min as bs]; simp [h]
theorem tup_at' {P : Program} {w : World} {H : Hp} {s : Shared} (ok : HOk P w H s.heap) {a : Addr} {xs : List V} (h : H a = some (.tup xs)) : ∃ its : List Value, Vals xs its ∧ s.heap.IsTuple a its.toArray := by
  obtain ⟨_, its, r, p⟩ := (show ObjOk P w H s.heap a (.tup xs) from ok a _ h)
  exact ⟨its, r, p.is⟩
theorem lst_at' {P : Program} {w : World} {H : Hp} {s : Shared} (ok : HOk P w H s.heap) {a : Addr} {xs : List V} (h : H a = some (.lst xs)) : ∃ its : List Value, Vals xs its ∧ s.heap.IsList a its.toArray := by
  obtain ⟨_, its, n, r, p⟩ := (show ObjOk P w H s.heap a (.lst xs) from ok a _ h)
  exact ⟨its, r, _, p, rfl, n, rfl⟩
structure Cmp (A : Around) (s : Shared) (u v : Value) (b : Bool) : Prop where
  eq : EqAt A s u v b
  rc : RcAt A s u v b
  ne : RcNeAt A s u v (!b)
theorem cmp_any {P : Program} {w : World} {H : Hp} {s : Shared} (ok : HOk P w H s.heap) : ∀ (n : Nat) (d1 d2 : Dat) (A : Around) {x y : V} {u v : Value}, d1.dep ≤ n → Has H x d1 → Has H y d2 → RelV x u → RelV y v → Room (n + 1) A → Cmp A s u v (d1.pq d2)
  | n, d1, d2, A, x, y, u, v, hn, hx, hy, ru, rv, hr => by
    have hu := hr.units0
    cases d1 with
    | non =>
      unfold Has at hx; subst hx; cases ru
      cases d2 with
      | non => unfold Has at hy; subst hy; cases rv; unfold Dat.pq; exact ⟨.same _, .none_none, .none_none⟩
      | bl b => unfold Has at hy; subst hy; cases rv; unfold Dat.pq; exact ⟨.none_bool _, .none_bool _, .none_bool _⟩
      | int b => unfold Has at hy; subst hy; obtain ⟨t', rfl⟩ := rv; unfold Dat.pq; exact ⟨.none_int _ _, .none_int _ _, .none_int _ _⟩
      | str b => unfold Has at hy; subst hy; obtain ⟨t', rfl⟩ := rv; unfold Dat.pq; exact ⟨.none_str _ _, .none_str _ _, .none_str _ _⟩
      | tup es => unfold Has at hy; obtain ⟨p, ys, rfl, hp, _⟩ := hy; cases rv; obtain ⟨its, r, pt⟩ := tup_at' ok hp; unfold Dat.pq; exact ⟨.none_tuple pt hu, .none_tuple pt hu, .none_tuple pt hu⟩
      | lst es => unfold Has at hy; obtain ⟨p, ys, rfl, hp, _⟩ := hy; cases rv; obtain ⟨its, r, pt⟩ := lst_at' ok hp; unfold Dat.pq; exact ⟨.none_list pt hu, .none_list pt hu, .none_list pt hu⟩
    | bl a =>
      unfold Has at hx; subst hx; cases ru
      cases d2 with
      | non => unfold Has at hy; subst hy; cases rv; unfold Dat.pq; exact ⟨.bool_none _, .bool_none _, .bool_none _⟩
      | bl b => unfold Has at hy; subst hy; cases rv; unfold Dat.pq; exact ⟨.bool_bool _ _, .bool_bool _ _, .bool_bool _ _⟩
      | int b => unfold Has at hy; subst hy; obtain ⟨t', rfl⟩ := rv; unfold Dat.pq; exact ⟨.bool_int _ _ _, .bool_int _ _ _, .bool_int _ _ _⟩
      | str b => unfold Has at hy; subst hy; obtain ⟨t', rfl⟩ := rv; unfold Dat.pq; exact ⟨.bool_str _ _ _, .bool_str _ _ _, .bool_str _ _ _⟩
      | tup es => unfold Has at hy; obtain ⟨p, ys, rfl, hp, _⟩ := hy; cases rv; obtain ⟨its, r, pt⟩ := tup_at' ok hp; unfold Dat.pq; exact ⟨.bool_tuple _ pt hu, .bool_tuple _ pt hu, .bool_tuple _ pt hu⟩
      | lst es => unfold Has at hy; obtain ⟨p, ys, rfl, hp, _⟩ := hy; cases rv; obtain ⟨its, r, pt⟩ := lst_at' ok hp; unfold Dat.pq; exact ⟨.bool_list _ pt hu, .bool_list _ pt hu, .bool_list _ pt hu⟩
    | int a =>
      unfold Has at hx; subst hx; obtain ⟨t, rfl⟩ := ru
      cases d2 with
      | non => unfold Has at hy; subst hy; cases rv; unfold Dat.pq; exact ⟨.int_none _ _, .int_none _ _, .int_none _ _⟩
      | bl b => unfold Has at hy; subst hy; cases rv; unfold Dat.pq; exact ⟨.int_bool _ _ _, .int_bool _ _ _, .int_bool _ _ _⟩
      | int b => unfold Has at hy; subst hy; obtain ⟨t', rfl⟩ := rv; unfold Dat.pq; exact ⟨.int_int _ _ _ _, .int_int _ _ _ _, .int_int _ _ _ _⟩
      | str b => unfold Has at hy; subst hy; obtain ⟨t', rfl⟩ := rv; unfold Dat.pq; exact ⟨.int_str _ _ _ _, .int_str _ _ _ _, .int_str _ _ _ _⟩
      | tup es => unfold Has at hy; obtain ⟨p, ys, rfl, hp, _⟩ := hy; cases rv; obtain ⟨its, r, pt⟩ := tup_at' ok hp; unfold Dat.pq; exact ⟨.int_tuple _ _ pt hu, .int_tuple _ _ pt hu, .int_tuple _ _ pt hu⟩
      | lst es => unfold Has at hy; obtain ⟨p, ys, rfl, hp, _⟩ := hy; cases rv; obtain ⟨its, r, pt⟩ := lst_at' ok hp; unfold Dat.pq; exact ⟨.int_list _ _ pt hu, .int_list _ _ pt hu, .int_list _ _ pt hu⟩
    | str a =>
      unfold Has at hx; subst hx; obtain ⟨t, rfl⟩ := ru
      cases d2 with
      | non => unfold Has at hy; subst hy; cases rv; unfold Dat.pq; exact ⟨.str_none _ _, .str_none _ _, .str_none _ _⟩
      | bl b => unfold Has at hy; subst hy; cases rv; unfold Dat.pq; exact ⟨.str_bool _ _ _, .str_bool _ _ _, .str_bool _ _ _⟩
      | int b => unfold Has at hy; subst hy; obtain ⟨t', rfl⟩ := rv; unfold Dat.pq; exact ⟨.str_int _ _ _ _, .str_int _ _ _ _, .str_int _ _ _ _⟩
      | str b => unfold Has at hy; subst hy; obtain ⟨t', rfl⟩ := rv; unfold Dat.pq; exact ⟨.str_str _ _ _ _, .str_str _ _ _ _, .str_str _ _ _ _⟩
      | tup es => unfold Has at hy; obtain ⟨p, ys, rfl, hp, _⟩ := hy; cases rv; obtain ⟨its, r, pt⟩ := tup_at' ok hp; unfold Dat.pq; exact ⟨.str_tuple _ _ pt hu, .str_tuple _ _ pt hu, .str_tuple _ _ pt hu⟩
      | lst es => unfold Has at hy; obtain ⟨p, ys, rfl, hp, _⟩ := hy; cases rv; obtain ⟨its, r, pt⟩ := lst_at' ok hp; unfold Dat.pq; exact ⟨.str_list _ _ pt hu, .str_list _ _ pt hu, .str_list _ _ pt hu⟩
    | tup ds =>
      unfold Has at hx
      obtain ⟨p, xs, rfl, hp, hxs⟩ := hx
      cases ru
      obtain ⟨its, r, pt⟩ := tup_at' ok hp
      cases d2 with
      | non => unfold Has at hy; subst hy; cases rv; unfold Dat.pq; exact ⟨.tuple_none pt hu, .tuple_none pt hu, .tuple_none pt hu⟩
      | bl b => unfold Has at hy; subst hy; cases rv; unfold Dat.pq; exact ⟨.tuple_bool _ pt hu, .tuple_bool _ pt hu, .tuple_bool _ pt hu⟩
      | int b => unfold Has at hy; subst hy; obtain ⟨t', rfl⟩ := rv; unfold Dat.pq; exact ⟨.tuple_int _ _ pt hu, .tuple_int _ _ pt hu, .tuple_int _ _ pt hu⟩
      | str b => unfold Has at hy; subst hy; obtain ⟨t', rfl⟩ := rv; unfold Dat.pq; exact ⟨.tuple_str _ _ pt hu, .tuple_str _ _ pt hu, .tuple_str _ _ pt hu⟩
      | lst es => unfold Has at hy; obtain ⟨q, ys, rfl, hq, _⟩ := hy; cases rv; obtain ⟨its2, r2, pt2⟩ := lst_at' ok hq; unfold Dat.pq; exact ⟨.tuple_list pt pt2 hu, .tuple_list pt pt2 hu, .tuple_list pt pt2 hu⟩
      | tup es =>
        unfold Has at hy
        obtain ⟨p2, ys, rfl, hp2, hys⟩ := hy
        cases rv
        obtain ⟨its2, r2, pt2⟩ := tup_at' ok hp2
        have l1 := hxs.length
        have l2 := hys.length
        have l3 := r.length
        have l4 := r2.length
        have dd : Dat.deps ds + 1 ≤ n := by unfold Dat.dep at hn; omega
        obtain ⟨m, rfl⟩ : ∃ m, n = m + 1 := ⟨n - 1, by omega⟩
        have it : ∀ j (h1 : j < its.toArray.size) (h2 : j < its2.toArray.size), EqAt A.in1 s its.toArray[j] its2.toArray[j] ((fun i => ((ds[i]?).getD .non).pq ((es[i]?).getD .non)) j) := by
          intro j h1 h2
          rw [List.size_toArray] at h1 h2
          have j1 : j < xs.length := by omega
          have j2 : j < ys.length := by omega
          obtain ⟨d, hd, hh⟩ := hxs.get (List.getElem?_eq_getElem j1)
          obtain ⟨d', hd', hh'⟩ := hys.get (List.getElem?_eq_getElem j2)
          obtain ⟨u1, hu1, ru1⟩ := r.get (List.getElem?_eq_getElem j1)
          obtain ⟨u2, hu2, ru2⟩ := r2.get (List.getElem?_eq_getElem j2)
          have i1 : its.toArray[j] = u1 := by have z := (List.getElem?_eq_some_iff.mp hu1).2; simpa using z
          have i2 : its2.toArray[j] = u2 := by have z := (List.getElem?_eq_some_iff.mp hu2).2; simpa using z
          dsimp only
          rw [i1, i2, hd, hd']
          have c1 := Dat.deps_get hd
          exact (cmp_any ok m d d' A.in1 (by omega) hh hh' ru1 ru2 hr.in1).eq
        have k1 : its.toArray.size = ds.length := by rw [List.size_toArray]; omega
        have k2 : its2.toArray.size = es.length := by rw [List.size_toArray]; omega
        have q := RcAt.tuples (A := A) pt pt2 hu it
        have qn := RcNeAt.tuples (A := A) pt pt2 hu it
        rw [k1, k2, pqs_min] at q qn
        have e0 : (Dat.tup ds).pq (Dat.tup es) = Dat.pqs ds es := by conv => lhs; unfold Dat.pq
        rw [e0]
        refine ⟨?_, q, qn⟩
        by_cases e : p = p2
        · subst e
          rw [hp] at hp2
          cases hp2
          rw [HasL.inj ds es hxs hys, Dat.pqs_self]
          exact EqAt.same _
        · exact EqAt.of_refs e q
    | lst ds =>
      unfold Has at hx
      obtain ⟨p, xs, rfl, hp, hxs⟩ := hx
      cases ru
      obtain ⟨its, r, pt⟩ := lst_at' ok hp
      cases d2 with
      | non => unfold Has at hy; subst hy; cases rv; unfold Dat.pq; exact ⟨.list_none pt hu, .list_none pt hu, .list_none pt hu⟩
      | bl b => unfold Has at hy; subst hy; cases rv; unfold Dat.pq; exact ⟨.list_bool _ pt hu, .list_bool _ pt hu, .list_bool _ pt hu⟩
      | int b => unfold Has at hy; subst hy; obtain ⟨t', rfl⟩ := rv; unfold Dat.pq; exact ⟨.list_int _ _ pt hu, .list_int _ _ pt hu, .list_int _ _ pt hu⟩
      | str b => unfold Has at hy; subst hy; obtain ⟨t', rfl⟩ := rv; unfold Dat.pq; exact ⟨.list_str _ _ pt hu, .list_str _ _ pt hu, .list_str _ _ pt hu⟩
      | tup es => unfold Has at hy; obtain ⟨q, ys, rfl, hq, _⟩ := hy; cases rv; obtain ⟨its2, r2, pt2⟩ := tup_at' ok hq; unfold Dat.pq; exact ⟨.list_tuple pt pt2 hu, .list_tuple pt pt2 hu, .list_tuple pt pt2 hu⟩
      | lst es =>
        unfold Has at hy
        obtain ⟨p2, ys, rfl, hp2, hys⟩ := hy
        cases rv
        obtain ⟨its2, r2, pt2⟩ := lst_at' ok hp2
        have l1 := hxs.length
        have l2 := hys.length
        have l3 := r.length
        have l4 := r2.length
        have dd : Dat.deps ds + 1 ≤ n := by unfold Dat.dep at hn; omega
        obtain ⟨m, rfl⟩ : ∃ m, n = m + 1 := ⟨n - 1, by omega⟩
        have it : ∀ j (h1 : j < its.toArray.size) (h2 : j < its2.toArray.size), EqAt A.in1 s its.toArray[j] its2.toArray[j] ((fun i => ((ds[i]?).getD .non).pq ((es[i]?).getD .non)) j) := by
          intro j h1 h2
          rw [List.size_toArray] at h1 h2
          have j1 : j < xs.length := by omega
          have j2 : j < ys.length := by omega
          obtain ⟨d, hd, hh⟩ := hxs.get (List.getElem?_eq_getElem j1)
          obtain ⟨d', hd', hh'⟩ := hys.get (List.getElem?_eq_getElem j2)
          obtain ⟨u1, hu1, ru1⟩ := r.get (List.getElem?_eq_getElem j1)
          obtain ⟨u2, hu2, ru2⟩ := r2.get (List.getElem?_eq_getElem j2)
          have i1 : its.toArray[j] = u1 := by have z := (List.getElem?_eq_some_iff.mp hu1).2; simpa using z
          have i2 : its2.toArray[j] = u2 := by have z := (List.getElem?_eq_some_iff.mp hu2).2; simpa using z
          dsimp only
          rw [i1, i2, hd, hd']
          have c1 := Dat.deps_get hd
          exact (cmp_any ok m d d' A.in1 (by omega) hh hh' ru1 ru2 hr.in1).eq
        have k1 : its.toArray.size = ds.length := by rw [List.size_toArray]; omega
        have k2 : its2.toArray.size = es.length := by rw [List.size_toArray]; omega
        have e0 : (Dat.lst ds).pq (Dat.lst es) = Dat.pqs ds es := by conv => lhs; unfold Dat.pq
        rw [e0]
        have qq : RcAt A s (.ref p) (.ref p2) (Dat.pqs ds es) ∧ RcNeAt A s (.ref p) (.ref p2) (!Dat.pqs ds es) := by
          by_cases e : ds.length = es.length
          · have q := RcAt.lists (A := A) pt pt2 (by omega) hu it
            have qn := RcNeAt.lists (A := A) pt pt2 (by omega) hu it
            rw [k1, pqs_len e] at q qn
            exact ⟨q, qn⟩
          · have z : (its.toArray.size != its2.toArray.size) = true := by rw [k1, k2]; simp [e]
            rw [pqs_ne e]
            exact ⟨RcAt.lists_lengths (A := A) pt pt2 z hu, RcNeAt.lists_lengths (A := A) pt pt2 z hu⟩
        refine ⟨?_, qq.1, qq.2⟩
        by_cases e : p = p2
        · subst e
          rw [hp] at hp2
          cases hp2
          rw [HasL.inj ds es hxs hys, Dat.pqs_self]
          exact EqAt.same _
        · exact EqAt.of_refs e qq.1
  termination_by n => n
section
variable {X : Cx}
def rEqD (k : Nat) : R2 := fun x y H Q => ∃ d e, Has H x d ∧ Has H y e ∧ d.dep ≤ k ∧ Q (.bl (d.pq e)) H
def rNeD (k : Nat) : R2 := fun x y H Q => ∃ d e, Has H x d ∧ Has H y e ∧ d.dep ≤ k ∧ Q (.bl (!d.pq e)) H
theorem op_eqD {k : Nat} (hr : Room (k + 1) X.A) : OpR X (compareOp .Eq) (rEqD k) := by
  intro pins s σ H x y v u Q I rx ry h
  obtain ⟨d, e, hd, he, hk, q⟩ := h
  exact (cmp_any I.hok k d e X.A hk hd he rx ry hr).rc _ _ _ _ ⟨.bl _, H, I, rfl, q⟩
theorem op_neD {k : Nat} (hr : Room (k + 1) X.A) : OpR X (compareOp .NotEq) (rNeD k) := by
  intro pins s σ H x y v u Q I rx ry h
  obtain ⟨d, e, hd, he, hk, q⟩ := h
  exact (cmp_any I.hok k d e X.A hk hd he rx ry hr).ne _ _ _ _ ⟨.bl _, H, I, rfl, q⟩
end
end L2
set_option Elab.async false
set_option linter.all false
set_option maxRecDepth 100000
set_option maxHeartbeats 4100000
namespace L2
open PySem
def W.under : W → W → Bool
  | .non, _ => true
  | .tag x, .tag y => x == y
  | .pair a b, .pair c d => a.under c && b.under d
  | _, _ => false
def W.whole : W → Bool
  | .non => false
  | .tag _ => true
  | .pair a b => a.whole && b.whole
theorem W.dat_dep : ∀ w : W, w.dat.dep = w.dep
  | .non => by unfold W.dat Dat.dep W.dep; rfl
  | .tag _ => by unfold W.dat Dat.dep W.dep; rfl
  | .pair a b => by
    unfold W.dat Dat.dep W.dep
    unfold Dat.deps Dat.deps Dat.deps
    rw [W.dat_dep a, W.dat_dep b]
    omega
end L2
namespace K4
open PySem L2
section
variable {P : Program} {w : World} {K : PySem.W.Frag} {mg : Str → Option Value} {base : Heap} {f : Addr} {fd : FuncData}
def spUnder (n : Nat) : Sp := fun vs H Q _ => ∃ (x y : V) (a b : W), vs = [x, y] ∧ Has H x a.dat ∧ Has H y b.dat ∧ a.dep < n ∧ Q (.bl (a.under b)) H
def spWhole (n : Nat) : Sp := fun vs H Q _ => ∃ (x : V) (a : W), vs = [x] ∧ Has H x a.dat ∧ a.dep < n ∧ Q (.bl a.whole) H
theorem scUnder : FnScope ["one", "other"] ["one", "other"] (defScope sUnder) := ⟨rfl, rfl, rfl, by decide +kernel, rfl, by decide +kernel, by decide +kernel⟩
theorem ok_under {n : Nat} (B : Blt mg) (F : Fun K "is_under" "is_under" sUnder f fd) (G : FnOk P w K mg base CX0 (n + 3) f fd ["one", "other"] (spUnder n)) (bG : Binds K fd ["one", "other"] []) (mG : mg "is_under" = some (.ref f)) :
    FnOk P w K mg base CX0 (n + 1 + 3) f fd ["one", "other"] (spUnder (n + 1)) := by
  refine F.ok scUnder (fun vs H Q E h => ?_) (fun cdv A outer s H vs Q E hr h => ?_)
  · obtain ⟨x, y, a, b, rfl, _⟩ := h
    rfl
  obtain ⟨x, y, a, b, rfl, hx, hy, hd, q⟩ := h
  have hr1 := hr.mono (show n + 1 ≤ n + 3 by omega)
  refine ⟨_, pss_cons (ps_if (pt_cmpR op_isN (pv 0) pe_non (nomark _)) (pss_one (ps_ret pe_bl)) pss_nil)
    (pss_cons (ps_if (PW.pt (pw_and (pt_val (pe_isi rfl B.isi rfl B.tuple boot_tuple' (pv 0))) (pw_and1 (pt_val (pe_isi rfl B.isi rfl B.tuple boot_tuple' (pv 1))))))
      (pss_one (ps_ret (pe_and (pe_call G hr rfl mG F.kp bG .nil pass0 (pa_cons (pe_ix ix_tup (pv 0) pe_int (fun _ _ => rfl)) (pa_cons (pe_ix ix_tup (pv 1) pe_int (fun _ _ => rfl)) pa_nil)))
        (pe_one (pe_call G hr rfl mG F.kp bG .nil pass0 (pa_cons (pe_ix ix_tup (pv 0) pe_int (fun _ _ => rfl)) (pa_cons (pe_ix ix_tup (pv 1) pe_int (fun _ _ => rfl)) pa_nil))))))) pss_nil)
    (pss_one (ps_ret (pe_cmpR (op_eqD hr1) (pv 0) (pv 1) (nomark _))))), ?_⟩
  have tX := has_ty (K := K) hx
  have tY := has_ty (K := K) hy
  refine ⟨_, rfl, rfl, _, rfl, ?_⟩
  cases a with
  | non =>
    have ex : x = .non := by unfold W.dat Has at hx; exact hx
    subst ex
    refine iteP rfl ?_
    unfold W.under at q; exact q
  | tag t =>
    have ex : x = .str t := by unfold W.dat Has at hx; exact hx
    subst ex
    refine iteM (by simp) ?_
    refine ⟨_, rfl, _, _, _, _, rfl, tX, kit_of K _ (by simp), _, rfl, ?_⟩
    refine iteM (by simp [isD, tyD, W.dat]) ?_
    refine iteM (by simp) ?_
    refine ⟨_, rfl, _, rfl, _, _, hx, hy, by rw [W.dat_dep]; omega, ?_⟩
    have e : (W.tag t).dat.pq b.dat = (W.tag t).under b := by cases b <;> (unfold W.under W.dat Dat.pq; rfl)
    rw [e]; exact q
  | pair a1 a2 =>
    obtain ⟨p, x1, x2, rfl, hp, h1, h2⟩ := has_pair hx
    refine iteM (by simp) ?_
    refine ⟨_, rfl, _, _, _, _, rfl, tX, kit_of K _ (by simp), _, rfl, ?_⟩
    refine iteP (by simp [isD, tyD, W.dat]) ?_
    refine ⟨_, rfl, _, _, _, _, rfl, tY, kit_of K _ (by simp), _, rfl, ?_⟩
    have hd' : 1 + max a1.dep a2.dep < n + 1 := hd
    have m1 := Nat.le_max_left a1.dep a2.dep
    have m2 := Nat.le_max_right a1.dep a2.dep
    cases b with
    | non =>
      refine iteM (by simp [isD, tyD, W.dat]) ?_
      refine ⟨_, rfl, _, rfl, _, _, hx, hy, by rw [W.dat_dep]; exact Nat.le_of_lt_succ hd, ?_⟩
      have e : (W.pair a1 a2).dat.pq W.non.dat = (W.pair a1 a2).under W.non := by unfold W.under W.dat Dat.pq; rfl
      rw [e]; exact q
    | tag t =>
      refine iteM (by simp [isD, tyD, W.dat]) ?_
      refine ⟨_, rfl, _, rfl, _, _, hx, hy, by rw [W.dat_dep]; exact Nat.le_of_lt_succ hd, ?_⟩
      have e : (W.pair a1 a2).dat.pq (W.tag t).dat = (W.pair a1 a2).under (W.tag t) := by unfold W.under W.dat Dat.pq; rfl
      rw [e]; exact q
    | pair b1 b2 =>
      obtain ⟨p', y1, y2, rfl, hp', k1, k2⟩ := has_pair hy
      refine iteP (by simp [isD, tyD, W.dat]) ?_
      have eu : (W.pair a1 a2).under (W.pair b1 b2) = (a1.under b1 && a2.under b2) := by conv => lhs; unfold W.under
      refine ⟨_, rfl, p, _, 0, _, rfl, rfl, SqT.of hp, rfl, _, rfl, p', _, 0, _, rfl, rfl, SqT.of hp', rfl, x1, y1, a1, b1, rfl, h1, k1, by omega, _, rfl, ?_⟩
      cases e1 : a1.under b1 with
      | false =>
        rw [eu, e1] at q
        exact iteM (by simp) q
      | true =>
        rw [eu, e1, Bool.true_and] at q
        refine iteP rfl ?_
        exact ⟨_, rfl, p, _, 1, _, rfl, rfl, SqT.of hp, rfl, _, rfl, p', _, 1, _, rfl, rfl, SqT.of hp', rfl, x2, y2, a2, b2, rfl, h2, k2, by omega, q⟩
theorem under_ok (B : Blt mg) (F : Fun K "is_under" "is_under" sUnder f fd) (bG : Binds K fd ["one", "other"] []) (mG : mg "is_under" = some (.ref f)) : ∀ n : Nat, FnOk P w K mg base CX0 (n + 3) f fd ["one", "other"] (spUnder n)
  | 0 => by
    have no : ∀ vs H Q E, ¬ spUnder 0 vs H Q E := fun vs H Q E h => by obtain ⟨x, y, a, b, _, _, _, h1, _⟩ := h; omega
    exact ⟨fun vs H Q E h => absurd h (no vs H Q E), fun A outer s H args us vs Q E _ _ _ _ h => absurd h (no vs H Q E)⟩
  | n + 1 => ok_under B F (under_ok B F bG mG n) bG mG
theorem scLUnder : FnScope ["one", "other"] ["one", "other"] (defScope sLUnder) := ⟨rfl, rfl, rfl, by decide +kernel, rfl, by decide +kernel, by decide +kernel⟩
theorem ok_lunder {n : Nat} (B : Blt mg) (F : Fun K "_law_under" "_law_under" sLUnder f fd) (G : FnOk P w K mg base CX0 (n + 3) f fd ["one", "other"] (spUnder n)) (bG : Binds K fd ["one", "other"] []) (mG : mg "_law_under" = some (.ref f)) :
    FnOk P w K mg base CX0 (n + 1 + 3) f fd ["one", "other"] (spUnder (n + 1)) := by
  refine F.ok scLUnder (fun vs H Q E h => ?_) (fun cdv A outer s H vs Q E hr h => ?_)
  · obtain ⟨x, y, a, b, rfl, _⟩ := h
    rfl
  obtain ⟨x, y, a, b, rfl, hx, hy, hd, q⟩ := h
  have hr1 := hr.mono (show n + 1 ≤ n + 3 by omega)
  refine ⟨_, pss_cons (ps_if (pt_cmpR op_isN (pv 0) pe_non (nomark _)) (pss_one (ps_ret pe_bl)) pss_nil)
    (pss_cons (ps_if (PW.pt (pw_and (pt_val (pe_isi rfl B.isi rfl B.tuple boot_tuple' (pv 0))) (pw_and1 (pt_val (pe_isi rfl B.isi rfl B.tuple boot_tuple' (pv 1))))))
      (pss_one (ps_ret (pe_and (pe_call G hr rfl mG F.kp bG .nil pass0 (pa_cons (pe_ix ix_tup (pv 0) pe_int (fun _ _ => rfl)) (pa_cons (pe_ix ix_tup (pv 1) pe_int (fun _ _ => rfl)) pa_nil)))
        (pe_one (pe_call G hr rfl mG F.kp bG .nil pass0 (pa_cons (pe_ix ix_tup (pv 0) pe_int (fun _ _ => rfl)) (pa_cons (pe_ix ix_tup (pv 1) pe_int (fun _ _ => rfl)) pa_nil))))))) pss_nil)
    (pss_one (ps_ret (pe_cmpR (op_eqD hr1) (pv 0) (pv 1) (nomark _))))), ?_⟩
  have tX := has_ty (K := K) hx
  have tY := has_ty (K := K) hy
  refine ⟨_, rfl, rfl, _, rfl, ?_⟩
  cases a with
  | non =>
    have ex : x = .non := by unfold W.dat Has at hx; exact hx
    subst ex
    refine iteP rfl ?_
    unfold W.under at q; exact q
  | tag t =>
    have ex : x = .str t := by unfold W.dat Has at hx; exact hx
    subst ex
    refine iteM (by simp) ?_
    refine ⟨_, rfl, _, _, _, _, rfl, tX, kit_of K _ (by simp), _, rfl, ?_⟩
    refine iteM (by simp [isD, tyD, W.dat]) ?_
    refine iteM (by simp) ?_
    refine ⟨_, rfl, _, rfl, _, _, hx, hy, by rw [W.dat_dep]; omega, ?_⟩
    have e : (W.tag t).dat.pq b.dat = (W.tag t).under b := by cases b <;> (unfold W.under W.dat Dat.pq; rfl)
    rw [e]; exact q
  | pair a1 a2 =>
    obtain ⟨p, x1, x2, rfl, hp, h1, h2⟩ := has_pair hx
    refine iteM (by simp) ?_
    refine ⟨_, rfl, _, _, _, _, rfl, tX, kit_of K _ (by simp), _, rfl, ?_⟩
    refine iteP (by simp [isD, tyD, W.dat]) ?_
    refine ⟨_, rfl, _, _, _, _, rfl, tY, kit_of K _ (by simp), _, rfl, ?_⟩
    have hd' : 1 + max a1.dep a2.dep < n + 1 := hd
    have m1 := Nat.le_max_left a1.dep a2.dep
    have m2 := Nat.le_max_right a1.dep a2.dep
    cases b with
    | non =>
      refine iteM (by simp [isD, tyD, W.dat]) ?_
      refine ⟨_, rfl, _, rfl, _, _, hx, hy, by rw [W.dat_dep]; exact Nat.le_of_lt_succ hd, ?_⟩
      have e : (W.pair a1 a2).dat.pq W.non.dat = (W.pair a1 a2).under W.non := by unfold W.under W.dat Dat.pq; rfl
      rw [e]; exact q
    | tag t =>
      refine iteM (by simp [isD, tyD, W.dat]) ?_
      refine ⟨_, rfl, _, rfl, _, _, hx, hy, by rw [W.dat_dep]; exact Nat.le_of_lt_succ hd, ?_⟩
      have e : (W.pair a1 a2).dat.pq (W.tag t).dat = (W.pair a1 a2).under (W.tag t) := by unfold W.under W.dat Dat.pq; rfl
      rw [e]; exact q
    | pair b1 b2 =>
      obtain ⟨p', y1, y2, rfl, hp', k1, k2⟩ := has_pair hy
      refine iteP (by simp [isD, tyD, W.dat]) ?_
      have eu : (W.pair a1 a2).under (W.pair b1 b2) = (a1.under b1 && a2.under b2) := by conv => lhs; unfold W.under
      refine ⟨_, rfl, p, _, 0, _, rfl, rfl, SqT.of hp, rfl, _, rfl, p', _, 0, _, rfl, rfl, SqT.of hp', rfl, x1, y1, a1, b1, rfl, h1, k1, by omega, _, rfl, ?_⟩
      cases e1 : a1.under b1 with
      | false =>
        rw [eu, e1] at q
        exact iteM (by simp) q
      | true =>
        rw [eu, e1, Bool.true_and] at q
        refine iteP rfl ?_
        exact ⟨_, rfl, p, _, 1, _, rfl, rfl, SqT.of hp, rfl, _, rfl, p', _, 1, _, rfl, rfl, SqT.of hp', rfl, x2, y2, a2, b2, rfl, h2, k2, by omega, q⟩
theorem lunder_ok (B : Blt mg) (F : Fun K "_law_under" "_law_under" sLUnder f fd) (bG : Binds K fd ["one", "other"] []) (mG : mg "_law_under" = some (.ref f)) : ∀ n : Nat, FnOk P w K mg base CX0 (n + 3) f fd ["one", "other"] (spUnder n)
  | 0 => by
    have no : ∀ vs H Q E, ¬ spUnder 0 vs H Q E := fun vs H Q E h => by obtain ⟨x, y, a, b, _, _, _, h1, _⟩ := h; omega
    exact ⟨fun vs H Q E h => absurd h (no vs H Q E), fun A outer s H args us vs Q E _ _ _ _ h => absurd h (no vs H Q E)⟩
  | n + 1 => ok_lunder B F (lunder_ok B F bG mG n) bG mG
theorem scWhole : FnScope ["worth"] ["worth"] (defScope sWhole) := ⟨rfl, rfl, rfl, by decide +kernel, rfl, by decide +kernel, by decide +kernel⟩
theorem ok_whole {n : Nat} (B : Blt mg) (F : Fun K "is_whole" "is_whole" sWhole f fd) (G : FnOk P w K mg base CX0 n f fd ["worth"] (spWhole n)) (bG : Binds K fd ["worth"] []) (mG : mg "is_whole" = some (.ref f)) :
    FnOk P w K mg base CX0 (n + 1) f fd ["worth"] (spWhole (n + 1)) := by
  refine F.ok scWhole (fun vs H Q E h => ?_) (fun cdv A outer s H vs Q E hr h => ?_)
  · obtain ⟨x, a, rfl, _⟩ := h
    rfl
  obtain ⟨x, a, rfl, hx, hd, q⟩ := h
  refine ⟨_, pss_cons (ps_if (pt_val (pe_isi rfl B.isi rfl B.tuple boot_tuple' (pv 0)))
      (pss_one (ps_ret (pe_and (pe_call G hr rfl mG F.kp bG .nil pass0 (pa_cons (pe_ix ix_tup (pv 0) pe_int (fun _ _ => rfl)) pa_nil)) (pe_one (pe_call G hr rfl mG F.kp bG .nil pass0 (pa_cons (pe_ix ix_tup (pv 0) pe_int (fun _ _ => rfl)) pa_nil)))))) pss_nil)
    (pss_one (ps_ret (pe_cmpR op_notN (pv 0) pe_non (nomark _)))), ?_⟩
  have tX := has_ty (K := K) hx
  refine ⟨_, rfl, _, _, _, _, rfl, tX, kit_of K _ (by simp), _, rfl, ?_⟩
  cases a with
  | non =>
    have ex : x = .non := by unfold W.dat Has at hx; exact hx
    subst ex
    refine iteM (by simp [isD, tyD, W.dat]) ?_
    refine ⟨_, rfl, rfl, ?_⟩
    unfold W.whole at q; exact q
  | tag t =>
    have ex : x = .str t := by unfold W.dat Has at hx; exact hx
    subst ex
    refine iteM (by simp [isD, tyD, W.dat]) ?_
    refine ⟨_, rfl, rfl, ?_⟩
    unfold W.whole at q; exact q
  | pair a1 a2 =>
    obtain ⟨p, x1, x2, rfl, hp, h1, h2⟩ := has_pair hx
    refine iteP (by simp [isD, tyD, W.dat]) ?_
    have hd' : 1 + max a1.dep a2.dep < n + 1 := hd
    have m1 := Nat.le_max_left a1.dep a2.dep
    have m2 := Nat.le_max_right a1.dep a2.dep
    have eu : (W.pair a1 a2).whole = (a1.whole && a2.whole) := by conv => lhs; unfold W.whole
    refine ⟨_, rfl, p, _, 0, _, rfl, rfl, SqT.of hp, rfl, x1, a1, rfl, h1, by omega, _, rfl, ?_⟩
    cases e1 : a1.whole with
    | false =>
      rw [eu, e1] at q
      exact iteM (by simp) q
    | true =>
      rw [eu, e1, Bool.true_and] at q
      refine iteP rfl ?_
      exact ⟨_, rfl, p, _, 1, _, rfl, rfl, SqT.of hp, rfl, x2, a2, rfl, h2, by omega, q⟩
theorem whole_ok (B : Blt mg) (F : Fun K "is_whole" "is_whole" sWhole f fd) (bG : Binds K fd ["worth"] []) (mG : mg "is_whole" = some (.ref f)) : ∀ n : Nat, FnOk P w K mg base CX0 n f fd ["worth"] (spWhole n)
  | 0 => by
    have no : ∀ vs H Q E, ¬ spWhole 0 vs H Q E := fun vs H Q E h => by obtain ⟨x, a, _, _, h1, _⟩ := h; omega
    exact ⟨fun vs H Q E h => absurd h (no vs H Q E), fun A outer s H args us vs Q E _ _ _ _ h => absurd h (no vs H Q E)⟩
  | n + 1 => ok_whole B F (whole_ok B F bG mG n) bG mG
theorem scLWhole : FnScope ["worth"] ["worth"] (defScope sLWhole) := ⟨rfl, rfl, rfl, by decide +kernel, rfl, by decide +kernel, by decide +kernel⟩
theorem ok_lwhole {n : Nat} (B : Blt mg) (F : Fun K "_law_whole" "_law_whole" sLWhole f fd) (G : FnOk P w K mg base CX0 n f fd ["worth"] (spWhole n)) (bG : Binds K fd ["worth"] []) (mG : mg "_law_whole" = some (.ref f)) :
    FnOk P w K mg base CX0 (n + 1) f fd ["worth"] (spWhole (n + 1)) := by
  refine F.ok scLWhole (fun vs H Q E h => ?_) (fun cdv A outer s H vs Q E hr h => ?_)
  · obtain ⟨x, a, rfl, _⟩ := h
    rfl
  obtain ⟨x, a, rfl, hx, hd, q⟩ := h
  refine ⟨_, pss_cons (ps_if (pt_val (pe_isi rfl B.isi rfl B.tuple boot_tuple' (pv 0)))
      (pss_one (ps_ret (pe_and (pe_call G hr rfl mG F.kp bG .nil pass0 (pa_cons (pe_ix ix_tup (pv 0) pe_int (fun _ _ => rfl)) pa_nil)) (pe_one (pe_call G hr rfl mG F.kp bG .nil pass0 (pa_cons (pe_ix ix_tup (pv 0) pe_int (fun _ _ => rfl)) pa_nil)))))) pss_nil)
    (pss_one (ps_ret (pe_cmpR op_notN (pv 0) pe_non (nomark _)))), ?_⟩
  have tX := has_ty (K := K) hx
  refine ⟨_, rfl, _, _, _, _, rfl, tX, kit_of K _ (by simp), _, rfl, ?_⟩
  cases a with
  | non =>
    have ex : x = .non := by unfold W.dat Has at hx; exact hx
    subst ex
    refine iteM (by simp [isD, tyD, W.dat]) ?_
    refine ⟨_, rfl, rfl, ?_⟩
    unfold W.whole at q; exact q
  | tag t =>
    have ex : x = .str t := by unfold W.dat Has at hx; exact hx
    subst ex
    refine iteM (by simp [isD, tyD, W.dat]) ?_
    refine ⟨_, rfl, rfl, ?_⟩
    unfold W.whole at q; exact q
  | pair a1 a2 =>
    obtain ⟨p, x1, x2, rfl, hp, h1, h2⟩ := has_pair hx
    refine iteP (by simp [isD, tyD, W.dat]) ?_
    have hd' : 1 + max a1.dep a2.dep < n + 1 := hd
    have m1 := Nat.le_max_left a1.dep a2.dep
    have m2 := Nat.le_max_right a1.dep a2.dep
    have eu : (W.pair a1 a2).whole = (a1.whole && a2.whole) := by conv => lhs; unfold W.whole
    refine ⟨_, rfl, p, _, 0, _, rfl, rfl, SqT.of hp, rfl, x1, a1, rfl, h1, by omega, _, rfl, ?_⟩
    cases e1 : a1.whole with
    | false =>
      rw [eu, e1] at q
      exact iteM (by simp) q
    | true =>
      rw [eu, e1, Bool.true_and] at q
      refine iteP rfl ?_
      exact ⟨_, rfl, p, _, 1, _, rfl, rfl, SqT.of hp, rfl, x2, a2, rfl, h2, by omega, q⟩
theorem lwhole_ok (B : Blt mg) (F : Fun K "_law_whole" "_law_whole" sLWhole f fd) (bG : Binds K fd ["worth"] []) (mG : mg "_law_whole" = some (.ref f)) : ∀ n : Nat, FnOk P w K mg base CX0 n f fd ["worth"] (spWhole n)
  | 0 => by
    have no : ∀ vs H Q E, ¬ spWhole 0 vs H Q E := fun vs H Q E h => by obtain ⟨x, a, _, _, h1, _⟩ := h; omega
    exact ⟨fun vs H Q E h => absurd h (no vs H Q E), fun A outer s H args us vs Q E _ _ _ _ h => absurd h (no vs H Q E)⟩
  | n + 1 => ok_lwhole B F (lwhole_ok B F bG mG n) bG mG
end
end K4
set_option Elab.async false
set_option linter.all false
set_option maxRecDepth 100000
set_option maxHeartbeats 4100000
namespace L2
open PySem
def W.join : W → W → Option W
  | .non, b => some b
  | a, .non => some a
  | .tag x, .tag y => if x = y then some (.tag x) else none
  | .pair a b, .pair c d => match a.join c, b.join d with
    | some e, some g => some (.pair e g)
    | _, _ => none
  | _, _ => none
def W.sim : W → W → Bool
  | .non, _ => true
  | _, .non => true
  | .tag _, .tag _ => true
  | .pair a b, .pair c d => a.sim c && b.sim d
  | _, _ => false
def W.sh : W → Prop
  | .non => True
  | .tag x => x.length ≤ 8
  | .pair a b => a.sh ∧ b.sh
theorem has_mkpair {H : Hp} {p : Addr} {u v : V} {a b : W} (hp : H p = some (.tup [u, v])) (hu : Has H u a.dat) (hv : Has H v b.dat) : Has H (.ref p) (W.pair a b).dat := by
  unfold W.dat Has
  exact ⟨p, _, rfl, hp, HasL.cons hu (HasL.one hv)⟩
end L2
namespace K4
open PySem L2
theorem scJoined : FnScope ["one", "other"] ["one", "other"] (defScope sJoined) := ⟨rfl, rfl, rfl, by decide +kernel, rfl, by decide +kernel, by decide +kernel⟩
section
variable {P : Program} {w : World} {K : PySem.W.Frag} {mg : Str → Option Value} {base : Heap} {f C : Addr} {fd : FuncData}
def spJoin (C : Addr) (n : Nat) : Sp := fun vs H Q E => ∃ (x y : V) (a b : W), vs = [x, y] ∧ Has H x a.dat ∧ Has H y b.dat ∧ a.dep < n ∧ a.sim b = true ∧ a.sh ∧ b.sh ∧
  (∀ c, a.join b = some c → ∀ (u : V) (H' : Hp), Same H H' → Has H' u c.dat → Q u H') ∧ (a.join b = none → ∀ H', Same H H' → E (.ref C) none H')
theorem ok_joined {n : Nat} (B : Blt mg) (hm : mg "NoWorth" = some (.ref C)) (hC : IsX K C) (F : Fun K "joined" "joined" sJoined f fd) (G : FnOk P w K mg base (CX1 P w) (n + 3) f fd ["one", "other"] (spJoin C n)) (bG : Binds K fd ["one", "other"] []) (mG : mg "joined" = some (.ref f)) :
    FnOk P w K mg base (CX1 P w) (n + 1 + 3) f fd ["one", "other"] (spJoin C (n + 1)) := by
  refine F.okX scJoined (fun vs H Q E h => ?_) (fun cdv A outer s H vs Q E hr h => ?_)
  · obtain ⟨x, y, a, b, rfl, _⟩ := h
    rfl
  obtain ⟨x, y, a, b, rfl, hx, hy, hd, hs, sa, sb, q, qe⟩ := h
  have hr1 := hr.mono (show n + 1 ≤ n + 3 by omega)
  have ps : Passes (CX1 P w) (cxOf (CX1 P w) P w K mg base ["one", "other"] "joined" (defScope sJoined) f cdv A outer s H E) E := lets_cx.passes rfl
  refine ⟨_, pss_cons (ps_if (pt_cmpR op_isN (pv 0) pe_non (nomark _)) (pss_one (ps_ret (pv 1))) pss_nil)
    (pss_cons (ps_if (pt_cmpR op_isN (pv 1) pe_non (nomark _)) (pss_one (ps_ret (pv 0))) pss_nil)
    (pss_cons (ps_if (PW.pt (pw_and (pt_val (pe_isi rfl B.isi rfl B.tuple boot_tuple' (pv 0))) (pw_and1 (pt_val (pe_isi rfl B.isi rfl B.tuple boot_tuple' (pv 1))))))
      (pss_one (ps_ret (pe_tup (pa_cons (pe_call G hr rfl mG F.kp bG .nil ps (pa_cons (pe_ix ix_tup (pv 0) pe_int (fun _ _ => rfl)) (pa_cons (pe_ix ix_tup (pv 1) pe_int (fun _ _ => rfl)) pa_nil)))
        (pa_cons (pe_call G hr rfl mG F.kp bG .nil ps (pa_cons (pe_ix ix_tup (pv 0) pe_int (fun _ _ => rfl)) (pa_cons (pe_ix ix_tup (pv 1) pe_int (fun _ _ => rfl)) pa_nil))) pa_nil))))) pss_nil)
    (pss_cons (ps_if (pt_cmpR (op_neD hr1) (pv 0) (pv 1) (nomark _))
      (pss_one (ps_raise lets_cx rfl rfl rfl hm hC (pa_cons (pe_joined (.cons pe_str (.cons (pe_fmt (pv 0)) (.cons pe_str (.cons (pe_fmt (pv 1)) (.cons pe_str .nil)))))) pa_nil))) pss_nil)
    (pss_one (ps_ret (pv 0)))))), ?_⟩
  have tX := has_ty (K := K) hx
  have tY := has_ty (K := K) hy
  refine ⟨_, rfl, rfl, _, rfl, ?_⟩
  cases a with
  | non =>
    have ex : x = .non := by unfold W.dat Has at hx; exact hx
    subst ex
    refine iteP rfl ?_
    exact ⟨_, rfl, q b (by unfold W.join; rfl) _ _ (Same.refl _) hy⟩
  | tag t =>
    have ex : x = .str t := by unfold W.dat Has at hx; exact hx
    subst ex
    refine iteM (by simp) ?_
    refine ⟨_, rfl, rfl, _, rfl, ?_⟩
    cases b with
    | non =>
      have ey : y = .non := by unfold W.dat Has at hy; exact hy
      subst ey
      refine iteP rfl ?_
      exact ⟨_, rfl, q (.tag t) (by unfold W.join; rfl) _ _ (Same.refl _) hx⟩
    | pair b1 b2 => unfold W.sim at hs; cases hs
    | tag t' =>
      have ey : y = .str t' := by unfold W.dat Has at hy; exact hy
      subst ey
      refine iteM (by simp) ?_
      refine ⟨_, rfl, _, _, _, _, rfl, tX, kit_of K _ (by simp), _, rfl, ?_⟩
      refine iteM (by simp [isD, tyD, W.dat]) ?_
      refine iteM (by simp) ?_
      refine ⟨_, rfl, _, rfl, _, _, hx, hy, by rw [W.dat_dep]; exact Nat.zero_le _, _, rfl, ?_⟩
      have e : (W.tag t).dat.pq (W.tag t').dat = (t == t') := by unfold W.dat Dat.pq; rfl
      rw [e]
      by_cases ee : t = t'
      · subst ee
        refine iteM (by simp) ?_
        exact ⟨_, rfl, q (.tag t) (by unfold W.join; simp) _ _ (Same.refl _) hx⟩
      · refine iteP (by simp [ee]) ?_
        have l1 : t.length ≤ 8 := sa
        have l2 : t'.length ≤ 8 := sb
        have b1 : (Str.empty ++ ("no worth has both " : Str)).length = 18 := by decide
        have b2 : ((Str.empty ++ ("no worth has both " : Str)) ++ t).length ≤ 26 := by rw [strLen_append]; omega
        have b3 : (((Str.empty ++ ("no worth has both " : Str)) ++ t) ++ (" and " : Str)).length ≤ 31 := by
          rw [strLen_append]
          have : (" and " : Str).length = 5 := by decide
          omega
        have b4 : ((((Str.empty ++ ("no worth has both " : Str)) ++ t) ++ (" and " : Str)) ++ t').length ≤ 39 := by rw [strLen_append]; omega
        have b5 : (((((Str.empty ++ ("no worth has both " : Str)) ++ t) ++ (" and " : Str)) ++ t') ++ (" under it" : Str)).length ≤ 48 := by
          rw [strLen_append]
          have : (" under it" : Str).length = 9 := by decide
          omega
        refine ⟨_, rfl, Nat.le_of_lt (small1000 (by omega)), _, rfl, t, rfl, by omega, _, rfl, Nat.le_of_lt (small1000 (by omega)), _, rfl, Nat.le_of_lt (small1000 (by omega)), _, rfl, t', rfl, by omega, _, rfl, Nat.le_of_lt (small1000 (by omega)), _, rfl, Nat.le_of_lt (small1000 (by omega)), ?_⟩
        exact ⟨by show 1 ≤ sizeLine; decide, qe (by unfold W.join; rw [if_neg ee]) _ (Same.refl _)⟩
  | pair a1 a2 =>
    obtain ⟨p, x1, x2, rfl, hp, h1, h2⟩ := has_pair hx
    refine iteM (by simp) ?_
    refine ⟨_, rfl, rfl, _, rfl, ?_⟩
    have hd' : 1 + max a1.dep a2.dep < n + 1 := hd
    have m1 := Nat.le_max_left a1.dep a2.dep
    have m2 := Nat.le_max_right a1.dep a2.dep
    cases b with
    | non =>
      have ey : y = .non := by unfold W.dat Has at hy; exact hy
      subst ey
      refine iteP rfl ?_
      exact ⟨_, rfl, q (.pair a1 a2) (by unfold W.join; rfl) _ _ (Same.refl _) hx⟩
    | tag t => unfold W.sim at hs; cases hs
    | pair b1 b2 =>
      obtain ⟨p', y1, y2, rfl, hp', k1, k2⟩ := has_pair hy
      refine iteM (by simp) ?_
      refine ⟨_, rfl, _, _, _, _, rfl, tX, kit_of K _ (by simp), _, rfl, ?_⟩
      refine iteP (by simp [isD, tyD, W.dat]) ?_
      refine ⟨_, rfl, _, _, _, _, rfl, tY, kit_of K _ (by simp), _, rfl, ?_⟩
      refine iteP (by simp [isD, tyD, W.dat]) ?_
      have hs' : (a1.sim b1 && a2.sim b2) = true := by conv at hs => lhs; unfold W.sim
                                                       exact hs
      rw [Bool.and_eq_true] at hs'
      have ej : (W.pair a1 a2).join (W.pair b1 b2) = match a1.join b1, a2.join b2 with | some e, some g => some (.pair e g) | _, _ => none := by conv => lhs; unfold W.join
      refine ⟨_, rfl, p, _, 0, _, rfl, rfl, SqT.of hp, rfl, _, rfl, p', _, 0, _, rfl, rfl, SqT.of hp', rfl, x1, y1, a1, b1, rfl, h1, k1, by omega, hs'.1, sa.1, sb.1, fun c1 e1 u1 H1 s1 g1 => ?_, fun e1 H1 s1 => ?_⟩
      · refine ⟨_, rfl, p, _, 1, _, rfl, rfl, SqT.of (s1 _ _ hp), rfl, _, rfl, p', _, 1, _, rfl, rfl, SqT.of (s1 _ _ hp'), rfl, x2, y2, a2, b2, rfl, h2.mono s1, k2.mono s1, by omega, hs'.2, sa.2, sb.2, fun c2 e2 u2 H2 s2 g2 => ?_, fun e2 H2 s2 => ?_⟩
        · refine ⟨by show 2 ≤ sizeLine; decide, fun t ht => ?_⟩
          have s3 := same_upd ht (.tup [u1, u2])
          exact q (.pair c1 c2) (by rw [ej, e1, e2]) _ _ ((s1.trans s2).trans s3) (has_mkpair upd_same ((g1.mono s2).mono s3) (g2.mono s3))
        · exact qe (by rw [ej, e1, e2]) _ (s1.trans s2)
      · exact qe (by rw [ej, e1]) _ s1
theorem joined_ok (B : Blt mg) (hm : mg "NoWorth" = some (.ref C)) (hC : IsX K C) (F : Fun K "joined" "joined" sJoined f fd) (bG : Binds K fd ["one", "other"] []) (mG : mg "joined" = some (.ref f)) : ∀ n : Nat, FnOk P w K mg base (CX1 P w) (n + 3) f fd ["one", "other"] (spJoin C n)
  | 0 => by
    have no : ∀ vs H Q E, ¬ spJoin C 0 vs H Q E := fun vs H Q E h => by obtain ⟨x, y, a, b, _, _, _, h1, _⟩ := h; omega
    exact ⟨fun vs H Q E h => absurd h (no vs H Q E), fun A outer s H args us vs Q E _ _ _ _ h => absurd h (no vs H Q E)⟩
  | n + 1 => ok_joined B hm hC F (joined_ok B hm hC F bG mG n) bG mG
end
end K4
set_option Elab.async false
set_option linter.all false
set_option maxRecDepth 100000
set_option maxHeartbeats 4100000
namespace L2
open PySem
def aboveW (ws : List W) (a b : W) : List W := ws.filter fun c => a.under c && b.under c
def leastW (ws : List W) (a b : W) : Option W := (aboveW ws a b).find? fun c => (aboveW ws a b).all fun d => c.under d
def optB : Option W → Bool
  | some _ => true
  | none => false
def optW : Option W → W
  | some c => c
  | none => .non
theorem filter_snoc {α : Type} (p : α → Bool) {l : List α} {i : Nat} {a : α} (h : l[i]? = some a) : (l.take (i + 1)).filter p = (l.take i).filter p ++ (if p a = true then [a] else []) := by
  rw [take_snoc h, List.filter_append]
  congr 1
  cases e : p a <;> simp [e]
theorem hasL_getW {H : Hp} {xs : List V} {ws : List W} (h : HasL H xs (ws.map W.dat)) {i : Nat} {x : V} (e : xs[i]? = some x) : ∃ c, ws[i]? = some c ∧ Has H x c.dat := by
  obtain ⟨d, hd, hx⟩ := h.get e
  rw [List.getElem?_map] at hd
  cases hw : ws[i]? with
  | none => rw [hw] at hd; cases hd
  | some c => rw [hw] at hd; cases hd; exact ⟨c, rfl, hx⟩
theorem find_at {α : Type} {p : α → Bool} : ∀ {l : List α} {i : Nat} {a : α}, l[i]? = some a → (∀ j b, j < i → l[j]? = some b → p b = false) → p a = true → l.find? p = some a
  | [], i, a, e, _, _ => by simp at e
  | b :: l, 0, a, e, _, h => by
    have e' : some b = some a := e
    cases e'
    rw [List.find?_cons, h]
  | b :: l, i + 1, a, e, hn, h => by
    have hb := hn 0 b (Nat.succ_pos _) rfl
    rw [List.find?_cons, hb]
    exact find_at (i := i) (by simpa using e) (fun j c hj ej => hn (j + 1) c (by omega) (by simpa using ej)) h
theorem find_no {α : Type} {p : α → Bool} {l : List α} (hn : ∀ j b, j < l.length → l[j]? = some b → p b = false) : l.find? p = none := by
  rw [List.find?_eq_none]
  intro a ha
  obtain ⟨j, hj, e⟩ := List.mem_iff_getElem.mp ha
  rw [hn j a hj (by rw [List.getElem?_eq_getElem hj, e])]
  simp
end L2
namespace K4
open PySem L2
theorem scLeast : FnScope ["worths", "one", "other", "above", "worth"] ["worths", "one", "other"] (defScope sLeast) := ⟨rfl, rfl, rfl, by decide +kernel, rfl, by decide +kernel, by decide +kernel⟩
theorem nd_woo : List.Nodup [("worth" : Str), "one", "other"] := by decide +kernel
theorem nd_ew : List.Nodup [("extra" : Str), "worth"] := by decide +kernel
section
variable {P : Program} {w : World} {K : PySem.W.Frag} {mg : Str → Option Value} {base : Heap} {f gu : Addr} {fd ud : FuncData}
def spLeast (n : Nat) : Sp := fun vs H Q _ => ∃ (l : Addr) (x y : V) (xs : List V) (ws : List W) (a b : W), vs = [.ref l, x, y] ∧ H l = some (.lst xs) ∧ HasL H xs (ws.map W.dat) ∧ ws.length ≤ 100 ∧ Has H x a.dat ∧ Has H y b.dat ∧ a.dep < n ∧ b.dep < n ∧ (∀ c ∈ ws, c.dep < n) ∧
  ∀ (r : Addr) (u : V) (H' : Hp), Same H H' → H' r = some (.tup [.bl (optB (leastW ws a b)), u]) → Has H' u (optW (leastW ws a b)).dat → Q (.ref r) H'
theorem ok_least {n m : Nat} (B : Blt mg) (F : Fun K "_law_least_above" "_law_least_above" sLeast f fd) (GU : FnOk P w K mg base CX0 m gu ud ["one", "other"] (spUnder n)) (bU : Binds K ud ["one", "other"] []) (kU : PySem.W.keepIn K (.ref gu) = true) (mU : mg "_law_under" = some (.ref gu)) :
    FnOk P w K mg base CX0 (m + 1) f fd ["worths", "one", "other"] (spLeast n) := by
  refine F.ok scLeast (fun vs H Q E h => ?_) (fun cdv A outer s H vs Q E hr h => ?_)
  · obtain ⟨l, x, y, xs, ws, a, b, rfl, _⟩ := h
    rfl
  obtain ⟨l, x, y, xs, ws, a, b, rfl, hl, hxs, hz, hx, hy, da, db, dw, q⟩ := h
  refine ⟨_, pss_cons (ps_cmpi (i0 := 3) ["worth"] [1, 2] scLeast.nd rfl (Or.inl rfl) (pi_list (pv 0)) (gk_name (i := 0) (by decide)) (fun cl C fp s H => pg_name (i := 0) nd_woo rfl (Or.inl rfl) (Or.inr rfl))
      (fun cl C fp s H => PW.pt (pw_and (pt_val (pe_call GU hr rfl mU kU bU .nil pass0 (pa_cons (pv 1) (pa_cons (pv 0) pa_nil)))) (pw_and1 (pt_val (pe_call GU hr rfl mU kU bU .nil pass0 (pa_cons (pv 2) (pa_cons (pv 0) pa_nil))))))) (fun cl C fp s H => pv 0))
    (pss_cons (ps_for PassesOwn.never rfl (pi_list (pv 3)) (pg_name (i := 4) scLeast.nd rfl (Or.inr rfl))
      (pss_one (ps_if (pt_val (pe_callB (call_all rfl) rfl B.all boot_all' (pa_cons (pe_cmpr ["extra"] [4] (pi_list (pv 3)) (gk_name (i := 0) (by decide)) (fun cl C fp s H => pg_name (i := 0) nd_ew rfl (Or.inl rfl) (Or.inr rfl))
          (fun cl C fp s H => pe_call GU hr rfl mU kU bU .nil pass0 (pa_cons (pv 1) (pa_cons (pv 0) pa_nil)))) pa_nil)))
        (pss_one (ps_ret (pe_tup (pa_cons pe_bl (pa_cons (pv 4) pa_nil))))) pss_nil)))
    (pss_one (ps_ret (pe_tup (pa_cons pe_bl (pa_cons pe_non pa_nil)))))), ?_⟩
  have lx := hxs.length
  rw [List.length_map] at lx
  refine ⟨_, rfl, l, rfl, ⟨_, SqL.of hl⟩, ?_⟩
  let pr : W → Bool := fun c => a.under c && b.under c
  refine comp_formI xs.length (small1000 (by omega)) (fun i vs H' => Same H H' ∧ vs.length ≤ i ∧ HasL H' vs (((ws.take i).filter pr).map W.dat)) ⟨Same.refl _, Nat.le_refl _, by rw [List.take_zero]; exact HasL.nil⟩ (fun i vs H' z => z.2.1) ?_ ?_ ?_ ?_
  · intro i vs H' hi z
    exact ⟨xs, xs[i], SqL.of (z.1 _ _ hl), by simp [hi]⟩
  · intro vs H' z
    exact ⟨xs, SqL.of (z.1 _ _ hl), Nat.le_refl _⟩
  · intro i vs H' v H'' R hi z yl hR1 hR2
    obtain ⟨rfl, y'⟩ := yl
    have e1 := y' xs (SqL.of (z.1 _ _ hl))
    obtain ⟨c, hc, hv⟩ := hasL_getW hxs e1
    have hv' := hv.mono z.1
    have snoc := filter_snoc pr hc
    refine ⟨_, rfl, _, rfl, x, v, a, c, rfl, hx.mono z.1, hv', da, _, rfl, ?_⟩
    cases e2 : a.under c with
    | false =>
      refine iteM (by simp) ?_
      refine iteM (by simp) (hR2 _ ⟨z.1, by omega, ?_⟩)
      have ep : pr c = false := by show (a.under c && b.under c) = false; rw [e2]; rfl
      rw [snoc, ep, if_neg (by simp), List.append_nil]
      exact z.2.2
    | true =>
      refine iteP rfl ?_
      refine ⟨_, rfl, _, rfl, y, v, b, c, rfl, hy.mono z.1, hv', db, _, rfl, ?_⟩
      have ep : pr c = b.under c := by show (a.under c && b.under c) = _; rw [e2]; rfl
      cases e3 : b.under c with
      | false =>
        refine iteM (by simp) (hR2 _ ⟨z.1, by omega, ?_⟩)
        rw [snoc, ep, e3, if_neg (by simp), List.append_nil]
        exact z.2.2
      | true =>
        refine iteP rfl ⟨_, rfl, hR1 _ _ ⟨z.1, by rw [List.length_append, List.length_singleton]; omega, ?_⟩⟩
        rw [snoc, ep, e3, if_pos rfl, List.map_append]
        exact HasL.append z.2.2 (HasL.one hv')
  · intro vs H1 pl z hpl
    obtain ⟨z1, z2, z3⟩ := z
    have hab : HasL H1 vs ((aboveW ws a b).map W.dat) := by
      have e : (ws.take xs.length).filter pr = aboveW ws a b := by rw [lx, List.take_length]; rfl
      rw [e] at z3; exact z3
    have sP := same_upd hpl (.lst vs)
    have hab' := hab.mono sP
    have hpl' : upd H1 pl (.lst vs) pl = some (.lst vs) := upd_same
    have s01 := z1.trans sP
    generalize upd H1 pl (.lst vs) = HL at hab' hpl' s01 ⊢
    have lv := hab'.length
    rw [List.length_map] at lv
    have inA : ∀ c ∈ aboveW ws a b, c.dep < n := fun c hc => dw c (List.mem_filter.mp hc).1
    refine ⟨_, rfl, pl, rfl, ⟨_, SqL.of hpl'⟩, ?_⟩
    refine for_list (xs := vs) (fun i σ H' => Same HL H' ∧ (∃ z4, σ = [some (.ref l), some x, some y, some (.ref pl), z4]) ∧ ∀ j c, j < i → (aboveW ws a b)[j]? = some c → ((aboveW ws a b).all fun d => c.under d) = false) ?_ ?_ ?_ ?_
    · exact ⟨Same.refl _, ⟨_, rfl⟩, fun j c hj => absurd hj (Nat.not_lt_zero _)⟩
    · rintro i σ H' _ ⟨sj, _⟩
      exact SqL.of (sj _ _ hpl')
    · rintro i v σ H' hv ⟨sj, ⟨z4, rfl⟩, no⟩
      obtain ⟨c, hc, hcv⟩ := hasL_getW hab' hv
      have dc := inA c (List.mem_of_getElem? hc)
      refine ⟨_, rfl, pl, rfl, ⟨_, SqL.of (sj _ _ hpl')⟩, ?_⟩
      refine comp_form vs.length (small1000 (by omega)) (fun k us H2 => Same H' H2 ∧ k ≤ vs.length ∧ us = (((aboveW ws a b).take k).map fun d => c.under d).map V.bl) ⟨Same.refl _, Nat.zero_le _, rfl⟩ (fun k us H2 z => ?_) ?_ ?_ ?_ ?_
      · rw [z.2.2, List.length_map, List.length_map, List.length_take]
        have := z.2.1
        omega
      · intro k us H2 hk z
        exact ⟨vs, vs[k], SqL.of (z.1 _ _ (sj _ _ hpl')), by simp [hk]⟩
      · intro us H2 z
        exact ⟨vs, SqL.of (z.1 _ _ (sj _ _ hpl')), Nat.le_refl _⟩
      · intro k us H2 v2 H3 R hk z yl hR
        obtain ⟨rfl, y'⟩ := yl
        have e1 := y' vs (SqL.of (z.1 _ _ (sj _ _ hpl')))
        obtain ⟨d, hd, hdv⟩ := hasL_getW hab' e1
        refine ⟨_, rfl, _, rfl, v, v2, c, d, rfl, (hcv.mono sj).mono z.1, (hdv.mono sj).mono z.1, dc, hR _ _ ⟨z.1, hk, ?_⟩⟩
        rw [z.2.2, take_snoc hd, List.map_append, List.map_append]; rfl
      · intro us H2 pa z hpa
        have sA := same_upd hpa (.lst us)
        refine ⟨pa, ((aboveW ws a b).map fun d => c.under d), rfl, SqL.of (by rw [upd_same, z.2.2, lv, List.take_length]), _, rfl, ?_⟩
        have ea : ((aboveW ws a b).map fun d => c.under d).all id = (aboveW ws a b).all fun d => c.under d := by rw [List.all_map]; rfl
        rw [ea]
        have s2 := (sj.trans z.1).trans sA
        cases e2 : (aboveW ws a b).all fun d => c.under d with
        | true =>
          refine iteP rfl ?_
          refine ⟨_, rfl, by show 2 ≤ sizeLine; decide, fun t ht => ?_⟩
          have s3 := same_upd ht (.tup [.bl true, v])
          have el : leastW ws a b = some c := find_at hc no e2
          exact q t v _ ((s01.trans s2).trans s3) (by rw [upd_same, el]; rfl) (by rw [el]; exact (hcv.mono s2).mono s3)
        | false =>
          refine iteM (by simp) ⟨s2, ⟨_, rfl⟩, fun j c' hj hc' => ?_⟩
          by_cases e : j = i
          · subst e
            rw [hc] at hc'; cases hc'; exact e2
          · exact no j c' (by omega) hc'
    · rintro σ H' ⟨sj, ⟨z4, rfl⟩, no⟩
      refine ⟨by show 2 ≤ sizeLine; decide, fun t ht => ?_⟩
      have s3 := same_upd ht (.tup [.bl false, .non])
      have el : leastW ws a b = none := find_no (fun j c hj => no j c (by omega))
      exact q t .non _ ((s01.trans sj).trans s3) (by rw [upd_same, el]; rfl) (by rw [el]; exact has_non)
end
end K4
set_option Elab.async false
set_option linter.all false
set_option maxRecDepth 100000
set_option maxHeartbeats 4100000
namespace L2
open PySem
theorem W.under_refl : ∀ a : W, a.under a = true
  | .non => by unfold W.under; rfl
  | .tag x => by unfold W.under; exact beq_self_eq_true x
  | .pair a b => by unfold W.under; rw [W.under_refl a, W.under_refl b]; rfl
theorem under_pp (a b c d : W) : (W.pair a b).under (.pair c d) = (a.under c && b.under d) := by conv => lhs; unfold W.under
theorem join_pp (a b c d : W) : (W.pair a b).join (.pair c d) = match a.join c, b.join d with | some e, some g => some (.pair e g) | _, _ => none := by
  conv => lhs; unfold W.join
  all_goals (cases a.join c <;> cases b.join d <;> rfl)
theorem W.under_anti : ∀ (a b : W), a.under b = true → b.under a = true → a = b
  | .non, .non, _, _ => rfl
  | .non, .tag _, _, h => by unfold W.under at h; cases h
  | .non, .pair _ _, _, h => by unfold W.under at h; cases h
  | .tag _, .non, h, _ => by unfold W.under at h; cases h
  | .tag x, .tag y, h, _ => by unfold W.under at h; rw [beq_iff_eq.mp h]
  | .tag _, .pair _ _, h, _ => by unfold W.under at h; cases h
  | .pair _ _, .non, h, _ => by unfold W.under at h; cases h
  | .pair _ _, .tag _, h, _ => by unfold W.under at h; cases h
  | .pair a b, .pair c d, h, h' => by
    rw [under_pp, Bool.and_eq_true] at h h'
    rw [W.under_anti a c h.1 h'.1, W.under_anti b d h.2 h'.2]
theorem W.join_up : ∀ (a b c : W), a.join b = some c → a.under c = true ∧ b.under c = true
  | .non, b, c, h => by
    have e : b = c := by unfold W.join at h; exact Option.some.inj h
    subst e
    exact ⟨by unfold W.under; rfl, W.under_refl b⟩
  | .tag x, .non, c, h => by
    have e : W.tag x = c := by unfold W.join at h; exact Option.some.inj h
    subst e
    exact ⟨W.under_refl _, by unfold W.under; rfl⟩
  | .tag x, .tag y, c, h => by
    unfold W.join at h
    split at h
    · rename_i e; subst e; cases h; exact ⟨W.under_refl _, W.under_refl _⟩
    · cases h
  | .tag _, .pair _ _, c, h => by unfold W.join at h; cases h
  | .pair a b, .non, c, h => by
    have e : W.pair a b = c := by unfold W.join at h; exact Option.some.inj h
    subst e
    exact ⟨W.under_refl _, by unfold W.under; rfl⟩
  | .pair _ _, .tag _, c, h => by unfold W.join at h; cases h
  | .pair a b, .pair c d, r, h => by
    rw [join_pp] at h
    cases e1 : a.join c with
    | none => rw [e1] at h; cases h
    | some e =>
      cases e2 : b.join d with
      | none => rw [e1, e2] at h; cases h
      | some g =>
        rw [e1, e2] at h
        cases h
        obtain ⟨u1, u2⟩ := W.join_up a c e e1
        obtain ⟨v1, v2⟩ := W.join_up b d g e2
        rw [under_pp, under_pp, u1, u2, v1, v2]
        exact ⟨rfl, rfl⟩
theorem W.join_of : ∀ (a b d : W), a.under d = true → b.under d = true → ∃ c, a.join b = some c ∧ c.under d = true
  | .non, b, d, _, h => ⟨b, by unfold W.join; rfl, h⟩
  | .tag x, .non, d, h, _ => ⟨.tag x, by unfold W.join; rfl, h⟩
  | .tag x, .tag y, d, h, h' => by
    cases d with
    | tag z =>
      unfold W.under at h h'
      have e1 := beq_iff_eq.mp h
      have e2 := beq_iff_eq.mp h'
      subst e1; subst e2
      exact ⟨_, by unfold W.join; rw [if_pos rfl], W.under_refl _⟩
    | non => unfold W.under at h; cases h
    | pair _ _ => unfold W.under at h; cases h
  | .tag x, .pair _ _, d, h, h' => by
    cases d with
    | tag z => unfold W.under at h'; cases h'
    | non => unfold W.under at h; cases h
    | pair _ _ => unfold W.under at h; cases h
  | .pair a b, .non, d, h, _ => ⟨.pair a b, by unfold W.join; rfl, h⟩
  | .pair a b, .tag _, d, h, h' => by
    cases d with
    | tag z => unfold W.under at h; cases h
    | non => unfold W.under at h; cases h
    | pair _ _ => unfold W.under at h'; cases h'
  | .pair a b, .pair c e, d, h, h' => by
    cases d with
    | tag z => unfold W.under at h; cases h
    | non => unfold W.under at h; cases h
    | pair u v =>
      rw [under_pp, Bool.and_eq_true] at h h'
      obtain ⟨r, r1, r2⟩ := W.join_of a c u h.1 h'.1
      obtain ⟨t, t1, t2⟩ := W.join_of b e v h.2 h'.2
      exact ⟨.pair r t, by rw [join_pp, r1, t1], by rw [under_pp, r2, t2]; rfl⟩
theorem least_join {ws : List W} {a b : W} (hc : ∀ c, a.join b = some c → c ∈ ws) : leastW ws a b = a.join b := by
  cases e : a.join b with
  | some c =>
    obtain ⟨u1, u2⟩ := W.join_up a b c e
    have hm : c ∈ aboveW ws a b := List.mem_filter.mpr ⟨hc c e, by rw [u1, u2]; rfl⟩
    have lo : ((aboveW ws a b).all fun d => c.under d) = true := by
      rw [List.all_eq_true]
      intro d hd
      have z := (List.mem_filter.mp hd).2
      rw [Bool.and_eq_true] at z
      obtain ⟨c', e', u'⟩ := W.join_of a b d z.1 z.2
      rw [e] at e'; cases e'; exact u'
    unfold leastW
    cases ef : (aboveW ws a b).find? fun c => (aboveW ws a b).all fun d => c.under d with
    | none => exact absurd lo (by have := List.find?_eq_none.mp ef c hm; simpa using this)
    | some g =>
      have hg := List.find?_some ef
      have hgm := List.mem_of_find?_eq_some ef
      have z1 : g.under c = true := List.all_eq_true.mp hg c hm
      have z2 : c.under g = true := List.all_eq_true.mp lo g hgm
      rw [W.under_anti g c z1 z2]
  | none =>
    unfold leastW
    rw [List.find?_eq_none]
    intro d hd
    have z := (List.mem_filter.mp hd).2
    rw [Bool.and_eq_true] at z
    obtain ⟨c', e', _⟩ := W.join_of a b d z.1 z.2
    rw [e] at e'; cases e'
theorem mem_worths {ks : List (Str × Shp)} {n : Nat} {y : Str} {s : Shp} {u : W} (hs : shOf ks y = some s) : u ∈ worths ks (n + 1) y ↔ u = .non ∨ (∃ ts t, s = .tags ts ∧ t ∈ ts ∧ u = .tag t) ∨ ∃ a b u1 u2, s = .pair a b ∧ u1 ∈ worths ks n a ∧ u2 ∈ worths ks n b ∧ u = .pair u1 u2 := by
  rw [worths_eq hs]
  cases s with
  | tags ts =>
    show u ∈ W.non :: ts.map W.tag ↔ _
    rw [List.mem_cons, List.mem_map]
    constructor
    · rintro (h | ⟨t, h1, h2⟩)
      · exact .inl h
      · exact .inr (.inl ⟨ts, t, rfl, h1, h2.symm⟩)
    · rintro (h | ⟨ts', t, h0, h1, h2⟩ | ⟨a, b, u1, u2, h0, _⟩)
      · exact .inl h
      · cases h0; exact .inr ⟨t, h1, h2.symm⟩
      · cases h0
  | pair a b =>
    show u ∈ W.non :: (worths ks n a).flatMap (fun u => (worths ks n b).map fun v => .pair u v) ↔ _
    rw [List.mem_cons, List.mem_flatMap]
    constructor
    · rintro (h | ⟨u1, h1, h2⟩)
      · exact .inl h
      · obtain ⟨u2, h3, h4⟩ := List.mem_map.mp h2
        exact .inr (.inr ⟨a, b, u1, u2, rfl, h1, h3, h4.symm⟩)
    · rintro (h | ⟨ts', t, h0, _⟩ | ⟨a', b', u1, u2, h0, h1, h2, h3⟩)
      · exact .inl h
      · cases h0
      · cases h0; exact .inr ⟨u1, h1, List.mem_map.mpr ⟨u2, h2, h3.symm⟩⟩
theorem worths_none {ks : List (Str × Shp)} {n : Nat} {y : Str} {u : W} (h : u ∈ worths ks n y) : ∃ m s, n = m + 1 ∧ shOf ks y = some s := by
  cases n with
  | zero => unfold worths at h; simp at h
  | succ m =>
    cases e : shOf ks y with
    | none => unfold worths at h; rw [e] at h; simp at h
    | some s => exact ⟨m, s, rfl, rfl⟩
theorem worths_join {ks : List (Str × Shp)} : ∀ (n : Nat) (y : Str) (a b c : W), a ∈ worths ks n y → b ∈ worths ks n y → a.join b = some c → c ∈ worths ks n y
  | 0, y, a, b, c, ha, _, _ => by unfold worths at ha; simp at ha
  | n + 1, y, a, b, c, ha, hb, h => by
    obtain ⟨m, s, _, hs⟩ := worths_none ha
    rcases (mem_worths hs).mp ha with rfl | ⟨ts, t, es, ht, rfl⟩ | ⟨a', b', u1, u2, es, h1, h2, rfl⟩
    · have e : b = c := by unfold W.join at h; exact Option.some.inj h
      exact e ▸ hb
    · rcases (mem_worths hs).mp hb with rfl | ⟨ts', t', es', ht', rfl⟩ | ⟨a'', b'', v1, v2, es', g1, g2, rfl⟩
      · have e : W.tag t = c := by unfold W.join at h; exact Option.some.inj h
        exact e ▸ ha
      · unfold W.join at h
        split at h
        · cases h; exact ha
        · cases h
      · unfold W.join at h; cases h
    · rcases (mem_worths hs).mp hb with rfl | ⟨ts', t', es', ht', rfl⟩ | ⟨a'', b'', v1, v2, es', g1, g2, rfl⟩
      · have e : W.pair u1 u2 = c := by unfold W.join at h; exact Option.some.inj h
        exact e ▸ ha
      · unfold W.join at h; cases h
      · subst es
        cases es'
        rw [join_pp] at h
        cases e1 : u1.join v1 with
        | none => rw [e1] at h; cases h
        | some e =>
          cases e2 : u2.join v2 with
          | none => rw [e1, e2] at h; cases h
          | some g =>
            rw [e1, e2] at h
            cases h
            exact (mem_worths hs).mpr (.inr (.inr ⟨_, _, e, g, rfl, worths_join n _ _ _ _ h1 g1 e1, worths_join n _ _ _ _ h2 g2 e2, rfl⟩))
theorem W.sim_non (a : W) : a.sim .non = true := by cases a <;> (unfold W.sim; rfl)
theorem worths_sim {ks : List (Str × Shp)} : ∀ (n : Nat) (y : Str) (a b : W), a ∈ worths ks n y → b ∈ worths ks n y → a.sim b = true
  | 0, y, a, b, ha, _ => by unfold worths at ha; simp at ha
  | n + 1, y, a, b, ha, hb => by
    obtain ⟨m, s, _, hs⟩ := worths_none ha
    rcases (mem_worths hs).mp ha with rfl | ⟨ts, t, es, ht, rfl⟩ | ⟨a', b', u1, u2, es, h1, h2, rfl⟩
    · unfold W.sim; rfl
    · rcases (mem_worths hs).mp hb with rfl | ⟨ts', t', es', ht', rfl⟩ | ⟨a'', b'', v1, v2, es', g1, g2, rfl⟩
      · exact W.sim_non _
      · unfold W.sim; rfl
      · rw [es] at es'; cases es'
    · rcases (mem_worths hs).mp hb with rfl | ⟨ts', t', es', ht', rfl⟩ | ⟨a'', b'', v1, v2, es', g1, g2, rfl⟩
      · exact W.sim_non _
      · rw [es] at es'; cases es'
      · rw [es] at es'; cases es'
        unfold W.sim
        rw [worths_sim n _ _ _ h1 g1, worths_sim n _ _ _ h2 g2]; rfl
theorem worths_sh {ks : List (Str × Shp)} (g : KG ks) : ∀ (n : Nat) (y : Str) (a : W), a ∈ worths ks n y → a.sh
  | 0, y, a, ha => by unfold worths at ha; simp at ha
  | n + 1, y, a, ha => by
    obtain ⟨m, s, _, hs⟩ := worths_none ha
    rcases (mem_worths hs).mp ha with rfl | ⟨ts, t, es, ht, rfl⟩ | ⟨a', b', u1, u2, es, h1, h2, rfl⟩
    · trivial
    · exact ((g.tags (es ▸ shOf_mem hs)).len t ht).2
    · exact ⟨worths_sh g n _ _ h1, worths_sh g n _ _ h2⟩
def Cut : W → W → Prop
  | _, .non => True
  | .pair a b, .pair c d => (Cut a c ∧ d = b) ∨ (c = a ∧ Cut b d)
  | _, _ => False
theorem worths_cut {ks : List (Str × Shp)} : ∀ (n : Nat) (y : Str) (a c : W), a ∈ worths ks n y → Cut a c → c ∈ worths ks n y
  | 0, y, a, c, ha, _ => by unfold worths at ha; simp at ha
  | n + 1, y, a, c, ha, h => by
    obtain ⟨m, s, _, hs⟩ := worths_none ha
    cases c with
    | non => exact (mem_worths hs).mpr (.inl rfl)
    | tag t => cases a <;> exact h.elim
    | pair c d =>
      cases a with
      | non => exact h.elim
      | tag _ => exact h.elim
      | pair a b =>
        have h' : (Cut a c ∧ d = b) ∨ (c = a ∧ Cut b d) := h
        rcases (mem_worths hs).mp ha with e | ⟨ts, t, es, ht, e⟩ | ⟨a', b', u1, u2, es, h1, h2, e⟩
        · cases e
        · cases e
        · cases e
          subst es
          rcases h' with ⟨k1, rfl⟩ | ⟨rfl, k2⟩
          · exact (mem_worths hs).mpr (.inr (.inr ⟨_, _, c, d, rfl, worths_cut n _ _ _ h1 k1, h2, rfl⟩))
          · exact (mem_worths hs).mpr (.inr (.inr ⟨_, _, c, d, rfl, h1, worths_cut n _ _ _ h2 k2, rfl⟩))
end L2
set_option Elab.async false
set_option linter.all false
set_option maxRecDepth 100000
set_option maxHeartbeats 8000000
namespace L2
open PySem
def rDictP (K : PySem.W.Frag) : List V → Hp → VK → Prop := fun xs H Q => ∃ (p : Addr) (ts : List Addr) (kvs : List (Key × V)), xs = [.ref p] ∧ SqL K H p (ts.map V.ref) ∧ PrsAt K H ts kvs ∧ (kvs.map (·.1)).Nodup ∧ ∀ l, H l = none → Q (.ref l) (upd H l (.dK kvs))
theorem call_dictP {X : Cx} (hc : X.calm = true) : CallR X (.type "dict") (rDictP X.K) := call_dict_pairs hc
theorem SameB.same {p : Addr} {H H' : Hp} (a : SameB p H H') (f : H p = none) : Same H H' := fun b o e => a b o (ne_of_none e f) e
theorem kinds_prs {K : PySem.W.Frag} {H : Hp} : ∀ {ks : List (Str × Shp)} {xs : List V}, HasL H xs (ks.map kindD) → ∃ (ts : List Addr) (kvs : List (Key × V)), xs = ts.map V.ref ∧ PrsAt K H ts kvs ∧ kvs.map (·.1) = ks.map (fun k => Sum.inr k.1) ∧
    ∀ y s, shOf ks y = some s → ∃ v, valV kvs (Sum.inr y) = some v ∧ Has H v s.dat
  | [], xs, h => by
    have l := h.length
    rw [List.map_nil, List.length_nil] at l
    have e : xs = [] := List.length_eq_zero_iff.mp l
    subst e
    exact ⟨[], [], rfl, ⟨rfl, fun i a k y e => by simp at e⟩, rfl, fun y s e => by simp [shOf] at e⟩
  | (z, sh) :: ks, xs, h => by
    match xs, h with
    | [], h => unfold HasL at h; exact h.elim
    | x :: xs, h =>
      rw [List.map_cons] at h
      unfold HasL at h
      obtain ⟨h1, h2⟩ := h
      obtain ⟨a, v, rfl, ha, hv⟩ := has_kind h1
      obtain ⟨ts, kvs, rfl, ⟨tl, tp⟩, ek, hs⟩ := kinds_prs (K := K) h2
      refine ⟨a :: ts, (Sum.inr z, v) :: kvs, rfl, ⟨by simp [tl], fun i b k y e1 e2 => ?_⟩, by rw [List.map_cons, List.map_cons, ek], fun y s e => ?_⟩
      · cases i with
        | zero =>
          have e1' : some a = some b := e1
          have e2' : some ((Sum.inr z : Key), v) = some (k, y) := e2
          cases e1'; cases e2'
          exact SqT.of ha
        | succ i => exact tp i b k y e1 e2
      · unfold shOf at e
        unfold valV
        rw [List.find?_cons] at e ⊢
        by_cases ez : z = y
        · subst ez
          simp only [decide_true] at e ⊢
          have e' : sh = s := Option.some.inj e
          subst e'
          exact ⟨v, rfl, hv⟩
        · have ez' : ¬ (Sum.inr z : Key) = Sum.inr y := fun q => ez (Sum.inr.inj q)
          simp only [ez, ez', decide_false] at e ⊢
          exact hs y s e
theorem keys_nd {ks : List (Str × Shp)} {kvs : List (Key × V)} (e : kvs.map (·.1) = ks.map (fun k => (Sum.inr k.1 : Key))) (h : (ks.map (·.1)).Nodup) : (kvs.map (·.1)).Nodup := by
  rw [e]
  unfold List.Nodup at h ⊢
  rw [List.pairwise_map] at h ⊢
  exact h.imp fun hab q => hab (Sum.inr.inj q)
def ShV (H : Hp) (v : V) : Prop := ∃ (l : Addr) (ks : List (Str × Shp)) (c d : Str → Nat), v = .ref l ∧ Shapes H l ks ∧ KK 30 c d ks ∧ (ks.map (·.1)).Nodup ∧ 0 < ks.length ∧ ks.length ≤ 6 ∧ KG ks
theorem ShV.mono {H H' : Hp} {v : V} (h : ShV H v) (e : Same H H') : ShV H' v := by
  obtain ⟨l, ks, c, d, h1, h2, h3⟩ := h
  exact ⟨l, ks, c, d, h1, h2.mono e, h3⟩
theorem hasW_sb {H H' : Hp} {p : Addr} (b : SameB p H H') (s : Strm H p) : ∀ (w : W) {v : V}, Has H v w.dat → Has H' v w.dat
  | .non, _, h => by unfold W.dat Has at h ⊢; exact h
  | .tag x, _, h => by unfold W.dat Has at h ⊢; exact h
  | .pair a c, _, h => by
    obtain ⟨q, x, y, rfl, hq, h1, h2⟩ := has_pair h
    unfold W.dat Has
    exact ⟨q, [x, y], rfl, b _ _ (tup_ne_strm s hq) hq, HasL.cons (hasW_sb b s a h1) (HasL.one (hasW_sb b s c h2))⟩
theorem KK.small {c d : Str → Nat} {ks : List (Str × Shp)} (h : KK 30 c d ks) {y : Str} (hy : y ∈ ks.map (·.1)) : d y ≤ 2 ∧ c y ≤ 30 := by
  obtain ⟨s, hs⟩ := shOf_of hy
  have k1 := h.at hs
  cases s with
  | tags ts => obtain ⟨h1, h2, h3, h4⟩ := k1; omega
  | pair a b => obtain ⟨h1, h2, h3, h4, h5, h6⟩ := k1; exact ⟨h6, h4⟩
end L2
set_option Elab.async false
set_option linter.all false
set_option maxRecDepth 100000
set_option maxHeartbeats 8000000
namespace L2
open PySem
theorem W.wid_le : ∀ a : W, a.dat.wid ≤ 1000
  | .non => by unfold W.dat Dat.wid; exact Nat.zero_le _
  | .tag _ => by unfold W.dat Dat.wid; exact Nat.zero_le _
  | .pair a b => by
    unfold W.dat Dat.wid
    unfold Dat.wids Dat.wids Dat.wids
    exact Nat.max_le.mpr ⟨by simp, Nat.max_le.mpr ⟨W.wid_le a, Nat.max_le.mpr ⟨W.wid_le b, Nat.zero_le _⟩⟩⟩
structure XC (K : PySem.W.Frag) (mg : Str → Option Value) (aW c1 c2 c3 c4 c5 c6 c7 c8 c9 c10 c11 c12 aN : Addr) : Prop where
  mW : mg "WantError" = some (.ref aW)
  m1 : mg "Falling" = some (.ref c1)
  m2 : mg "NoAsking" = some (.ref c2)
  m3 : mg "NoBook" = some (.ref c3)
  m4 : mg "NoCell" = some (.ref c4)
  m5 : mg "NoKinds" = some (.ref c5)
  m6 : mg "NoMore" = some (.ref c6)
  m7 : mg "NoMost" = some (.ref c7)
  m8 : mg "NoNote" = some (.ref c8)
  m9 : mg "NoPart" = some (.ref c9)
  m10 : mg "NoRows" = some (.ref c10)
  m11 : mg "NoSheet" = some (.ref c11)
  m12 : mg "Torn" = some (.ref c12)
  mN : mg "NoWorth" = some (.ref aN)
  mV : mg "ValueError" = none
  hand : HandC K aW
  exc : PySem.W.ExcC K aN
  isx : IsX K aN
  sub : PySem.W.subIn K (.ref aN) (.ref aW) = some true
  k1 : PySem.W.kitAny K (.ref aN) ([c1, c2, c3, c4, c5, c6, c7, c8, c9].map Value.ref) = some false
  k2 : PySem.W.kitAny K (.ref aN) ([c10, c11, c12].map Value.ref) = some false
  k3 : PySem.W.kitOne K (.ref aN) (.ref aN) = some true
  k4 : PySem.W.kitOne K (.ref aN) (.type "ValueError") = some true
end L2
namespace K4
open PySem L2
theorem scCut : FnScope ["worth", "stream"] ["worth", "stream"] (defScope sCut) := ⟨rfl, rfl, rfl, by decide +kernel, rfl, by decide +kernel, by decide +kernel⟩
theorem scJR : FnScope ["one", "other", "due", "found", "marks", "e", "others"] ["one", "other", "due"] (defScope sJRight) := ⟨rfl, rfl, rfl, by decide +kernel, rfl, by decide +kernel, by decide +kernel⟩
section
variable {P : Program} {w : World} {K : PySem.W.Frag} {mg : Str → Option Value} {base : Heap} {f gt gj gs aW c1 c2 c3 c4 c5 c6 c7 c8 c9 c10 c11 c12 aN : Addr} {fd td jd sd : FuncData}
def spCut (n : Nat) : Sp := fun vs H Q _ => ∃ (v : V) (p : Addr) (a : W), vs = [v, .ref p] ∧ Has H v a.dat ∧ Strm H p ∧ a.dep < n ∧ ∀ (u : V) (c : W) (H' : Hp), SameB p H H' → Strm H' p → Cut a c → Has H' u c.dat → Q u H'
theorem ok_cut {n : Nat} (B : Blt mg) (F : Fun K "_law_cut" "_law_cut" sCut f fd) (GT : ∀ m, FnOk P w K mg base CX0 (m + 2) gt td ["stream", "many"] spTake) (bT : Binds K td ["stream", "many"] []) (kT : PySem.W.keepIn K (.ref gt) = true) (mT : mg "_law_take" = some (.ref gt))
    (G : FnOk P w K mg base CX0 (n + 2) f fd ["worth", "stream"] (spCut n)) (bG : Binds K fd ["worth", "stream"] []) (mG : mg "_law_cut" = some (.ref f)) :
    FnOk P w K mg base CX0 (n + 1 + 2) f fd ["worth", "stream"] (spCut (n + 1)) := by
  refine F.ok scCut (fun vs H Q E h => ?_) (fun cdv A outer s H vs Q E hr h => ?_)
  · obtain ⟨v, p, a, rfl, _⟩ := h
    rfl
  obtain ⟨v, p, a, rfl, hv, hs, hd, q⟩ := h
  refine ⟨_, pss_cons (ps_if (PW.pt (pw_or (pt_cmpR op_isN (pv 0) pe_non (nomark _)) (pw_or (pt_not (pt_val (pe_isi rfl B.isi rfl B.tuple boot_tuple' (pv 0)))) (pw_or1 (pt_cmpR op_eq (pe_call (GT n) hr rfl mT kT bT .nil pass0 (pa_cons (pv 1) (pa_cons pe_int pa_nil))) pe_int (nomark _)))))) (pss_one (ps_ret pe_non)) pss_nil)
    (pss_cons (ps_if (pt_cmpR op_eq (pe_call (GT n) hr rfl mT kT bT .nil pass0 (pa_cons (pv 1) (pa_cons pe_int pa_nil))) pe_int (nomark _))
      (pss_one (ps_ret (pe_tup (pa_cons (pe_call G hr rfl mG F.kp bG .nil pass0 (pa_cons (pe_ix ix_tup (pv 0) pe_int (fun _ _ => rfl)) (pa_cons (pv 1) pa_nil))) (pa_cons (pe_ix ix_tup (pv 0) pe_int (fun _ _ => rfl)) pa_nil))))) pss_nil)
    (pss_one (ps_ret (pe_tup (pa_cons (pe_ix ix_tup (pv 0) pe_int (fun _ _ => rfl)) (pa_cons (pe_call G hr rfl mG F.kp bG .nil pass0 (pa_cons (pe_ix ix_tup (pv 0) pe_int (fun _ _ => rfl)) (pa_cons (pv 1) pa_nil))) pa_nil)))))), ?_⟩
  have tV := has_ty (K := K) hv
  have nn : ∀ a : W, Cut a .non := fun a => by unfold Cut; cases a <;> trivial
  refine ⟨_, rfl, rfl, _, rfl, ?_⟩
  cases a with
  | non =>
    have ex : v = .non := by unfold W.dat Has at hv; exact hv
    subst ex
    refine iteP rfl (iteP rfl ?_)
    exact q _ _ _ (SameB.refl _ _) hs (nn _) has_non
  | tag t =>
    have ex : v = .str t := by unfold W.dat Has at hv; exact hv
    subst ex
    refine iteM (by simp) ?_
    refine ⟨_, rfl, _, _, _, _, rfl, tV, kit_of K _ (by simp), _, rfl, ?_⟩
    refine iteP (by simp [isD, tyD, W.dat]) (iteP rfl ?_)
    exact q _ _ _ (SameB.refl _ _) hs (nn _) has_non
  | pair a1 a2 =>
    obtain ⟨pp, x1, x2, rfl, hp, h1, h2⟩ := has_pair hv
    have hd' : 1 + max a1.dep a2.dep < n + 1 := hd
    have m1 := Nat.le_max_left a1.dep a2.dep
    have m2 := Nat.le_max_right a1.dep a2.dep
    refine iteM (by simp) ?_
    refine ⟨_, rfl, _, _, _, _, rfl, tV, kit_of K _ (by simp), _, rfl, ?_⟩
    refine iteM (by simp [isD, tyD, W.dat]) ?_
    refine ⟨_, rfl, p, 3, rfl, hs, by decide, by decide, fun r H1 r0 r1 b1 s1 => ?_⟩
    have hv1 := hasW_sb b1.sb hs _ hv
    refine ⟨rfl, _, rfl, ?_⟩
    refine ite2 (fun c => q _ _ _ b1.sb s1 (nn _) has_non) (fun c => ?_)
    refine ⟨_, rfl, p, 2, rfl, s1, by decide, by decide, fun r' H2 r0' r1' b2 s2 => ?_⟩
    have hv2 := hasW_sb b2.sb s1 _ hv1
    have sb2 : SameB p H H2 := b1.sb.trans b2.sb
    obtain ⟨p2, z1, z2, e, hp2, g1, g2⟩ := has_pair hv2
    cases e
    refine ⟨rfl, _, rfl, ?_⟩
    refine ite2 (fun c => ?_) (fun c => ?_)
    · refine ⟨_, rfl, pp, _, 0, _, rfl, rfl, SqT.of hp2, rfl, _, rfl, z1, p, a1, rfl, g1, s2, by omega, fun u c H3 sb3 s3 ct hu => ?_⟩
      have hv3 := hasW_sb sb3 s2 _ hv2
      obtain ⟨p3, y1, y2, e, hp3, g1', g2'⟩ := has_pair hv3
      cases e
      refine ⟨_, rfl, pp, _, 1, _, rfl, rfl, SqT.of hp3, rfl, by show 2 ≤ sizeLine; decide, fun t ht => ?_⟩
      have st := same_upd ht (.tup [u, y2])
      have nt := s3.ne ht
      exact q _ (.pair c a2) _ ((sb2.trans sb3).trans st.sb) (s3.keep (upd_ne (Ne.symm nt))) (.inl ⟨ct, rfl⟩) (has_mkpair upd_same (hu.mono st) (g2'.mono st))
    · refine ⟨_, rfl, pp, _, 0, _, rfl, rfl, SqT.of hp2, rfl, _, rfl, pp, _, 1, _, rfl, rfl, SqT.of hp2, rfl, _, rfl, z2, p, a2, rfl, g2, s2, by omega, fun u c H3 sb3 s3 ct hu => ?_⟩
      refine ⟨by show 2 ≤ sizeLine; decide, fun t ht => ?_⟩
      have st := same_upd ht (.tup [z1, u])
      have nt := s3.ne ht
      exact q _ (.pair a1 c) _ ((sb2.trans sb3).trans st.sb) (s3.keep (upd_ne (Ne.symm nt))) (.inr ⟨rfl, ct⟩) (has_mkpair upd_same ((hasW_sb sb3 s2 _ g1).mono st) (hu.mono st))
theorem cut_ok (B : Blt mg) (F : Fun K "_law_cut" "_law_cut" sCut f fd) (GT : ∀ m, FnOk P w K mg base CX0 (m + 2) gt td ["stream", "many"] spTake) (bT : Binds K td ["stream", "many"] []) (kT : PySem.W.keepIn K (.ref gt) = true) (mT : mg "_law_take" = some (.ref gt))
    (bG : Binds K fd ["worth", "stream"] []) (mG : mg "_law_cut" = some (.ref f)) : ∀ n : Nat, FnOk P w K mg base CX0 (n + 2) f fd ["worth", "stream"] (spCut n)
  | 0 => by
    have no : ∀ vs H Q E, ¬ spCut 0 vs H Q E := fun vs H Q E h => by obtain ⟨x, y, a, _, _, _, h1, _⟩ := h; omega
    exact ⟨fun vs H Q E h => absurd h (no vs H Q E), fun A outer s H args us vs Q E _ _ _ _ h => absurd h (no vs H Q E)⟩
  | n + 1 => ok_cut B F GT bT kT mT (cut_ok B F GT bT kT mT bG mG n) bG mG
end
end K4
set_option Elab.async false
set_option linter.all false
set_option maxRecDepth 100000
set_option maxHeartbeats 8000000
namespace L2
open PySem
theorem pe_cls {X : Cx} {x : Str} {C : Addr} {pos : Pos} (hg : Gl X x) (hm : X.mg x = some (.ref C)) (hd : (x == ("__debug__" : Str)) = false := by decide) : PE X (.Name x pos) (tC (.ref C)) := pe_glob (v := .ref C) hg hm rfl hd
end L2
namespace K4
open PySem L2
section
variable {P : Program} {w : World} {K : PySem.W.Frag} {mg : Str → Option Value} {base : Heap} {f gj gs aW c1 c2 c3 c4 c5 c6 c7 c8 c9 c10 c11 c12 aN : Addr} {fd jd sd : FuncData}
def spJR (n : Nat) : Sp := fun vs H Q _ => ∃ (x y : V) (dr : Addr) (a b : W) (u : V), vs = [x, y, .ref dr] ∧ Has H x a.dat ∧ Has H y b.dat ∧ a.dep < n ∧ b.dep < n ∧ a.sim b = true ∧ a.sh ∧ b.sh ∧ H dr = some (.tup [.bl (optB (a.join b)), u]) ∧ Has H u (optW (a.join b)).dat ∧ (∀ c, a.join b = some c → c.dep < n) ∧
  ∀ H', Same H H' → Q (.bl true) H'
theorem ok_jr {n m : Nat} (hm : 5 ≤ m) (B : Blt mg) (C : XC K mg aW c1 c2 c3 c4 c5 c6 c7 c8 c9 c10 c11 c12 aN) (F : Fun K "_law_joined_right" "_law_joined_right" sJRight f fd)
    (GJ : FnOk P w K mg base (CX1 P w) m gj jd ["one", "other"] (spJoin aN n)) (bJ : Binds K jd ["one", "other"] []) (kJ : PySem.W.keepIn K (.ref gj) = true) (mJ : mg "joined" = some (.ref gj))
    (GS : FnOk P w K mg base CX0 m gs sd ["found", "due"] (spSame n)) (bS : Binds K sd ["found", "due"] []) (kS : PySem.W.keepIn K (.ref gs) = true) (mS : mg "_law_same" = some (.ref gs)) :
    FnOk P w K mg base CX0 (m + 1) f fd ["one", "other", "due"] (spJR n) := by
  refine F.ok scJR (fun vs H Q E h => ?_) (fun cdv A outer s H vs Q E hr h => ?_)
  · obtain ⟨x, y, dr, a, b, u, rfl, _⟩ := h
    rfl
  obtain ⟨x, y, dr, a, b, u, rfl, hx, hy, da, db, hs, sa, sb, hdr, hu, dc, q⟩ := h
  have hr2 : Room (1 + 1) _ := hr.mono (show 1 + 1 ≤ m by omega)
  refine ⟨_, pss_cons (ps_set (i := 3) scJR.nd rfl (Or.inl rfl) pe_non)
    (pss_cons (ps_set (i := 4) scJR.nd rfl (Or.inl rfl) (pe_lst pa_nil))
    (pss_cons (ps_try (i := 5) rfl rfl scJR.nd rfl rfl rfl C.mW C.hand (tb := fun EX => tAsg (tCallS (spJoin aN n) [] EX (tCons (tVar 0) (tCons (tVar 1) tNil))) (gName 3))
        (fun EX pn W hp => pss_one (ps_set (i := 3) scJR.nd rfl (Or.inl rfl) (pe_callS GJ hr rfl mJ kJ bJ .nil hp (pa_cons (pv 0) (pa_cons (pv 1) pa_nil)))))
        (fun A' => pss_cons (ps_set (i := 6) scJR.nd rfl (Or.inl rfl) (pe_callB (r := rIsiX K) call_isiX rfl B.isi boot_isi' (pa_cons (pv 5) (pa_cons (pe_tup (pa_cons (pe_cls rfl C.m1) (pa_cons (pe_cls rfl C.m2) (pa_cons (pe_cls rfl C.m3) (pa_cons (pe_cls rfl C.m4) (pa_cons (pe_cls rfl C.m5) (pa_cons (pe_cls rfl C.m6) (pa_cons (pe_cls rfl C.m7) (pa_cons (pe_cls rfl C.m8) (pa_cons (pe_cls rfl C.m9) pa_nil)))))))))) pa_nil))))
          (pss_cons (ps_set (i := 6) scJR.nd rfl (Or.inl rfl) (pe_or (pv 6) (pe_one (pe_callB (r := rIsiX K) call_isiX rfl B.isi boot_isi' (pa_cons (pv 5) (pa_cons (pe_tup (pa_cons (pe_cls rfl C.m10) (pa_cons (pe_cls rfl C.m11) (pa_cons (pe_cls rfl C.m12) pa_nil)))) pa_nil))))))
          (pss_one (ps_set (i := 4) scJR.nd rfl (Or.inl rfl) (pe_lst (pa_cons (pe_callB (r := rIsiX K) call_isiX rfl B.isi boot_isi' (pa_cons (pv 5) (pa_cons (pe_cls rfl C.mN) pa_nil))) (pa_cons (pe_callB (r := rIsiX K) call_isiX rfl B.isi boot_isi' (pa_cons (pv 5) (pa_cons (pe_bltn (v := .ty "ValueError") rfl C.mV PyProof.Rows.Boot.«ValueError» rfl) pa_nil))) (pa_cons (pv 6) pa_nil)))))))))
    (pss_cons (ps_if (pt_not (pt_val (pe_ix ix_tup (pv 2) pe_int (fun _ _ => rfl)))) (pss_one (ps_ret (pe_cmpR (op_eqD hr2) (pv 4) (pe_lst (pa_cons pe_bl (pa_cons pe_bl (pa_cons pe_bl pa_nil)))) (nomark _)))) pss_nil)
    (pss_one (ps_ret (pe_and (pe_cmpR (op_eqD hr2) (pv 4) (pe_lst pa_nil) (nomark _)) (pe_one (pe_call GS hr rfl mS kS bS .nil pass0 (pa_cons (pv 3) (pa_cons (pe_ix ix_tup (pv 2) pe_int (fun _ _ => rfl)) pa_nil)))))))))), ?_⟩
  refine ⟨by show 0 ≤ sizeLine; decide, fun l hl => ?_⟩
  have sl := same_upd hl (.lst [])
  have hl0 : upd H l (.lst []) l = some (.lst []) := upd_same
  generalize upd H l (.lst []) = H0 at sl hl0 ⊢
  refine ⟨_, rfl, _, rfl, x, y, a, b, rfl, hx.mono sl, hy.mono sl, da, hs, sa, sb, fun c ec v1 H1 s1 hv1 => ?_, fun en H1 s1 => ?_⟩
  · have s01 := sl.trans s1
    rw [ec] at hdr hu
    refine ⟨_, rfl, dr, _, 0, _, rfl, rfl, SqT.of (s01 _ _ hdr), rfl, _, rfl, ?_⟩
    refine iteM (by simp [optB]) ?_
    refine ⟨_, rfl, by show 0 ≤ sizeLine; decide, fun l2 hl2 => ?_⟩
    have s2 := same_upd hl2 (.lst [])
    refine ⟨.lst [], .lst [], lst_has (s2 _ _ (s1 _ _ hl0)) HasL.nil, lst_has upd_same HasL.nil, by decide +kernel, _, rfl, ?_⟩
    refine iteP (Dat.pq_self _) ?_
    refine ⟨_, rfl, _, rfl, dr, _, 1, _, rfl, rfl, SqT.of (s2 _ _ (s01 _ _ hdr)), rfl, v1, u, c.dat, c.dat, rfl, hv1.mono s2, (hu.mono s01).mono s2, by rw [W.dat_dep]; exact dc c ec, W.wid_le c, fun H3 s3 => ?_⟩
    rw [Dat.beq_self]
    exact q _ ((s01.trans s2).trans s3)
  · have s01 := sl.trans s1
    rw [en] at hdr
    refine ⟨aN, rfl, C.sub, (fun d z => nomatch z), fun ea hea => ?_⟩
    have sE := same_upd hea (excO ea aN none)
    have cE : Caught (upd H1 ea (excO ea aN none)) ea aN none := ⟨upd_same, fun d z => nomatch z⟩
    generalize upd H1 ea (excO ea aN none) = HE at sE cE ⊢
    refine ⟨_, rfl, by show 9 ≤ sizeLine; decide, fun t1 ht1 => ?_⟩
    have sT := same_upd ht1 (.tup [.ref c1, .ref c2, .ref c3, .ref c4, .ref c5, .ref c6, .ref c7, .ref c8, .ref c9])
    refine ⟨ea, aN, none, .ref t1, false, rfl, ⟨sT _ _ cE.at_, fun d z => nomatch z⟩, C.exc, .inl ⟨t1, [c1, c2, c3, c4, c5, c6, c7, c8, c9], rfl, upd_same, C.k1⟩, ?_⟩
    refine ⟨_, rfl, _, rfl, iteM (by simp) ?_⟩
    refine ⟨_, rfl, by show 3 ≤ sizeLine; decide, fun t2 ht2 => ?_⟩
    have sT2 := same_upd ht2 (.tup [.ref c10, .ref c11, .ref c12])
    refine ⟨ea, aN, none, .ref t2, false, rfl, ⟨sT2 _ _ (sT _ _ cE.at_), fun d z => nomatch z⟩, C.exc, .inl ⟨t2, [c10, c11, c12], rfl, upd_same, C.k2⟩, ?_⟩
    have sU := sT.trans sT2
    generalize upd (upd HE t1 (.tup [.ref c1, .ref c2, .ref c3, .ref c4, .ref c5, .ref c6, .ref c7, .ref c8, .ref c9])) t2 (.tup [.ref c10, .ref c11, .ref c12]) = HU at sU ⊢
    have cU : Caught HU ea aN none := ⟨sU _ _ cE.at_, fun d z => nomatch z⟩
    refine ⟨_, rfl, ea, aN, none, .ref aN, true, rfl, cU, C.exc, .inr (.inl ⟨aN, rfl, C.k3⟩), ?_⟩
    refine ⟨_, rfl, ea, aN, none, .ty "ValueError", true, rfl, cU, C.exc, .inr (.inr ⟨"ValueError", rfl, C.k4⟩), ?_⟩
    refine ⟨_, rfl, by show 3 ≤ sizeLine; decide, fun l3 hl3 => ?_⟩
    have s3 := same_upd hl3 (.lst [.bl true, .bl true, .bl false])
    have s4 := ((s01.trans sE).trans sU).trans s3
    have hl3' : upd HU l3 (.lst [.bl true, .bl true, .bl false]) l3 = some (.lst [.bl true, .bl true, .bl false]) := upd_same
    generalize upd HU l3 (.lst [.bl true, .bl true, .bl false]) = H3 at s4 hl3' ⊢
    refine ⟨_, rfl, dr, _, 0, _, rfl, rfl, SqT.of (s4 _ _ hdr), rfl, _, rfl, ?_⟩
    refine iteP (by simp [optB]) ?_
    refine ⟨_, rfl, by show 3 ≤ sizeLine; decide, fun l4 hl4 => ?_⟩
    have s5 := same_upd hl4 (.lst [.bl true, .bl true, .bl false])
    have hb : ∀ H, HasL H [.bl true, .bl true, .bl false] [.bl true, .bl true, .bl false] := fun H => HasL.cons (by unfold Has; rfl) (HasL.cons (by unfold Has; rfl) (HasL.one (by unfold Has; rfl)))
    refine ⟨.lst [.bl true, .bl true, .bl false], .lst [.bl true, .bl true, .bl false], lst_has (s5 _ _ hl3') (hb _), lst_has upd_same (hb _), by decide +kernel, ?_⟩
    rw [Dat.pq_self]
    exact q _ (s4.trans s5)
end
end K4
set_option Elab.async false
set_option linter.all false
set_option maxRecDepth 100000
set_option maxHeartbeats 8000000
namespace L2
open PySem
structure GoodW (n : Nat) (ws : List W) : Prop where
  len : ws.length ≤ 100
  dep : ∀ c ∈ ws, c.dep < n
  join : ∀ a b c, a ∈ ws → b ∈ ws → a.join b = some c → c ∈ ws
  sim : ∀ a b, a ∈ ws → b ∈ ws → a.sim b = true
  sh : ∀ a ∈ ws, a.sh
end L2
namespace K4
open PySem L2
theorem scRight : FnScope ["worths", "one", "other", "first", "second"] ["worths", "one", "other"] (defScope sRight) := ⟨rfl, rfl, rfl, by decide +kernel, rfl, by decide +kernel, by decide +kernel⟩
section
variable {P : Program} {w : World} {K : PySem.W.Frag} {mg : Str → Option Value} {base : Heap} {f gs gu gv gl gj gw gx : Addr} {fd sd ud vd ld jd wd xd : FuncData}
def spRight3 (n : Nat) : Sp := fun vs H Q _ => ∃ (l : Addr) (x y : V) (xs : List V) (ws : List W) (a b : W), vs = [.ref l, x, y] ∧ H l = some (.lst xs) ∧ HasL H xs (ws.map W.dat) ∧ GoodW n ws ∧ Has H x a.dat ∧ Has H y b.dat ∧ a ∈ ws ∧ b ∈ ws ∧ ∀ H', Same H H' → Q (.bl true) H'
theorem ok_right3 {n m : Nat} (hn : 0 < n) (B : Blt mg) (F : Fun K "_law_right" "_law_right" sRight f fd)
    (GS : FnOk P w K mg base CX0 m gs sd ["found", "due"] (spSame n)) (bS : Binds K sd ["found", "due"] []) (kS : PySem.W.keepIn K (.ref gs) = true) (mS : mg "_law_same" = some (.ref gs))
    (GU : FnOk P w K mg base CX0 m gu ud ["one", "other"] (spUnder n)) (bU : Binds K ud ["one", "other"] []) (kU : PySem.W.keepIn K (.ref gu) = true) (mU : mg "is_under" = some (.ref gu))
    (GV : FnOk P w K mg base CX0 m gv vd ["one", "other"] (spUnder n)) (bV : Binds K vd ["one", "other"] []) (kV : PySem.W.keepIn K (.ref gv) = true) (mV : mg "_law_under" = some (.ref gv))
    (GL : FnOk P w K mg base CX0 m gl ld ["worths", "one", "other"] (spLeast n)) (bL : Binds K ld ["worths", "one", "other"] []) (kL : PySem.W.keepIn K (.ref gl) = true) (mL : mg "_law_least_above" = some (.ref gl))
    (GJ : FnOk P w K mg base CX0 m gj jd ["one", "other", "due"] (spJR n)) (bJ : Binds K jd ["one", "other", "due"] []) (kJ : PySem.W.keepIn K (.ref gj) = true) (mJ : mg "_law_joined_right" = some (.ref gj))
    (GW : FnOk P w K mg base CX0 m gw wd ["worth"] (spWhole n)) (bW : Binds K wd ["worth"] []) (kW : PySem.W.keepIn K (.ref gw) = true) (mW : mg "is_whole" = some (.ref gw))
    (GX : FnOk P w K mg base CX0 m gx xd ["worth"] (spWhole n)) (bX : Binds K xd ["worth"] []) (kX : PySem.W.keepIn K (.ref gx) = true) (mX : mg "_law_whole" = some (.ref gx)) :
    FnOk P w K mg base CX0 (m + 1) f fd ["worths", "one", "other"] (spRight3 n) := by
  refine F.ok scRight (fun vs H Q E h => ?_) (fun cdv A outer s H vs Q E hr h => ?_)
  · obtain ⟨l, x, y, xs, ws, a, b, rfl, _⟩ := h
    rfl
  obtain ⟨l, x, y, xs, ws, a, b, rfl, hl, hxs, g, hx, hy, ma, mb, q⟩ := h
  refine ⟨_, pss_cons (ps_for PassesOwn.never rfl (pi_list (pe_lst (pa_cons (pe_tup (pa_cons (pv 1) (pa_cons (pv 2) pa_nil))) (pa_cons (pe_tup (pa_cons (pv 2) (pa_cons (pv 1) pa_nil))) (pa_cons (pe_tup (pa_cons (pv 1) (pa_cons (pv 1) pa_nil))) pa_nil)))))
      (pg_tup (n := 2) rfl (pgs_cons (pg_name (i := 3) scRight.nd rfl (Or.inl rfl)) (pgs_cons (pg_name (i := 4) scRight.nd rfl (Or.inl rfl)) pgs_nil)))
      (pss_cons (ps_if (pt_not (pt_val (pe_call GS hr rfl mS kS bS .nil pass0 (pa_cons (pe_call GU hr rfl mU kU bU .nil pass0 (pa_cons (pv 3) (pa_cons (pv 4) pa_nil))) (pa_cons (pe_call GV hr rfl mV kV bV .nil pass0 (pa_cons (pv 3) (pa_cons (pv 4) pa_nil))) pa_nil))))) (pss_one (ps_ret pe_bl)) pss_nil)
      (pss_one (ps_if (pt_not (pt_val (pe_call GJ hr rfl mJ kJ bJ .nil pass0 (pa_cons (pv 3) (pa_cons (pv 4) (pa_cons (pe_call GL hr rfl mL kL bL .nil pass0 (pa_cons (pv 0) (pa_cons (pv 3) (pa_cons (pv 4) pa_nil)))) pa_nil)))))) (pss_one (ps_ret pe_bl)) pss_nil))))
    (pss_one (ps_ret (pe_and (pe_call GS hr rfl mS kS bS .nil pass0 (pa_cons (pe_call GW hr rfl mW kW bW .nil pass0 (pa_cons (pv 1) pa_nil)) (pa_cons (pe_call GX hr rfl mX kX bX .nil pass0 (pa_cons (pv 1) pa_nil)) pa_nil)))
      (pe_one (pe_call GS hr rfl mS kS bS .nil pass0 (pa_cons (pe_call GW hr rfl mW kW bW .nil pass0 (pa_cons (pv 2) pa_nil)) (pa_cons (pe_call GX hr rfl mX kX bX .nil pass0 (pa_cons (pv 2) pa_nil)) pa_nil))))))), ?_⟩
  have two : ∀ k : Bool, Has H (.bl k) (.bl k) := fun k => by unfold Has; rfl
  have bl0 : ∀ k : Bool, (Dat.bl k).dep < n ∧ (Dat.bl k).wid ≤ 1000 := fun k => by unfold Dat.dep Dat.wid; exact ⟨hn, Nat.zero_le _⟩
  refine ⟨_, rfl, _, rfl, by show 2 ≤ sizeLine; decide, fun t1 ht1 => ?_⟩
  have e1 := same_upd ht1 (.tup [x, y])
  refine ⟨_, rfl, _, rfl, by show 2 ≤ sizeLine; decide, fun t2 ht2 => ?_⟩
  have e2 := same_upd ht2 (.tup [y, x])
  refine ⟨_, rfl, _, rfl, by show 2 ≤ sizeLine; decide, fun t3 ht3 => ?_⟩
  have e3 := same_upd ht3 (.tup [x, x])
  refine ⟨by show 3 ≤ sizeLine; decide, fun tl htl => ?_⟩
  have e4 := same_upd htl (.lst [.ref t1, .ref t2, .ref t3])
  have g1 := e4 _ _ (e3 _ _ (e2 _ _ (show upd H t1 (.tup [x, y]) t1 = some (.tup [x, y]) from upd_same)))
  have g2 := e4 _ _ (e3 _ _ (show upd (upd H t1 (.tup [x, y])) t2 (.tup [y, x]) t2 = some (.tup [y, x]) from upd_same))
  have g3 := e4 _ _ (show upd (upd (upd H t1 (.tup [x, y])) t2 (.tup [y, x])) t3 (.tup [x, x]) t3 = some (.tup [x, x]) from upd_same)
  have sA := ((e1.trans e2).trans e3).trans e4
  have htl' : upd (upd (upd (upd H t1 (.tup [x, y])) t2 (.tup [y, x])) t3 (.tup [x, x])) tl (.lst [.ref t1, .ref t2, .ref t3]) tl = some (.lst [.ref t1, .ref t2, .ref t3]) := upd_same
  generalize upd (upd (upd (upd H t1 (.tup [x, y])) t2 (.tup [y, x])) t3 (.tup [x, x])) tl (.lst [.ref t1, .ref t2, .ref t3]) = HL at g1 g2 g3 sA htl' ⊢
  refine ⟨tl, rfl, ⟨_, SqL.of htl'⟩, ?_⟩
  have items : ∀ v ∈ [V.ref t1, .ref t2, .ref t3], ∃ t x1 x2 u1 u2, v = .ref t ∧ HL t = some (.tup [x1, x2]) ∧ Has HL x1 (W.dat u1) ∧ Has HL x2 (W.dat u2) ∧ u1 ∈ ws ∧ u2 ∈ ws := fun v hv => by
    simp only [List.mem_cons, List.not_mem_nil, or_false] at hv
    rcases hv with rfl | rfl | rfl
    · exact ⟨t1, x, y, a, b, rfl, g1, hx.mono sA, hy.mono sA, ma, mb⟩
    · exact ⟨t2, y, x, b, a, rfl, g2, hy.mono sA, hx.mono sA, mb, ma⟩
    · exact ⟨t3, x, x, a, a, rfl, g3, hx.mono sA, hx.mono sA, ma, ma⟩
  refine for_list (xs := [.ref t1, .ref t2, .ref t3]) (fun i σ H' => Same HL H' ∧ ∃ z3 z4, σ = [some (.ref l), some x, some y, z3, z4]) ?_ ?_ ?_ ?_
  · exact ⟨Same.refl _, _, _, rfl⟩
  · rintro i σ H' _ ⟨sj, _⟩
    exact SqL.of (sj _ _ htl')
  · rintro i v σ H' hv ⟨sj, z3, z4, rfl⟩
    obtain ⟨t, x1, x2, u1, u2, rfl, ht, h1, h2, m1, m2⟩ := items v (List.mem_of_getElem? hv)
    refine ⟨t, [x1, x2], rfl, SqT.of (sj _ _ ht), rfl, x1, [x2], rfl, x2, [], rfl, rfl, ?_⟩
    have k1 := h1.mono sj
    have k2 := h2.mono sj
    refine ⟨_, rfl, _, rfl, x1, x2, u1, u2, rfl, k1, k2, g.dep u1 m1, _, rfl, _, rfl, x1, x2, u1, u2, rfl, k1, k2, g.dep u1 m1, ?_⟩
    refine ⟨_, _, .bl (u1.under u2), .bl (u1.under u2), rfl, by unfold Has; rfl, by unfold Has; rfl, (bl0 _).1, (bl0 _).2, fun H2 s2 => ⟨_, rfl, iteM (by rw [Dat.beq_self]; simp) ?_⟩⟩
    have ej : leastW ws u1 u2 = u1.join u2 := least_join (fun c hc => g.join u1 u2 c m1 m2 hc)
    refine ⟨_, rfl, _, rfl, _, rfl, _, rfl, _, rfl, l, x1, x2, xs, ws, u1, u2, rfl, s2 _ _ (sj _ _ (sA _ _ hl)), ((hxs.mono sA).mono sj).mono s2, g.len, k1.mono s2, k2.mono s2, g.dep u1 m1, g.dep u2 m2, g.dep, fun r v H3 s3 hr3 hv3 => ?_⟩
    rw [ej] at hr3 hv3
    refine ⟨x1, x2, r, u1, u2, v, rfl, (k1.mono s2).mono s3, (k2.mono s2).mono s3, g.dep u1 m1, g.dep u2 m2, g.sim u1 u2 m1 m2, g.sh u1 m1, g.sh u2 m2, hr3, hv3, fun c hc => g.dep c (g.join u1 u2 c m1 m2 hc), fun H4 s4 => ⟨_, rfl, iteM (by simp) ?_⟩⟩
    exact ⟨((sj.trans s2).trans s3).trans s4, _, _, rfl⟩
  · rintro σ H' ⟨sj, z3, z4, rfl⟩
    have s0 := sA.trans sj
    refine ⟨_, rfl, x, a, rfl, hx.mono s0, g.dep a ma, _, rfl, x, a, rfl, hx.mono s0, g.dep a ma, ?_⟩
    refine ⟨_, _, .bl a.whole, .bl a.whole, rfl, by unfold Has; rfl, by unfold Has; rfl, (bl0 _).1, (bl0 _).2, fun H2 s2 => ⟨_, rfl, iteP (Dat.beq_self _) ?_⟩⟩
    have s1 := s0.trans s2
    refine ⟨_, rfl, y, b, rfl, hy.mono s1, g.dep b mb, _, rfl, y, b, rfl, hy.mono s1, g.dep b mb, ?_⟩
    refine ⟨_, _, .bl b.whole, .bl b.whole, rfl, by unfold Has; rfl, by unfold Has; rfl, (bl0 _).1, (bl0 _).2, fun H3 s3 => ?_⟩
    rw [Dat.beq_self]
    exact q _ (s1.trans s3)
end
end K4
set_option Elab.async false
set_option linter.all false
set_option maxRecDepth 100000
set_option maxHeartbeats 8000000
namespace L2
open PySem
theorem hasLW_sb {H H' : Hp} {p : Addr} (b : SameB p H H') (s : Strm H p) : ∀ (ws : List W) {xs : List V}, HasL H xs (ws.map W.dat) → HasL H' xs (ws.map W.dat)
  | [], [], _ => HasL.nil
  | [], _ :: _, h => by rw [List.map_nil] at h; unfold HasL at h; exact h.elim
  | _ :: _, [], h => by rw [List.map_cons] at h; unfold HasL at h; exact h.elim
  | w :: ws, x :: xs, h => by
    rw [List.map_cons] at h ⊢
    unfold HasL at h
    exact HasL.cons (hasW_sb b s w h.1) (hasLW_sb b s ws h.2)
end L2
namespace K4
open PySem L2
theorem scLaw : FnScope ["script", "both", "cell", "stream", "shapes", "kind", "worths", "one", "other"] ["script"] (defScope sLaw) := ⟨rfl, rfl, rfl, by decide +kernel, rfl, by decide +kernel, by decide +kernel⟩
theorem nd_ks : List.Nodup [("k" : Str), "script"] := by decide +kernel
section
variable {P : Program} {w : World} {K : PySem.W.Frag} {mg : Str → Option Value} {base : Heap} {f gc gs gt gk gw gr gu : Addr} {fd cd sd td kd wd' rd ud : FuncData}
def spLaw (K : PySem.W.Frag) : Sp := fun vs H Q _ => ∃ (a : Addr) (ns : List Int), vs = [.ref a] ∧ SqL K H a (ns.map V.int) ∧ ns.length ≤ 63 ∧ ∀ H', Q (.bl true) H'
theorem ok_law {n : Nat} (hn : 3 ≤ n) (B : Blt mg) (F : Fun K "law" "law" sLaw f fd)
    (GC : FnOk P w K mg base CX0 n gc cd ["script", "k"] (spCell K)) (bC : Binds K cd ["script", "k"] []) (kC : PySem.W.keepIn K (.ref gc) = true) (mC : mg "_law_cell" = some (.ref gc))
    (GS : FnOk P w K mg base CX0 n gs sd ["cell"] spStream) (bS : Binds K sd ["cell"] []) (kS : PySem.W.keepIn K (.ref gs) = true) (mS : mg "_law_stream" = some (.ref gs))
    (GT : FnOk P w K mg base CX0 n gt td ["stream", "many"] spTake) (bT : Binds K td ["stream", "many"] []) (kT : PySem.W.keepIn K (.ref gt) = true) (mT : mg "_law_take" = some (.ref gt))
    (GK : FnOk P w K mg base CX0 n gk kd ["stream", "most", "top"] spKinds) (bK : Binds K kd ["stream", "most", "top"] []) (kK : PySem.W.keepIn K (.ref gk) = true) (mK : mg "_law_kinds" = some (.ref gk))
    (GW : FnOk P w K mg base CX0 n gw wd' ["shapes", "kind"] (spWorths n)) (bW : Binds K wd' ["shapes", "kind"] []) (kW : PySem.W.keepIn K (.ref gw) = true) (mW : mg "_law_worths" = some (.ref gw))
    (GU : FnOk P w K mg base CX0 n gu ud ["worth", "stream"] (spCut 3)) (bU : Binds K ud ["worth", "stream"] []) (kU : PySem.W.keepIn K (.ref gu) = true) (mU : mg "_law_cut" = some (.ref gu))
    (GR : FnOk P w K mg base CX0 n gr rd ["worths", "one", "other"] (spRight3 3)) (bR : Binds K rd ["worths", "one", "other"] []) (kR : PySem.W.keepIn K (.ref gr) = true) (mR : mg "_law_right" = some (.ref gr)) :
    FnOk P w K mg base CX0 (n + 1) f fd ["script"] (spLaw K) := by
  refine F.ok scLaw (fun vs H Q E h => ?_) (fun cdv A outer s H vs Q E hr h => ?_)
  · obtain ⟨a, ns, rfl, _⟩ := h
    rfl
  obtain ⟨a, ns, rfl, hS, h63, q⟩ := h
  refine ⟨_, pss_cons (ps_cmpr (i0 := 1) ["k"] [0] scLaw.nd rfl (Or.inl rfl) (pi_range1 rfl B.range (pa_cons pe_int pa_nil)) (gk_name (i := 0) (by decide)) (fun cl C fp s H => pg_name (i := 0) nd_ks rfl (Or.inl rfl) (Or.inr rfl))
      (fun cl C fp s H => pe_callTy (r := rDictP K) (call_dictP rfl) rfl B.dict boot_dict' (pa_cons (pe_ix (r := rIxT K) ix_tup (pe_call GK hr rfl mK kK bK .nil pass0 (pa_cons (pe_call GS hr rfl mS kS bS .nil pass0 (pa_cons (pe_call GC hr rfl mC kC bC .nil pass0 (pa_cons (pv 1) (pa_cons (pv 0) pa_nil))) pa_nil)) (pa_cons pe_int (pa_cons pe_int pa_nil)))) pe_int (fun _ _ => rfl)) pa_nil)))
    (pss_cons (ps_for PassesOwn.never rfl (pi_list (pe_op op_cat (pe_lst (pa_cons (pe_call GC hr rfl mC kC bC .nil pass0 (pa_cons (pv 0) (pa_cons pe_int pa_nil))) pa_nil)) (pe_slice sl_list (pv 0) (po_some pe_int) (po_some pe_int)))) (pg_name (i := 2) scLaw.nd rfl (Or.inl rfl))
      (pss_cons (ps_set (i := 3) scLaw.nd rfl (Or.inl rfl) (pe_call GS hr rfl mS kS bS .nil pass0 (pa_cons (pv 2) pa_nil)))
      (pss_cons (ps_set (i := 4) scLaw.nd rfl (Or.inl rfl) (pe_ix ix_list (pv 1) (pe_call GT hr rfl mT kT bT .nil pass0 (pa_cons (pv 3) (pa_cons pe_int pa_nil))) (fun _ _ => rfl)))
      (pss_cons (ps_set (i := 5) scLaw.nd rfl (Or.inl rfl) (pe_ix ix_list (pe_callTy (call_list_dict rfl) rfl B.list boot_list' (pa_cons (pv 4) pa_nil)) (pe_call GT hr rfl mT kT bT .nil pass0 (pa_cons (pv 3) (pa_cons (pe_callB call_lenD rfl B.len PySem.boot_len (pa_cons (pv 4) pa_nil)) pa_nil))) (fun _ _ => rfl)))
      (pss_cons (ps_set (i := 6) scLaw.nd rfl (Or.inl rfl) (pe_call GW hr rfl mW kW bW .nil pass0 (pa_cons (pv 4) (pa_cons (pv 5) pa_nil))))
      (pss_cons (ps_set (i := 7) scLaw.nd rfl (Or.inl rfl) (pe_ix ix_list (pv 6) (pe_call GT hr rfl mT kT bT .nil pass0 (pa_cons (pv 3) (pa_cons (pe_callB call_len_seq rfl B.len PySem.boot_len (pa_cons (pv 6) pa_nil)) pa_nil))) (fun _ _ => rfl)))
      (pss_cons (ps_set (i := 8) scLaw.nd rfl (Or.inl rfl) (pe_ix ix_list (pv 6) (pe_call GT hr rfl mT kT bT .nil pass0 (pa_cons (pv 3) (pa_cons (pe_callB call_len_seq rfl B.len PySem.boot_len (pa_cons (pv 6) pa_nil)) pa_nil))) (fun _ _ => rfl)))
      (pss_cons (ps_if (pt_cmpR op_eq (pe_call GT hr rfl mT kT bT .nil pass0 (pa_cons (pv 3) (pa_cons pe_int pa_nil))) pe_int (nomark _)) (pss_one (ps_set (i := 8) scLaw.nd rfl (Or.inl rfl) (pe_call GU hr rfl mU kU bU .nil pass0 (pa_cons (pv 7) (pa_cons (pv 3) pa_nil))))) pss_nil)
      (pss_one (ps_if (pt_not (pt_val (pe_call GR hr rfl mR kR bR .nil pass0 (pa_cons (pv 6) (pa_cons (pv 7) (pa_cons (pv 8) pa_nil)))))) (pss_one (ps_ret pe_bl)) pss_nil))))))))))
    (pss_one (ps_ret pe_bl))), ?_⟩
  refine ⟨2, rfl, by decide, by decide, ?_⟩
  refine comp_form 2 (small1000 (by decide)) (fun i vs H' => Same H H' ∧ vs.length = i ∧ ∀ v ∈ vs, ShV H' v) ⟨Same.refl _, rfl, fun v hv => nomatch hv⟩ (fun i vs H' z => z.2.1) (fun i vs H' hi z => hi) (fun vs H' z => Nat.le_refl _) ?_ ?_
  · intro i vs H' x H'' R hi z yl hR
    obtain ⟨rfl, rfl⟩ := yl
    obtain ⟨z1, z2, z3⟩ := z
    refine ⟨_, rfl, _, rfl, a, ns, 0 + (i : Int), rfl, z1.seq hS, by omega, fun c => ?_⟩
    refine ⟨c, rfl, fun p H3 hp b3 s3 => ?_⟩
    refine ⟨p, 6, 30, rfl, s3, by decide, by decide, by decide, fun r kl cn ks c' d xs H4 b4 s4 fr nr hr4 fkl nkl hkl hl4 kk nd l0 l6 kg => ?_⟩
    refine ⟨r, _, 0, _, rfl, rfl, SqT.of hr4, rfl, ?_⟩
    obtain ⟨ts, kvs, rfl, pr, ek, hsh⟩ := kinds_prs (K := K) hl4
    refine ⟨kl, ts, kvs, rfl, SqL.of hkl, pr, keys_nd ek nd, fun l hl => hR _ _ ?_⟩
    have sA : Same H'' H4 := (b3.sb.trans b4).same hp
    have sB := same_upd hl (.dK kvs)
    refine ⟨z1.trans (sA.trans sB), by simp [z2], fun v hv => ?_⟩
    rcases List.mem_append.mp hv with h | h
    · exact (z3 v h).mono (sA.trans sB)
    · have e : v = .ref l := by simpa using h
      refine ⟨l, ks, c', d, e, ⟨kvs, upd_same, ek, fun y s e => ?_⟩, kk, nd, l0, l6, kg⟩
      obtain ⟨u, h1, h2⟩ := hsh y s e
      exact ⟨u, h1, h2.mono sB⟩
  · intro vs H1 pl z hpl
    obtain ⟨z1, z2, z3⟩ := z
    have sP := same_upd hpl (.lst vs)
    refine ⟨_, rfl, a, ns, 2, rfl, (z1.trans sP).seq hS, by decide, fun c => ⟨by show 1 ≤ sizeLine; decide, fun l1 hl1 => ?_⟩⟩
    have s1 := same_upd hl1 (.lst [V.int c])
    refine ⟨_, rfl, 3, rfl, 18, rfl, a, _, rfl, ((z1.trans sP).trans s1).seq hS, fun l2 hl2 => ?_⟩
    have s2 := same_upd hl2 (.lst (cutV (ns.map V.int) (some 3) (some 18)))
    have lc := cutV_length (ns.map V.int) (some 3) (some 18)
    rw [List.length_map] at lc
    refine ⟨l1, l2, _, _, rfl, rfl, s2 _ _ upd_same, upd_same, Nat.le_of_lt (small1000 (by simp only [List.length_singleton]; omega)), fun l3 hl3 => ?_⟩
    have s3 := same_upd hl3 (.lst ([V.int c] ++ cutV (ns.map V.int) (some 3) (some 18)))
    have sL := ((sP.trans s1).trans s2).trans s3
    refine ⟨l3, rfl, ⟨_, SqL.of upd_same⟩, ?_⟩
    have hl3' : upd (upd (upd (upd H1 pl (.lst vs)) l1 (.lst [V.int c])) l2 (.lst (cutV (ns.map V.int) (some 3) (some 18)))) l3 (.lst ([V.int c] ++ cutV (ns.map V.int) (some 3) (some 18))) l3 = some (.lst ([V.int c] ++ cutV (ns.map V.int) (some 3) (some 18))) := upd_same
    have hpl' := ((s1.trans s2).trans s3) _ _ (show upd H1 pl (.lst vs) pl = some (.lst vs) from upd_same)
    generalize upd (upd (upd (upd H1 pl (.lst vs)) l1 (.lst [V.int c])) l2 (.lst (cutV (ns.map V.int) (some 3) (some 18)))) l3 (.lst ([V.int c] ++ cutV (ns.map V.int) (some 3) (some 18))) = HL at sL hl3' hpl' ⊢
    refine for_list (xs := [V.int c] ++ cutV (ns.map V.int) (some 3) (some 18)) (fun j σ H' => Same HL H' ∧ ∃ y2 y3 y4 y5 y6 y7 y8, σ = [some (.ref a), some (.ref pl), y2, y3, y4, y5, y6, y7, y8]) ?_ ?_ ?_ ?_
    · exact ⟨Same.refl _, _, _, _, _, _, _, _, rfl⟩
    · rintro j σ H' _ ⟨sj, _⟩
      exact SqL.of (sj _ _ hl3')
    · rintro j x σ H' hj ⟨sj, y2, y3, y4, y5, y6, y7, y8, rfl⟩
      obtain ⟨m, rfl⟩ : ∃ m, x = V.int m := by
        rcases List.mem_append.mp (List.mem_of_getElem? hj) with h | h
        · exact ⟨c, by simpa using h⟩
        · unfold cutV at h
          obtain ⟨m, _, e⟩ := List.mem_map.mp (List.mem_of_mem_drop (List.mem_of_mem_take h))
          exact ⟨m, e.symm⟩
      refine ⟨_, rfl, m, rfl, fun p H3 hp b3 t3 => ?_⟩
      refine ⟨_, rfl, _, rfl, p, 2, rfl, t3, by decide, by decide, fun r H4 r0 r1 b4 t4 => ?_⟩
      obtain ⟨k, rfl⟩ : ∃ k : Nat, r = k := ⟨r.toNat, by omega⟩
      have hk : k < vs.length := by omega
      have c4 : SameB p H' H4 := b3.sb.trans b4.sb
      have s4 : Same H' H4 := c4.same hp
      refine ⟨pl, vs, k, vs[k], rfl, rfl, SqL.of (s4 _ _ (sj _ _ hpl')), atI_nat (List.getElem?_eq_getElem hk), ?_⟩
      obtain ⟨l, ks, cc, dd, ev, sh, kk, nd, l0, l6, kg⟩ := z3 vs[k] (List.getElem_mem hk)
      rw [ev]
      have sh4 := sh.mono ((sL.trans sj).trans s4)
      obtain ⟨kvs, hkvs, ek, hsh⟩ := id sh4
      have lk : kvs.length = ks.length := by
        have := congrArg List.length ek
        simpa using this
      have ekk : (kvs.map fun kv => kV kv.1) = ks.map fun k => V.str k.1 := by
        have := congrArg (List.map kV) ek
        rw [List.map_map, List.map_map] at this
        exact this
      refine ⟨_, rfl, l, kvs, rfl, hkvs, fun l4 hl4 => ?_⟩
      have n4 := t4.ne hl4
      have s5 := same_upd hl4 (.lst (kvs.map fun kv => kV kv.1))
      refine ⟨_, rfl, _, rfl, l, kvs, rfl, s5 _ _ hkvs, ?_⟩
      refine ⟨p, kvs.length, rfl, t4.keep (upd_ne (Ne.symm n4)), by omega, by omega, fun r2 H5 q0 q1 b5 t5 => ?_⟩
      obtain ⟨k2, rfl⟩ : ∃ k : Nat, r2 = k := ⟨r2.toNat, by omega⟩
      have hk2 : k2 < ks.length := by omega
      have hl45 : H5 l4 = some (.lst (kvs.map fun kv => kV kv.1)) := (b5 l4 n4).trans upd_same
      refine ⟨l4, _, k2, V.str ks[k2].1, rfl, rfl, SqL.of hl45, atI_nat ?_, ?_⟩
      · rw [ekk, List.getElem?_map, List.getElem?_eq_getElem hk2]; rfl
      have c5 : SameB p H' H5 := (c4.trans s5.sb).trans b5.sb
      have sh5 := sh.mono ((sL.trans sj).trans (c5.same hp))
      have hy : ks[k2].1 ∈ ks.map (·.1) := List.mem_map.mpr ⟨ks[k2], List.getElem_mem hk2, rfl⟩
      obtain ⟨d2, c30⟩ := kk.small hy
      obtain ⟨wl, w0, wdp⟩ := worths_ok kk 3 ks[k2].1 hy (by omega)
      refine ⟨_, rfl, _, rfl, l, ks[k2].1, ks, 30, cc, dd, rfl, sh5, kk, by decide, hy, by omega, by omega, fun r3 H6 s6 f6 h6 => ?_⟩
      obtain ⟨_, xs, er, hx, hxl⟩ := has_lst h6
      cases er
      have lx := hxl.length
      rw [List.length_map, wl] at lx
      have t6 : Strm H6 p := by
        obtain ⟨a1, a2, a3, a4, e⟩ := t5
        exact ⟨a1, a2, a3, a4, s6 _ _ e⟩
      have n3 : r3 ≠ p := t5.ne f6
      have pick : ∀ (H7 : Hp) (r4 : Int), But p H6 H7 → 0 ≤ r4 → r4 < (xs.length : Int) → ∃ (k4 : Nat) (v : V) (wo : W), r4 = k4 ∧ atI xs r4 = some v ∧ wo ∈ worths ks 3 ks[k2].1 ∧ Has H6 v wo.dat := fun H7 r4 b7 g0 g1 => by
        obtain ⟨k4, rfl⟩ : ∃ k : Nat, r4 = k := ⟨r4.toNat, by omega⟩
        have hk4 : k4 < xs.length := by omega
        obtain ⟨dat, hdat, hhas⟩ := hxl.get (List.getElem?_eq_getElem hk4)
        rw [List.getElem?_map] at hdat
        cases hwo : (worths ks 3 ks[k2].1)[k4]? with
        | none => rw [hwo] at hdat; cases hdat
        | some wo =>
          rw [hwo] at hdat
          cases hdat
          exact ⟨k4, xs[k4], wo, rfl, atI_nat (List.getElem?_eq_getElem hk4), List.mem_of_getElem? hwo, hhas⟩
      refine ⟨_, rfl, _, rfl, _, rfl, r3, xs, rfl, .inl (SqL.of hx), ?_⟩
      refine ⟨p, xs.length, rfl, t6, by omega, by omega, fun r4 H7 g0 g1 b7 t7 => ?_⟩
      obtain ⟨k4, v7, a7, ek4, at7, m7, h7⟩ := pick H7 r4 b7 g0 g1
      have hx7 : H7 r3 = some (.lst xs) := (b7 r3 n3).trans hx
      refine ⟨r3, xs, r4, v7, rfl, rfl, SqL.of hx7, at7, ?_⟩
      refine ⟨_, rfl, _, rfl, _, rfl, r3, xs, rfl, .inl (SqL.of hx7), ?_⟩
      refine ⟨p, xs.length, rfl, t7, by omega, by omega, fun r5 H8 q0' q1' b8 t8 => ?_⟩
      have b68 : But p H6 H8 := b7.trans b8
      obtain ⟨k5, v8, a8, ek5, at8, m8, h8⟩ := pick H8 r5 b68 q0' q1'
      have hx8 : H8 r3 = some (.lst xs) := (b8 r3 n3).trans hx7
      refine ⟨r3, xs, r5, v8, rfl, rfl, SqL.of hx8, at8, ?_⟩
      have hv7 : Has H8 v7 a7.dat := hasW_sb b68.sb t6 a7 h7
      have hv8 : Has H8 v8 a8.dat := hasW_sb b68.sb t6 a8 h8
      have gw : GoodW 3 (worths ks 3 ks[k2].1) := ⟨by omega, fun c hc => by have := wdp c hc; omega, fun a b c ha hb hc => worths_join 3 _ a b c ha hb hc, fun a b ha hb => worths_sim 3 _ a b ha hb, fun a ha => worths_sh kg 3 _ a ha⟩
      refine ⟨_, rfl, p, 2, rfl, t8, by decide, by decide, fun r6 H9 w0' w1' b9 t9 => ?_⟩
      have hx9 : H9 r3 = some (.lst xs) := (b9 r3 n3).trans hx8
      have b69 : But p H6 H9 := b68.trans b9
      have hl9 : HasL H9 xs ((worths ks 3 ks[k2].1).map W.dat) := hasLW_sb b69.sb t6 _ hxl
      have hv79 : Has H9 v7 a7.dat := hasW_sb b9.sb t8 a7 hv7
      have hv89 : Has H9 v8 a8.dat := hasW_sb b9.sb t8 a8 hv8
      refine ⟨rfl, _, rfl, ?_⟩
      refine ite2 (fun c0 => ?_) (fun c0 => ?_)
      · refine ⟨_, rfl, _, rfl, v7, p, a7, rfl, hv79, t9, by have := wdp a7 m7; omega, fun u c H10 sb10 t10 ct hu => ?_⟩
        have sbx : SameB p H6 H10 := b69.sb.trans sb10
        refine ⟨_, rfl, _, rfl, _, rfl, r3, v7, u, xs, _, a7, c, rfl, sb10 _ _ n3 hx9, hasLW_sb sbx t6 _ hxl, gw, hasW_sb sb10 t9 a7 hv79, hu, m7, worths_cut 3 _ a7 c m7 ct, fun H11 s11 => ⟨_, rfl, iteM (by simp) ?_⟩⟩
        exact ⟨sj.trans ((((c5.trans s6.sb).trans sbx).trans s11.sb).same hp), _, _, _, _, _, _, _, rfl⟩
      · refine ⟨_, rfl, _, rfl, _, rfl, r3, v7, v8, xs, _, a7, a8, rfl, hx9, hl9, gw, hv79, hv89, m7, m8, fun H11 s11 => ⟨_, rfl, iteM (by simp) ?_⟩⟩
        exact ⟨sj.trans ((((c5.trans s6.sb).trans b69.sb).trans s11.sb).same hp), _, _, _, _, _, _, _, rfl⟩
    · rintro σ H' ⟨sj, y2, y3, y4, y5, y6, y7, y8, rfl⟩
      exact q _
end
end K4
set_option Elab.async false
set_option linter.all false
set_option maxRecDepth 100000
set_option maxHeartbeats 8000000
namespace K4
open PySem L2
theorem cls_some {K : PySem.W.Frag} {C : Addr} {v : Value} {b : Bool} (h : PySem.W.mroIn K C v = some b) : (PySem.W.clsIn K C).isSome = true := by
  unfold PySem.W.mroIn at h
  obtain ⟨cd, a, _⟩ := Option.bind_eq_some_iff.mp h
  rw [a]; rfl
theorem all_at {l : PySem.W.OpenLaw} {w : World} {K : PySem.W.Frag} {h : Heap} {mg : Str → Option Value} {fa f1 f2 f3 f4 f5 f6 f7 f8 f9 f10 f11 f12 f13 f14 f15 f16 f17 f18 f19 f20 aW c1 c2 c3 c4 c5 c6 c7 c8 c9 c10 c11 c12 aN : Addr} (X : K.In h) (G : h.Ns mainGlobals mg) (hfa : mg "law" = some (.ref fa))
    {od1 an1 od2 an2 od3 an3 od4 an4 od5 an5 od6 an6 od7 an7 od8 an8 od9 an9 od10 an10 od11 an11 od12 an12 od13 an13 od14 an14 od15 an15 od16 an16 od17 an17 od18 an18 od19 an19 od20 an20 : Option Addr} {sl1 sl2 sl3 sl4 sl5 sl6 sl7 sl8 sl9 sl10 sl11 sl12 sl13 sl14 sl15 sl16 sl17 sl18 sl19 sl20 : Array (Option Value)}
    {oc1 kV1 dc1 pm1 cd1 ct1 oc2 kV2 dc2 pm2 cd2 ct2 oc3 kV3 dc3 pm3 cd3 ct3 oc4 kV4 dc4 pm4 cd4 ct4 oc5 kV5 dc5 pm5 cd5 ct5 oc6 kV6 dc6 pm6 cd6 ct6 oc7 kV7 dc7 pm7 cd7 ct7 oc8 kV8 dc8 pm8 cd8 ct8 oc9 kV9 dc9 pm9 cd9 ct9 oc10 kV10 dc10 pm10 cd10 ct10 oc11 kV11 dc11 pm11 cd11 ct11 oc12 kV12 dc12 pm12 cd12 ct12 oc13 kV13 dc13 pm13 cd13 ct13 oc14 kV14 dc14 pm14 cd14 ct14 oc15 kV15 dc15 pm15 cd15 ct15 oc16 kV16 dc16 pm16 cd16 ct16 oc17 kV17 dc17 pm17 cd17 ct17 oc18 kV18 dc18 pm18 cd18 ct18 oc19 kV19 dc19 pm19 cd19 ct19 oc20 kV20 dc20 pm20 cd20 ct20 : Value}
    (a1 : PySem.W.nsIn K mainGlobals "is_under" = some (some (.ref f1)))
    (l1 : K.lookup f1 = some ⟨oc1, od1, .func (PySem.W.fnOf "is_under" "is_under" (defArgs sUnder) (defBody sUnder) (defScope sUnder) .none kV1 dc1 pm1 an1 cd1 ct1), sl1⟩)
    (d1 : PySem.W.codeIn K cd1 "is_under" = true) (k1 : PySem.W.keepIn K (.ref f1) = true)
    (a2 : PySem.W.nsIn K mainGlobals "is_whole" = some (some (.ref f2)))
    (l2 : K.lookup f2 = some ⟨oc2, od2, .func (PySem.W.fnOf "is_whole" "is_whole" (defArgs sWhole) (defBody sWhole) (defScope sWhole) .none kV2 dc2 pm2 an2 cd2 ct2), sl2⟩)
    (d2 : PySem.W.codeIn K cd2 "is_whole" = true) (k2 : PySem.W.keepIn K (.ref f2) = true)
    (a3 : PySem.W.nsIn K mainGlobals "joined" = some (some (.ref f3)))
    (l3 : K.lookup f3 = some ⟨oc3, od3, .func (PySem.W.fnOf "joined" "joined" (defArgs sJoined) (defBody sJoined) (defScope sJoined) .none kV3 dc3 pm3 an3 cd3 ct3), sl3⟩)
    (d3 : PySem.W.codeIn K cd3 "joined" = true) (k3 : PySem.W.keepIn K (.ref f3) = true)
    (a4 : PySem.W.nsIn K mainGlobals "_law_cell" = some (some (.ref f4)))
    (l4 : K.lookup f4 = some ⟨oc4, od4, .func (PySem.W.fnOf "_law_cell" "_law_cell" (defArgs sCell) (defBody sCell) (defScope sCell) .none kV4 dc4 pm4 an4 cd4 ct4), sl4⟩)
    (d4 : PySem.W.codeIn K cd4 "_law_cell" = true) (k4 : PySem.W.keepIn K (.ref f4) = true)
    (a5 : PySem.W.nsIn K mainGlobals "_law_mixed" = some (some (.ref f5)))
    (l5 : K.lookup f5 = some ⟨oc5, od5, .func (PySem.W.fnOf "_law_mixed" "_law_mixed" (defArgs sMixed) (defBody sMixed) (defScope sMixed) .none kV5 dc5 pm5 an5 cd5 ct5), sl5⟩)
    (d5 : PySem.W.codeIn K cd5 "_law_mixed" = true) (k5 : PySem.W.keepIn K (.ref f5) = true)
    (a6 : PySem.W.nsIn K mainGlobals "_law_stream" = some (some (.ref f6)))
    (l6 : K.lookup f6 = some ⟨oc6, od6, .func (PySem.W.fnOf "_law_stream" "_law_stream" (defArgs sStream) (defBody sStream) (defScope sStream) .none kV6 dc6 pm6 an6 cd6 ct6), sl6⟩)
    (d6 : PySem.W.codeIn K cd6 "_law_stream" = true) (k6 : PySem.W.keepIn K (.ref f6) = true)
    (a7 : PySem.W.nsIn K mainGlobals "_law_take" = some (some (.ref f7)))
    (l7 : K.lookup f7 = some ⟨oc7, od7, .func (PySem.W.fnOf "_law_take" "_law_take" (defArgs sTake) (defBody sTake) (defScope sTake) .none kV7 dc7 pm7 an7 cd7 ct7), sl7⟩)
    (d7 : PySem.W.codeIn K cd7 "_law_take" = true) (k7 : PySem.W.keepIn K (.ref f7) = true)
    (a8 : PySem.W.nsIn K mainGlobals "_law_words" = some (some (.ref f8)))
    (l8 : K.lookup f8 = some ⟨oc8, od8, .func (PySem.W.fnOf "_law_words" "_law_words" (defArgs sWords) (defBody sWords) (defScope sWords) .none kV8 dc8 pm8 an8 cd8 ct8), sl8⟩)
    (d8 : PySem.W.codeIn K cd8 "_law_words" = true) (k8 : PySem.W.keepIn K (.ref f8) = true)
    (a9 : PySem.W.nsIn K mainGlobals "_law_small" = some (some (.ref f9)))
    (l9 : K.lookup f9 = some ⟨oc9, od9, .func (PySem.W.fnOf "_law_small" "_law_small" (defArgs sSmall) (defBody sSmall) (defScope sSmall) .none kV9 dc9 pm9 an9 cd9 ct9), sl9⟩)
    (d9 : PySem.W.codeIn K cd9 "_law_small" = true) (k9 : PySem.W.keepIn K (.ref f9) = true)
    (a10 : PySem.W.nsIn K mainGlobals "_law_pair" = some (some (.ref f10)))
    (l10 : K.lookup f10 = some ⟨oc10, od10, .func (PySem.W.fnOf "_law_pair" "_law_pair" (defArgs sPair) (defBody sPair) (defScope sPair) .none kV10 dc10 pm10 an10 cd10 ct10), sl10⟩)
    (d10 : PySem.W.codeIn K cd10 "_law_pair" = true) (k10 : PySem.W.keepIn K (.ref f10) = true)
    (a11 : PySem.W.nsIn K mainGlobals "_law_kinds" = some (some (.ref f11)))
    (l11 : K.lookup f11 = some ⟨oc11, od11, .func (PySem.W.fnOf "_law_kinds" "_law_kinds" (defArgs sKinds) (defBody sKinds) (defScope sKinds) .none kV11 dc11 pm11 an11 cd11 ct11), sl11⟩)
    (d11 : PySem.W.codeIn K cd11 "_law_kinds" = true) (k11 : PySem.W.keepIn K (.ref f11) = true)
    (a12 : PySem.W.nsIn K mainGlobals "_law_same" = some (some (.ref f12)))
    (l12 : K.lookup f12 = some ⟨oc12, od12, .func (PySem.W.fnOf "_law_same" "_law_same" (defArgs sSame) (defBody sSame) (defScope sSame) .none kV12 dc12 pm12 an12 cd12 ct12), sl12⟩)
    (d12 : PySem.W.codeIn K cd12 "_law_same" = true) (k12 : PySem.W.keepIn K (.ref f12) = true)
    (a13 : PySem.W.nsIn K mainGlobals "_law_worths" = some (some (.ref f13)))
    (l13 : K.lookup f13 = some ⟨oc13, od13, .func (PySem.W.fnOf "_law_worths" "_law_worths" (defArgs sWorths) (defBody sWorths) (defScope sWorths) .none kV13 dc13 pm13 an13 cd13 ct13), sl13⟩)
    (d13 : PySem.W.codeIn K cd13 "_law_worths" = true) (k13 : PySem.W.keepIn K (.ref f13) = true)
    (a14 : PySem.W.nsIn K mainGlobals "_law_under" = some (some (.ref f14)))
    (l14 : K.lookup f14 = some ⟨oc14, od14, .func (PySem.W.fnOf "_law_under" "_law_under" (defArgs sLUnder) (defBody sLUnder) (defScope sLUnder) .none kV14 dc14 pm14 an14 cd14 ct14), sl14⟩)
    (d14 : PySem.W.codeIn K cd14 "_law_under" = true) (k14 : PySem.W.keepIn K (.ref f14) = true)
    (a15 : PySem.W.nsIn K mainGlobals "_law_whole" = some (some (.ref f15)))
    (l15 : K.lookup f15 = some ⟨oc15, od15, .func (PySem.W.fnOf "_law_whole" "_law_whole" (defArgs sLWhole) (defBody sLWhole) (defScope sLWhole) .none kV15 dc15 pm15 an15 cd15 ct15), sl15⟩)
    (d15 : PySem.W.codeIn K cd15 "_law_whole" = true) (k15 : PySem.W.keepIn K (.ref f15) = true)
    (a16 : PySem.W.nsIn K mainGlobals "_law_least_above" = some (some (.ref f16)))
    (l16 : K.lookup f16 = some ⟨oc16, od16, .func (PySem.W.fnOf "_law_least_above" "_law_least_above" (defArgs sLeast) (defBody sLeast) (defScope sLeast) .none kV16 dc16 pm16 an16 cd16 ct16), sl16⟩)
    (d16 : PySem.W.codeIn K cd16 "_law_least_above" = true) (k16 : PySem.W.keepIn K (.ref f16) = true)
    (a17 : PySem.W.nsIn K mainGlobals "_law_cut" = some (some (.ref f17)))
    (l17 : K.lookup f17 = some ⟨oc17, od17, .func (PySem.W.fnOf "_law_cut" "_law_cut" (defArgs sCut) (defBody sCut) (defScope sCut) .none kV17 dc17 pm17 an17 cd17 ct17), sl17⟩)
    (d17 : PySem.W.codeIn K cd17 "_law_cut" = true) (k17 : PySem.W.keepIn K (.ref f17) = true)
    (a18 : PySem.W.nsIn K mainGlobals "_law_joined_right" = some (some (.ref f18)))
    (l18 : K.lookup f18 = some ⟨oc18, od18, .func (PySem.W.fnOf "_law_joined_right" "_law_joined_right" (defArgs sJRight) (defBody sJRight) (defScope sJRight) .none kV18 dc18 pm18 an18 cd18 ct18), sl18⟩)
    (d18 : PySem.W.codeIn K cd18 "_law_joined_right" = true) (k18 : PySem.W.keepIn K (.ref f18) = true)
    (a19 : PySem.W.nsIn K mainGlobals "_law_right" = some (some (.ref f19)))
    (l19 : K.lookup f19 = some ⟨oc19, od19, .func (PySem.W.fnOf "_law_right" "_law_right" (defArgs sRight) (defBody sRight) (defScope sRight) .none kV19 dc19 pm19 an19 cd19 ct19), sl19⟩)
    (d19 : PySem.W.codeIn K cd19 "_law_right" = true) (k19 : PySem.W.keepIn K (.ref f19) = true)
    (a20 : PySem.W.nsIn K mainGlobals "law" = some (some (.ref f20)))
    (l20 : K.lookup f20 = some ⟨oc20, od20, .func (PySem.W.fnOf "law" "law" (defArgs sLaw) (defBody sLaw) (defScope sLaw) .none kV20 dc20 pm20 an20 cd20 ct20), sl20⟩)
    (d20 : PySem.W.codeIn K cd20 "law" = true) (k20 : PySem.W.keepIn K (.ref f20) = true)
    (z1 : PySem.W.nsIn K mainGlobals "len" = some none)
    (z2 : PySem.W.nsIn K mainGlobals "isinstance" = some none)
    (z3 : PySem.W.nsIn K mainGlobals "bool" = some none)
    (z4 : PySem.W.nsIn K mainGlobals "str" = some none)
    (z5 : PySem.W.nsIn K mainGlobals "int" = some none)
    (z6 : PySem.W.nsIn K mainGlobals "tuple" = some none)
    (z7 : PySem.W.nsIn K mainGlobals "list" = some none)
    (z8 : PySem.W.nsIn K mainGlobals "dict" = some none)
    (z9 : PySem.W.nsIn K mainGlobals "all" = some none)
    (z10 : PySem.W.nsIn K mainGlobals "zip" = some none)
    (z11 : PySem.W.nsIn K mainGlobals "max" = some none)
    (z12 : PySem.W.nsIn K mainGlobals "range" = some none)
    (z13 : PySem.W.nsIn K mainGlobals "sorted" = some none)
    (z14 : PySem.W.nsIn K mainGlobals "ValueError" = some none)
    (e1 : PySem.W.nsIn K mainGlobals "WantError" = some (some (.ref aW)))
    (e2 : PySem.W.nsIn K mainGlobals "Falling" = some (some (.ref c1)))
    (e3 : PySem.W.nsIn K mainGlobals "NoAsking" = some (some (.ref c2)))
    (e4 : PySem.W.nsIn K mainGlobals "NoBook" = some (some (.ref c3)))
    (e5 : PySem.W.nsIn K mainGlobals "NoCell" = some (some (.ref c4)))
    (e6 : PySem.W.nsIn K mainGlobals "NoKinds" = some (some (.ref c5)))
    (e7 : PySem.W.nsIn K mainGlobals "NoMore" = some (some (.ref c6)))
    (e8 : PySem.W.nsIn K mainGlobals "NoMost" = some (some (.ref c7)))
    (e9 : PySem.W.nsIn K mainGlobals "NoNote" = some (some (.ref c8)))
    (e10 : PySem.W.nsIn K mainGlobals "NoPart" = some (some (.ref c9)))
    (e11 : PySem.W.nsIn K mainGlobals "NoRows" = some (some (.ref c10)))
    (e12 : PySem.W.nsIn K mainGlobals "NoSheet" = some (some (.ref c11)))
    (e13 : PySem.W.nsIn K mainGlobals "Torn" = some (some (.ref c12)))
    (e14 : PySem.W.nsIn K mainGlobals "NoWorth" = some (some (.ref aN)))
    (h2 : PySem.W.typeIn K (.ref aW) = some (.type "type"))
    (h3 : PySem.W.mroIn K aW (.type "BaseException") = some true)
    (x2 : PySem.W.findIn K (.ref aN) "__getattribute__" = some (some (.builtin "BaseException.__getattribute__")))
    (x3 : PySem.W.findIn K (.ref aN) "__getattr__" = some none)
    (x4 : PySem.W.mroIn K aN (.type "BaseException") = some true)
    (x5 : PySem.W.mroIn K aN (.type "object") = some true)
    (x6 : PySem.W.findIn K (.ref aN) "__class__" = some (some (.builtin "object.__class__")))
    (x7 : PySem.W.specialIn K (.builtin "object.__class__") "__get__" = some (some (.builtin "getset_descriptor.__get__")))
    (x8 : PySem.W.takesIn K (.builtin "object.__class__") = some true)
    (x9 : PySem.W.excIn K aN [.type "ValueError", .type "Exception", .type "BaseException", .type "object"] "ValueError.__new__" = true)
    (u1 : PySem.W.subIn K (.ref aN) (.ref aW) = some true)
    (u2 : PySem.W.kitAny K (.ref aN) [.ref c1, .ref c2, .ref c3, .ref c4, .ref c5, .ref c6, .ref c7, .ref c8, .ref c9] = some false)
    (u3 : PySem.W.kitAny K (.ref aN) [.ref c10, .ref c11, .ref c12] = some false)
    (u4 : PySem.W.kitOne K (.ref aN) (.ref aN) = some true)
    (u5 : PySem.W.kitOne K (.ref aN) (.type "ValueError") = some true)
    : ∃ fd : FuncData, (∀ (s : Shared) (v : Value), BindsTo s fd ⟨[v], []⟩ [("script", v)]) ∧ ∀ base : Heap, K.In base → base.Ns mainGlobals mg → FnOk l.prog w K mg base CX0 11 fa fd ["script"] (spLaw K) := by
  have e := hfa.symm.trans (PySem.W.mg_of X G a20)
  cases e
  have F1 := fun_mk (st := sUnder) l1 d1 k1
  have F2 := fun_mk (st := sWhole) l2 d2 k2
  have F3 := fun_mk (st := sJoined) l3 d3 k3
  have F4 := fun_mk (st := sCell) l4 d4 k4
  have F5 := fun_mk (st := sMixed) l5 d5 k5
  have F6 := fun_mk (st := sStream) l6 d6 k6
  have F7 := fun_mk (st := sTake) l7 d7 k7
  have F8 := fun_mk (st := sWords) l8 d8 k8
  have F9 := fun_mk (st := sSmall) l9 d9 k9
  have F10 := fun_mk (st := sPair) l10 d10 k10
  have F11 := fun_mk (st := sKinds) l11 d11 k11
  have F12 := fun_mk (st := sSame) l12 d12 k12
  have F13 := fun_mk (st := sWorths) l13 d13 k13
  have F14 := fun_mk (st := sLUnder) l14 d14 k14
  have F15 := fun_mk (st := sLWhole) l15 d15 k15
  have F16 := fun_mk (st := sLeast) l16 d16 k16
  have F17 := fun_mk (st := sCut) l17 d17 k17
  have F18 := fun_mk (st := sJRight) l18 d18 k18
  have F19 := fun_mk (st := sRight) l19 d19 k19
  have F20 := fun_mk (st := sLaw) l20 d20 k20
  have b1 := F1.binds (ps := ["one", "other"]) fun _ _ _ _ _ _ us hl => match us, hl with | [_, _], _ => rfl
  have m1 := PySem.W.mg_of X G a1
  have b2 := F2.binds (ps := ["worth"]) fun _ _ _ _ _ _ us hl => match us, hl with | [_], _ => rfl
  have m2 := PySem.W.mg_of X G a2
  have b3 := F3.binds (ps := ["one", "other"]) fun _ _ _ _ _ _ us hl => match us, hl with | [_, _], _ => rfl
  have m3 := PySem.W.mg_of X G a3
  have b4 := F4.binds (ps := ["script", "k"]) fun _ _ _ _ _ _ us hl => match us, hl with | [_, _], _ => rfl
  have m4 := PySem.W.mg_of X G a4
  have b5 := F5.binds (ps := ["cell", "k"]) fun _ _ _ _ _ _ us hl => match us, hl with | [_, _], _ => rfl
  have m5 := PySem.W.mg_of X G a5
  have b6 := F6.binds (ps := ["cell"]) fun _ _ _ _ _ _ us hl => match us, hl with | [_], _ => rfl
  have m6 := PySem.W.mg_of X G a6
  have b7 := F7.binds (ps := ["stream", "many"]) fun _ _ _ _ _ _ us hl => match us, hl with | [_, _], _ => rfl
  have m7 := PySem.W.mg_of X G a7
  have b8 := F8.binds (ps := ["stream", "many", "letters", "ways"]) fun _ _ _ _ _ _ us hl => match us, hl with | [_, _, _, _], _ => rfl
  have m8 := PySem.W.mg_of X G a8
  have b9 := F9.binds (ps := ["stream", "many"]) fun _ _ _ _ _ _ us hl => match us, hl with | [_, _], _ => rfl
  have m9 := PySem.W.mg_of X G a9
  have b10 := F10.binds (ps := ["stream", "names", "counts", "depths", "taken", "top"]) fun _ _ _ _ _ _ us hl => match us, hl with | [_, _, _, _, _, _], _ => rfl
  have m10 := PySem.W.mg_of X G a10
  have b11 := F11.binds (ps := ["stream", "most", "top"]) fun _ _ _ _ _ _ us hl => match us, hl with | [_, _, _], _ => rfl
  have m11 := PySem.W.mg_of X G a11
  have b12 := F12.binds (ps := ["found", "due"]) fun _ _ _ _ _ _ us hl => match us, hl with | [_, _], _ => rfl
  have m12 := PySem.W.mg_of X G a12
  have b13 := F13.binds (ps := ["shapes", "kind"]) fun _ _ _ _ _ _ us hl => match us, hl with | [_, _], _ => rfl
  have m13 := PySem.W.mg_of X G a13
  have b14 := F14.binds (ps := ["one", "other"]) fun _ _ _ _ _ _ us hl => match us, hl with | [_, _], _ => rfl
  have m14 := PySem.W.mg_of X G a14
  have b15 := F15.binds (ps := ["worth"]) fun _ _ _ _ _ _ us hl => match us, hl with | [_], _ => rfl
  have m15 := PySem.W.mg_of X G a15
  have b16 := F16.binds (ps := ["worths", "one", "other"]) fun _ _ _ _ _ _ us hl => match us, hl with | [_, _, _], _ => rfl
  have m16 := PySem.W.mg_of X G a16
  have b17 := F17.binds (ps := ["worth", "stream"]) fun _ _ _ _ _ _ us hl => match us, hl with | [_, _], _ => rfl
  have m17 := PySem.W.mg_of X G a17
  have b18 := F18.binds (ps := ["one", "other", "due"]) fun _ _ _ _ _ _ us hl => match us, hl with | [_, _, _], _ => rfl
  have m18 := PySem.W.mg_of X G a18
  have b19 := F19.binds (ps := ["worths", "one", "other"]) fun _ _ _ _ _ _ us hl => match us, hl with | [_, _, _], _ => rfl
  have m19 := PySem.W.mg_of X G a19
  have B : Blt mg := ⟨PySem.W.mg_none_of X G z1, PySem.W.mg_none_of X G z2, PySem.W.mg_none_of X G z3, PySem.W.mg_none_of X G z4, PySem.W.mg_none_of X G z5, PySem.W.mg_none_of X G z6, PySem.W.mg_none_of X G z7, PySem.W.mg_none_of X G z8, PySem.W.mg_none_of X G z9, PySem.W.mg_none_of X G z10, PySem.W.mg_none_of X G z11, PySem.W.mg_none_of X G z12, PySem.W.mg_none_of X G z13⟩
  have C : XC K mg aW c1 c2 c3 c4 c5 c6 c7 c8 c9 c10 c11 c12 aN := ⟨PySem.W.mg_of X G e1, PySem.W.mg_of X G e2, PySem.W.mg_of X G e3, PySem.W.mg_of X G e4, PySem.W.mg_of X G e5, PySem.W.mg_of X G e6, PySem.W.mg_of X G e7, PySem.W.mg_of X G e8, PySem.W.mg_of X G e9, PySem.W.mg_of X G e10, PySem.W.mg_of X G e11, PySem.W.mg_of X G e12, PySem.W.mg_of X G e13, PySem.W.mg_of X G e14, PySem.W.mg_none_of X G z14, ⟨cls_some h3, h2, h3⟩, ⟨cls_some x4, x2, x3, x4, x5, x6, x7, x8⟩, x9, u1, u2, u3, u4, u5⟩
  refine ⟨PySem.W.fnOf "law" "law" (defArgs sLaw) (defBody sLaw) (defScope sLaw) .none kV20 dc20 pm20 an20 cd20 ct20, fun s v => .of_eq rfl, fun base _ _ => ?_⟩
  have tk : ∀ n, FnOk l.prog w K mg base CX0 (n + 2) f7 _ ["stream", "many"] spTake := fun n => ok_take F7 (ok_mixed (n := n) F5) b5 k5 m5
  have wo : ∀ n, FnOk l.prog w K mg base CX0 (n + 3) f8 _ ["stream", "many", "letters", "ways"] spWords := fun n => ok_words B F8 (tk n) b7 k7 m7
  have sm : ∀ n, FnOk l.prog w K mg base CX0 (n + 4) f9 _ ["stream", "many"] spSmall := fun n => ok_small F9 (wo n) b8 k8 m8
  have pr : FnOk l.prog w K mg base CX0 9 f10 _ ["stream", "names", "counts", "depths", "taken", "top"] (spPair K) := ok_pair (n := 2) B F10 (tk 6) b7 k7 m7
  have kn : FnOk l.prog w K mg base CX0 10 f11 _ ["stream", "most", "top"] spKinds := ok_kinds (n := 9) B F11 (tk 7) b7 k7 m7 (sm 5) b9 k9 m9 (wo 6) b8 k8 m8 pr b10 k10 m10
  have sa : FnOk l.prog w K mg base CX0 3 f12 _ ["found", "due"] (spSame 3) := same_ok B F12 b12 m12 3
  have un : FnOk l.prog w K mg base CX0 6 f1 _ ["one", "other"] (spUnder 3) := under_ok B F1 b1 m1 3
  have lu : FnOk l.prog w K mg base CX0 6 f14 _ ["one", "other"] (spUnder 3) := lunder_ok B F14 b14 m14 3
  have wh : FnOk l.prog w K mg base CX0 3 f2 _ ["worth"] (spWhole 3) := whole_ok B F2 b2 m2 3
  have lw : FnOk l.prog w K mg base CX0 3 f15 _ ["worth"] (spWhole 3) := lwhole_ok B F15 b15 m15 3
  have jo : FnOk l.prog w K mg base (CX1 l.prog w) 6 f3 _ ["one", "other"] (spJoin aN 3) := joined_ok B C.mN C.isx F3 b3 m3 3
  have ct' : FnOk l.prog w K mg base CX0 5 f17 _ ["worth", "stream"] (spCut 3) := cut_ok B F17 tk b7 k7 m7 b17 m17 3
  have le : FnOk l.prog w K mg base CX0 7 f16 _ ["worths", "one", "other"] (spLeast 3) := ok_least B F16 lu b14 k14 m14
  have jr : FnOk l.prog w K mg base CX0 7 f18 _ ["one", "other", "due"] (spJR 3) := ok_jr (m := 6) (by decide) B C F18 jo b3 k3 m3 (sa.mono (by decide)) b12 k12 m12
  have ri : FnOk l.prog w K mg base CX0 8 f19 _ ["worths", "one", "other"] (spRight3 3) := ok_right3 (m := 7) (by decide) B F19 (sa.mono (by decide)) b12 k12 m12 (un.mono (by decide)) b1 k1 m1 (lu.mono (by decide)) b14 k14 m14 le b16 k16 m16 jr b18 k18 m18 (wh.mono (by decide)) b2 k2 m2 (lw.mono (by decide)) b15 k15 m15
  exact ok_law (n := 10) (by decide) B F20 (ok_cell (n := 9) B F4) b4 k4 m4 (ok_stream (n := 9) F6) b6 k6 m6 (tk 8) b7 k7 m7 kn b11 k11 m11 (worths_fn B F13 b13 m13 10) b13 k13 m13 (ct'.mono (by decide)) b17 k17 m17 (ri.mono (by decide)) b19 k19 m19
theorem goes {l : PySem.W.OpenLaw} {q : Program} {loose : List Str} {XP : (Str → Option Value) → Heap → Prop} {YP : World → Heap → Prop} {d : DefRec} {K : Params → PySem.W.Frag} (hn : l.most = some 63) (hdf : d.params.defaults = [])
    (hY : ∀ (w : World) (h : Heap), YP w h → (K w.params).In h)
    (F : ∀ (w : World) (mg : Str → Option Value) (fa : Addr) (h : Heap), (K w.params).In h → h.Ns mainGlobals mg → mg d.name = some (.ref fa) →
      ∃ fd : FuncData, (∀ (s : Shared) (u : Value), BindsTo s fd ⟨[u], []⟩ [("script", u)]) ∧ ∀ base : Heap, (K w.params).In base → base.Ns mainGlobals mg → FnOk l.prog w (K w.params) mg base CX0 11 fa fd ["script"] (spLaw (K w.params))) :
    PySem.W.WalkO q loose XP YP l.row.toRowW d [] (fun f vs => PySem.call f vs) :=
  L2.walk_of (n := 63) (k := 11) (x := "script") (CX := fun _ => CX0) (sp := fun w => spLaw (K w.params)) hn (by decide) hdf ⟨rfl, by decide, by decide⟩ hY F (fun _ _ a ns hl _ hS => ⟨a, ns, rfl, hS, hl, fun _ => rfl⟩) fun _ _ _ _ _ z => z
end K4
def PySem.W.Fast.tw16716136828255786510 : Unit := ()
def PySem.W.Fast.tw2795560710856163068 : Unit := ()
def PySem.W.Fast.tw15145569224605207990 : Unit := ()
def PySem.W.Fast.tw17242264890510985960 : Unit := ()
def PySem.W.Fast.tw2090313078050193281 : Unit := ()
def PySem.W.Fast.tw10983911965108099884 : Unit := ()
def PySem.W.Fast.tw1618855942386082419 : Unit := ()
def PySem.W.Fast.tw4102591139433354097 : Unit := ()
def PySem.W.Fast.tw16202212085711203238 : Unit := ()
def PySem.W.Fast.tw16716428917233736545 : Unit := ()
def PySem.W.Fast.tw4963835714090291613 : Unit := ()
def PySem.W.Fast.tw16899773172685614002 : Unit := ()
def PySem.W.Fast.tw4591006811746431056 : Unit := ()
def PySem.W.Fast.tw11790224970669095307 : Unit := ()
def PySem.W.Fast.tw2193958500174652326 : Unit := ()
def PySem.W.Fast.tw16285582340547105202 : Unit := ()
open PySem PySem.W PyProof.Rows
set_option maxRecDepth 100000 in
set_option maxHeartbeats 0 in
theorem PySem.Challenge.cw_wantway_k03_under_and_joined_holds : PySem.Challenge.rw_wantway_k03_under_and_joined.Holds := by
  w_on; o_law; k_head; (case hw => w_witness2)
  k_fill
  refine K4.goes (l := PySem.Challenge.rw_wantway_k03_under_and_joined) rfl rfl (fun w h Y => PySem.W.kIn_of Y) ?F
  case F =>
    intro w mg fa h KX G hmg
    refine' K4.all_at KX G hmg ?a1 ?l1 ?d1 ?k1 ?a2 ?l2 ?d2 ?k2 ?a3 ?l3 ?d3 ?k3 ?a4 ?l4 ?d4 ?k4 ?a5 ?l5 ?d5 ?k5 ?a6 ?l6 ?d6 ?k6 ?a7 ?l7 ?d7 ?k7 ?a8 ?l8 ?d8 ?k8 ?a9 ?l9 ?d9 ?k9 ?a10 ?l10 ?d10 ?k10 ?a11 ?l11 ?d11 ?k11 ?a12 ?l12 ?d12 ?k12 ?a13 ?l13 ?d13 ?k13 ?a14 ?l14 ?d14 ?k14 ?a15 ?l15 ?d15 ?k15 ?a16 ?l16 ?d16 ?k16 ?a17 ?l17 ?d17 ?k17 ?a18 ?l18 ?d18 ?k18 ?a19 ?l19 ?d19 ?k19 ?a20 ?l20 ?d20 ?k20 ?z1 ?z2 ?z3 ?z4 ?z5 ?z6 ?z7 ?z8 ?z9 ?z10 ?z11 ?z12 ?z13 ?z14 ?e1 ?e2 ?e3 ?e4 ?e5 ?e6 ?e7 ?e8 ?e9 ?e10 ?e11 ?e12 ?e13 ?e14 ?h2 ?h3 ?x2 ?x3 ?x4 ?x5 ?x6 ?x7 ?x8 ?x9 ?u1 ?u2 ?u3 ?u4 ?u5
    (case a1 => k_is)
    (case l1 => k_is)
    (case d1 => k_is)
    (case k1 => k_is)
    (case a2 => k_is)
    (case l2 => k_is)
    (case d2 => k_is)
    (case k2 => k_is)
    (case a3 => k_is)
    (case l3 => k_is)
    (case d3 => k_is)
    (case k3 => k_is)
    (case a4 => k_is)
    (case l4 => k_is)
    (case d4 => k_is)
    (case k4 => k_is)
    (case a5 => k_is)
    (case l5 => k_is)
    (case d5 => k_is)
    (case k5 => k_is)
    (case a6 => k_is)
    (case l6 => k_is)
    (case d6 => k_is)
    (case k6 => k_is)
    (case a7 => k_is)
    (case l7 => k_is)
    (case d7 => k_is)
    (case k7 => k_is)
    (case a8 => k_is)
    (case l8 => k_is)
    (case d8 => k_is)
    (case k8 => k_is)
    (case a9 => k_is)
    (case l9 => k_is)
    (case d9 => k_is)
    (case k9 => k_is)
    (case a10 => k_is)
    (case l10 => k_is)
    (case d10 => k_is)
    (case k10 => k_is)
    (case a11 => k_is)
    (case l11 => k_is)
    (case d11 => k_is)
    (case k11 => k_is)
    (case a12 => k_is)
    (case l12 => k_is)
    (case d12 => k_is)
    (case k12 => k_is)
    (case a13 => k_is)
    (case l13 => k_is)
    (case d13 => k_is)
    (case k13 => k_is)
    (case a14 => k_is)
    (case l14 => k_is)
    (case d14 => k_is)
    (case k14 => k_is)
    (case a15 => k_is)
    (case l15 => k_is)
    (case d15 => k_is)
    (case k15 => k_is)
    (case a16 => k_is)
    (case l16 => k_is)
    (case d16 => k_is)
    (case k16 => k_is)
    (case a17 => k_is)
    (case l17 => k_is)
    (case d17 => k_is)
    (case k17 => k_is)
    (case a18 => k_is)
    (case l18 => k_is)
    (case d18 => k_is)
    (case k18 => k_is)
    (case a19 => k_is)
    (case l19 => k_is)
    (case d19 => k_is)
    (case k19 => k_is)
    (case a20 => k_is)
    (case l20 => k_is)
    (case d20 => k_is)
    (case k20 => k_is)
    (case z1 => k_is)
    (case z2 => k_is)
    (case z3 => k_is)
    (case z4 => k_is)
    (case z5 => k_is)
    (case z6 => k_is)
    (case z7 => k_is)
    (case z8 => k_is)
    (case z9 => k_is)
    (case z10 => k_is)
    (case z11 => k_is)
    (case z12 => k_is)
    (case z13 => k_is)
    (case z14 => k_is)
    (case e1 => k_is)
    (case e2 => k_is)
    (case e3 => k_is)
    (case e4 => k_is)
    (case e5 => k_is)
    (case e6 => k_is)
    (case e7 => k_is)
    (case e8 => k_is)
    (case e9 => k_is)
    (case e10 => k_is)
    (case e11 => k_is)
    (case e12 => k_is)
    (case e13 => k_is)
    (case e14 => k_is)
    (case h2 => k_is)
    (case h3 => k_is)
    (case x2 => k_is)
    (case x3 => k_is)
    (case x4 => k_is)
    (case x5 => k_is)
    (case x6 => k_is)
    (case x7 => k_is)
    (case x8 => k_is)
    (case x9 => k_exc)
    (case u1 => k_is)
    (case u2 => kit_is)
    (case u3 => kit_is)
    (case u4 => kit_is)
    (case u5 => kit_is)
#print axioms PySem.Challenge.cw_wantway_k03_under_and_joined_holds
