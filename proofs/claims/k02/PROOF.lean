import PyProof.Rows.All
import Wide.All
import OpenK.AllK
import Wide.FinOn
import Lean
import PyProof.EqAt
import PyProof.EqKinds
import PyProof.TupleCall
import KE.KDictList
import KE.LcSums
import PyProof.ZipIter
import PyProof.NeKinds
import PyProof.StrWalks
import PyProof.DictWalks
import PyProof.AttrMissSeq
import PyProof.EnumStmt
import PyProof.StrLawsRepr
import PyProof.StrLawsIn
import PyProof.FString4
import PyProof.Rows.StrCase
import PyProof.Rows.StrLen
import PyProof.StrBlock2
import PySem.Challenge.RW_wantway_k02_no_kinds
set_option Elab.async false
set_option linter.all false
set_option maxRecDepth 100000
set_option maxHeartbeats 8000000
-- CHANGE: your row's module here, as the last of these rows
namespace L2
open PySem PySem.Spec PyProof.Rows
abbrev Key := Sum Int Str
def keyIs : Key → Value → Bool
  | .inl k, v => Value.isInt k v
  | .inr x, v => Value.isStrOf x v
def keyH (w : World) : Key → Int
  | .inl k => hashInt k
  | .inr x => hashStr w x
theorem keyIs_shape : ∀ {k : Key} {v : Value}, keyIs k v = true → (∃ i t, k = Sum.inl i ∧ v = Value.int i t) ∨ (∃ x t, k = Sum.inr x ∧ v = Value.str x t)
  | .inl i, v, h => by
    obtain ⟨t, e⟩ := Value.isInt_shape (k := i) (v := v) h
    exact .inl ⟨i, t, rfl, e⟩
  | .inr x, v, h => by
    obtain ⟨t, e⟩ := Value.isStrOf_shape (x := x) (v := v) h
    exact .inr ⟨x, t, rfl, e⟩
theorem keyIs_int (i : Int) (t : Tok) : keyIs (.inl i) (.int i t) = true := by simp [keyIs, Value.isInt]
theorem keyIs_str (x : Str) (t : Tok) : keyIs (.inr x) (.str x t) = true := by simp [keyIs, Value.isStrOf]
theorem key_ll (a b : Int) : decide ((Sum.inl a : Key) = Sum.inl b) = (a == b) := by
  by_cases e : a = b
  · subst e; simp
  · have h : ¬ (Sum.inl a : Key) = Sum.inl b := fun q => e (Sum.inl.inj q)
    rw [decide_eq_false h]
    exact (beq_eq_false_iff_ne.mpr e).symm
theorem key_rr (a b : Str) : decide ((Sum.inr a : Key) = Sum.inr b) = decide (a = b) := by
  by_cases e : a = b
  · subst e; simp
  · have h : ¬ (Sum.inr a : Key) = Sum.inr b := fun q => e (Sum.inr.inj q)
    rw [decide_eq_false h, decide_eq_false e]
theorem key_lr (a : Int) (b : Str) : decide ((Sum.inl a : Key) = Sum.inr b) = false := decide_eq_false (fun q => nomatch q)
theorem key_rl (a : Str) (b : Int) : decide ((Sum.inr a : Key) = Sum.inl b) = false := decide_eq_false (fun q => nomatch q)
def mixKind (prog : Program) (w : World) : PySem.KeyKind prog w Key where
  is := keyIs
  hash := keyH w
  inj := fun v a b ha hb => by
    rcases keyIs_shape ha with ⟨i, t, rfl, rfl⟩ | ⟨x, t, rfl, rfl⟩
    · rcases keyIs_shape hb with ⟨j, u, rfl, e⟩ | ⟨y, u, rfl, e⟩
      · injection e with e1 _; rw [e1]
      · exact nomatch e
    · rcases keyIs_shape hb with ⟨j, u, rfl, e⟩ | ⟨y, u, rfl, e⟩
      · exact nomatch e
      · injection e with e1 _; rw [e1]
  byValue := fun k v h => by
    rcases keyIs_shape h with ⟨i, t, rfl, rfl⟩ | ⟨x, t, rfl, rfl⟩ <;> rfl
  pyHash := fun hv h => by
    rcases keyIs_shape hv with ⟨i, t, rfl, rfl⟩ | ⟨x, t, rfl, rfl⟩
    · exact wpAny_pyHash_int h
    · exact wpAny_pyHash_str h
  eqBool := fun hu hv h => by
    rcases keyIs_shape hu with ⟨i, t, rfl, rfl⟩ | ⟨x, t, rfl, rfl⟩
    · rcases keyIs_shape hv with ⟨j, u, rfl, rfl⟩ | ⟨y, u, rfl, rfl⟩
      · rw [key_ll] at h; exact wpAny_eqBool_int h
      · rw [key_lr] at h; exact SeqAt.EqAt.int_str i t y u _ _ _ _ h
    · rcases keyIs_shape hv with ⟨j, u, rfl, rfl⟩ | ⟨y, u, rfl, rfl⟩
      · rw [key_rl] at h; exact SeqAt.EqAt.str_int x t j u _ _ _ _ h
      · rw [key_rr] at h; exact wpAny_eqBool_str h
  «strs» := fun k x t v h => by
    rcases keyIs_shape h with ⟨i, u, rfl, e⟩ | ⟨y, u, rfl, e⟩
    · exact nomatch e
    · injection e with e1 _
      subst e1
      cases v <;> rfl
theorem mixKind_int (prog : Program) (w : World) (i : Int) (t : Tok) : (mixKind prog w).is (.inl i) (.int i t) = true := keyIs_int i t
theorem mixKind_str (prog : Program) (w : World) (x : Str) (t : Tok) : (mixKind prog w).is (.inr x) (.str x t) = true := keyIs_str x t
end L2
namespace L2
open PySem PySem.Spec PyProof.Rows
inductive V where
  | non | bl (b : Bool) | int (i : Int) | str (x : Str) | byt (b : Array UInt8) | flt (b : UInt64) | ref (a : Addr) | ty (n : String)
  deriving DecidableEq
def RelV : V → Value → Prop
  | .non, u => u = Value.none
  | .bl b, u => u = Value.bool b
  | .int i, u => ∃ t, u = Value.int i t
  | .str x, u => ∃ t, u = Value.str x t
  | .byt b, u => ∃ t, u = Value.bytes b t
  | .flt b, u => ∃ t, u = Value.float b t
  | .ref a, u => u = Value.ref a
  | .ty n, u => u = Value.type n
abbrev Vals : List V → List Value → Prop := Paired RelV
theorem Vals.length {xs : List V} {us : List Value} (r : Vals xs us) : xs.length = us.length := Paired.length r
theorem Vals.get : ∀ {xs : List V} {us : List Value} {i : Nat} {x : V}, Vals xs us → xs[i]? = some x → ∃ u, us[i]? = some u ∧ RelV x u
  | _, _, _, _, .nil, e => by simp at e
  | _, _, 0, _, .cons r _, e => by simp at e; subst e; exact ⟨_, rfl, r⟩
  | _, _, i + 1, x, .cons _ t, e => by
    obtain ⟨u, h1, h2⟩ := Vals.get (i := i) (x := x) t (by simpa using e)
    exact ⟨u, by simpa using h1, h2⟩
theorem Vals.set {x : V} {u : Value} (r : RelV x u) : ∀ {xs : List V} {us : List Value} (i : Nat), Vals xs us → Vals (xs.set i x) (us.set i u)
  | _, _, _, .nil => .nil
  | _, _, 0, .cons _ t => .cons r t
  | _, _, i + 1, .cons q t => .cons q (Vals.set r i t)
theorem Vals.append : ∀ {xs ys : List V} {us ws : List Value}, Vals xs us → Vals ys ws → Vals (xs ++ ys) (us ++ ws)
  | _, _, _, _, .nil, s => s
  | _, _, _, _, .cons r t, s => .cons r (Vals.append t s)
theorem Vals.take : ∀ {xs : List V} {us : List Value} (n : Nat), Vals xs us → Vals (xs.take n) (us.take n)
  | _, _, 0, _ => .nil
  | _, _, _ + 1, .nil => .nil
  | _, _, n + 1, .cons r t => .cons r (Vals.take n t)
theorem Vals.drop : ∀ {xs : List V} {us : List Value} (n : Nat), Vals xs us → Vals (xs.drop n) (us.drop n)
  | _, _, 0, r => r
  | _, _, _ + 1, .nil => .nil
  | _, _, n + 1, .cons _ t => Vals.drop n t
def RelO : Option V → Option Value → Prop
  | some v, some u => RelV v u
  | none, none => True
  | _, _ => False
def KV {κ : Type} : List (κ × V) → List (κ × Value) → Prop := Paired fun (p : κ × V) (q : κ × Value) => p.1 = q.1 ∧ RelV p.2 q.2
def kV : Key → V
  | .inl i => .int i
  | .inr x => .str x
inductive HO where
  /-- a list -/
  | lst (xs : List V)
  /-- a tuple (never changes) -/
  | tup (xs : List V)
  /-- a dict whose keys are ints and texts; one whose keys are tuples of ints and texts (the empty one is both) -/
  | dK (kvs : List (Key × V)) | dT (kvs : List (List Key × V))
  /-- a set of ints: its members, its size -/
  | set (S : Int → Bool) (n : Nat)
  /-- an instance of the class at C, its dict at dx, its attributes -/
  | ins (C dx : Addr) (fs : List (Str × V))
  /-- the dict of the instance at x -/
  | own (x : Addr)
  /-- the dict of an exception -/
  | xd (fs : List (Str × V))
  /-- a bound method, f of x -/
  | met (f x : Addr)
  /-- a range object lo, lo + 1, .. below hi -/
  | rng (lo hi : Int)
  /-- a thing that is known to the object (the script; a dict while a loop walks it): read, never written while it is so -/
  | frz (o : Obj) (u : HO)
  /-- a code object's table -/
  | tbl (ps : Array Value)
  /-- any other thing, by what is true of its one object (a def of one's own: SetO a S n := HO.ext fun h => ..) -/
  | ext (φ : Heap → Prop)
abbrev Hp := Addr → Option HO
def upd (H : Hp) (a : Addr) (o : HO) : Hp := fun b => if b = a then some o else H b
theorem upd_same {H : Hp} {a : Addr} {o : HO} : upd H a o a = some o := by unfold upd; rw [if_pos rfl]
theorem upd_ne {H : Hp} {a b : Addr} {o : HO} (h : b ≠ a) : upd H a o b = H b := by unfold upd; rw [if_neg h]
theorem ne_of {H : Hp} {a b : Addr} {o u : HO} (h : H a = some o) (h' : H b = some u) (d : o ≠ u) : a ≠ b := by
  intro e; subst e; rw [h] at h'; exact d (Option.some.inj h')
theorem ne_of_none {H : Hp} {a b : Addr} {o : HO} (h : H a = some o) (h' : H b = none) : a ≠ b := by
  intro e; subst e; rw [h] at h'; cases h'
def TupD (h : Heap) (a : Addr) (items : Array Value) : Prop := ∃ o, h.get? a = some o ∧ o.dict = none ∧ o.cls = .type "tuple" ∧ ∃ n, o.data = .seq items n
theorem TupD.is {h : Heap} {a : Addr} {items : Array Value} (x : TupD h a items) : IsTup h a items := let ⟨o, h1, _, h2, h3⟩ := x; ⟨o, h1, h2, h3⟩
theorem TupD.new (h : Heap) (items : Array Value) : TupD (h.push { cls := .type "tuple", data := .seq items }) h.objs.size items := ⟨_, Heap.get?_push_size _ rfl, rfl, rfl, _, rfl⟩
section
variable (P : Program) (w : World)
def ObjOk (H : Hp) (h : Heap) (a : Addr) : HO → Prop
  | .lst xs => xs.length ≤ sizeLine ∧ ∃ (its : List Value) (n : Nat), Vals xs its ∧ h.get? a = some { cls := .type "list", data := .seq its.toArray n }
  | .tup xs => xs.length ≤ sizeLine ∧ ∃ its : List Value, Vals xs its ∧ TupD h a its.toArray
  | .dK kvs => kvs.length ≤ sizeLine ∧ (a == sysModules) = false ∧ ∃ vs, KV kvs vs ∧ h.DictOf (mixKind P w) a vs
  | .dT kvs => kvs.length ≤ sizeLine ∧ (a == sysModules) = false ∧ ∃ xs : List (List Key × Addr × Value),
      Paired (fun (p : List Key × V) (q : List Key × Addr × Value) => p.1 = q.1 ∧ H q.2.1 = some (.tup (p.1.map kV)) ∧ RelV p.2 q.2.2) kvs xs ∧
      ∃ o es ep, h.get? a = some o ∧ o.ExactDict ∧ o.data = .dict es ep ∧ es.toList = xs.map (entryOfKey (tupleKind (mixKind P w))) ∧ (xs.map (·.1)).Nodup
  | .set S n => h.SetOf (intKind P w) a S n
  | .ins C dx fs => H dx = some (.own a) ∧ fs.length ≤ 1000 ∧ dx ≠ a ∧ h.get? a = some (PySem.W.instObj C dx) ∧
      ∃ mA, h.Ns1 dx mA ∧ (∀ f, RelO (fs.lookup f) (mA f)) ∧ PySem.Within mA (fs.map (·.1))
  | .own _ => ∃ o, h.get? a = some o
  | .xd fs => ∃ mA, h.Ns1 a mA ∧ ∀ f, RelO (fs.lookup f) (mA f)
  | .rng lo hi => ∃ t u v, h.get? a = some { cls := .type "range", data := .fields #[.int lo t, .int hi u, .int 1 v] }
  | .frz o u => h.get? a = some o ∧ ObjOk H h a u
  | .tbl ps => h.get? a = some { cls := .none, data := .fields ps }
  | .met f x => h.get? a = some (PySem.W.methodObj (.ref f) (.ref x))
  | .ext φ => φ h ∧ (∃ o, h.get? a = some o) ∧ ∀ h1 h2 : Heap, φ h1 → (∀ o, h1.get? a = some o → h2.get? a = some o) → φ h2
def HOk (H : Hp) (h : Heap) : Prop := ∀ a o, H a = some o → ObjOk P w H h a o
end
section
variable {P : Program} {w : World} {H H' : Hp} {h h' : Heap} {a : Addr} {o : HO}
theorem ObjOk.lt (x : ObjOk P w H h a o) : a < h.objs.size := by
  cases o with
  | lst xs => obtain ⟨_, _, _, _, e⟩ := x; exact Heap.lt_size e
  | tup xs => obtain ⟨_, _, _, p⟩ := x; exact p.is.lt
  | dK kvs => obtain ⟨_, _, _, _, o, _, _, e, _⟩ := x; exact Heap.lt_size e
  | dT kvs => obtain ⟨_, _, _, _, o, _, _, e, _⟩ := x; exact Heap.lt_size e
  | set S n => obtain ⟨o, _, _, _, e, _⟩ := x; exact Heap.lt_size e
  | ins C dx fs => obtain ⟨_, _, _, e, _⟩ := x; exact Heap.lt_size e
  | own y => obtain ⟨_, e⟩ := x; exact Heap.lt_size e
  | xd fs => obtain ⟨_, ⟨_, _, _, e, _⟩, _⟩ := x; exact Heap.lt_size e
  | rng lo hi => obtain ⟨_, _, _, e⟩ := x; exact Heap.lt_size e
  | frz ob u => obtain ⟨e, _⟩ := x; exact Heap.lt_size e
  | tbl ps => exact Heap.lt_size (show h.get? a = some _ from x)
  | met f y => exact Heap.lt_size (show h.get? a = some _ from x)
  | ext φ => obtain ⟨_, ⟨_, e⟩, _⟩ := x; exact Heap.lt_size e
theorem Paired.mapP {α β : Type} {F G : α → β → Prop} : ∀ {l₁ : List α} {l₂ : List β}, Paired F l₁ l₂ → (∀ a b, F a b → G a b) → Paired G l₁ l₂
  | _, _, .nil, _ => .nil
  | _, _, .cons r t, f => .cons (f _ _ r) (Paired.mapP t f)
theorem ObjOk.stay (x : ObjOk P w H h a o) (k : ∀ b u, (b = a ∨ H b = some (.own a)) → h.get? b = some u → h'.get? b = some u)
    (ho : ∀ b, H b = some (.own a) → H' b = some (.own a)) (ht : ∀ b xs, H b = some (.tup xs) → H' b = some (.tup xs)) : ObjOk P w H' h' a o := by
  induction o with
  | lst xs => obtain ⟨z, its, n, r, e⟩ := x; exact ⟨z, its, n, r, k _ _ (.inl rfl) e⟩
  | tup xs => obtain ⟨z, its, r, ob, e, c⟩ := x; exact ⟨z, its, r, ob, k _ _ (.inl rfl) e, c⟩
  | dK kvs => obtain ⟨z, y, vs, r, ob, es, ep, e, c⟩ := x; exact ⟨z, y, vs, r, ob, es, ep, k _ _ (.inl rfl) e, c⟩
  | dT kvs =>
    obtain ⟨z, y, xs, r, ob, es, ep, e, c⟩ := x
    exact ⟨z, y, xs, Paired.mapP r fun p q z => ⟨z.1, ht _ _ z.2.1, z.2.2⟩, ob, es, ep, k _ _ (.inl rfl) e, c⟩
  | set S n => obtain ⟨ob, es, ep, t, e, c⟩ := x; exact ⟨ob, es, ep, t, k _ _ (.inl rfl) e, c⟩
  | ins C dx fs =>
    obtain ⟨d, z, ne, e, mA, ⟨od, es, ep, e2, c⟩, r⟩ := x
    exact ⟨ho _ d, z, ne, k _ _ (.inl rfl) e, mA, ⟨od, es, ep, k _ _ (.inr d) e2, c⟩, r⟩
  | own y => obtain ⟨ob, e⟩ := x; exact ⟨ob, k _ _ (.inl rfl) e⟩
  | xd fs => obtain ⟨mA, ⟨od, es, ep, e, c⟩, r⟩ := x; exact ⟨mA, ⟨od, es, ep, k _ _ (.inl rfl) e, c⟩, r⟩
  | rng lo hi => obtain ⟨t, u, v, e⟩ := x; exact ⟨t, u, v, k _ _ (.inl rfl) e⟩
  | frz ob u ih => obtain ⟨e, q⟩ := x; exact ⟨k _ _ (.inl rfl) e, ih q⟩
  | tbl ps =>
    have e : h.get? a = some { cls := .none, data := .fields ps } := x
    show h'.get? a = some { cls := .none, data := .fields ps }
    exact k a _ (.inl rfl) e
  | met f y =>
    have e : h.get? a = some (PySem.W.methodObj (.ref f) (.ref y)) := x
    show h'.get? a = some (PySem.W.methodObj (.ref f) (.ref y))
    exact k a _ (.inl rfl) e
  | ext φ => obtain ⟨p, ⟨o, e⟩, st⟩ := x; exact ⟨st _ _ p fun o q => k _ _ (.inl rfl) q, ⟨o, k _ _ (.inl rfl) e⟩, st⟩
theorem HOk.lt (x : HOk P w H h) (e : H a = some o) : a < h.objs.size := (x a o e).lt
theorem HOk.fresh (x : HOk P w H h) (e : h.objs.size ≤ a) : H a = none := by
  cases q : H a with
  | none => rfl
  | some u => exact absurd (Nat.lt_of_lt_of_le (x.lt q) e) (Nat.lt_irrefl _)
theorem HOk.kept (x : HOk P w H h) (k : ∀ b u, h.get? b = some u → h'.get? b = some u) : HOk P w H h' := fun a o e =>
  (x a o e).stay (fun b u _ q => k b u q) (fun _ q => q) fun _ _ q => q
theorem HOk.laid (x : HOk P w H h) (k : ∀ b u, h.get? b = some u → h'.get? b = some u) (hp : h.objs.size ≤ a) (new : ObjOk P w (upd H a o) h' a o) : HOk P w (upd H a o) h' := fun b u e => by
  have hn := x.fresh hp
  by_cases hb : b = a
  · subst hb; rw [upd_same] at e; cases e; exact new
  · rw [upd_ne hb] at e
    exact (x b u e).stay (fun c v _ q => k c v q) (fun c q => by rw [upd_ne (ne_of_none q hn)]; exact q) fun c xs q => by rw [upd_ne (ne_of_none q hn)]; exact q
end
def Rd (H : Hp) (a : Addr) (u : HO) : Prop := H a = some u ∨ ∃ o, H a = some (.frz o u)
theorem Rd.ok {P : Program} {w : World} {H : Hp} {h : Heap} {a : Addr} {u : HO} (r : Rd H a u) (x : HOk P w H h) : ObjOk P w H h a u := by
  rcases r with r | ⟨o, r⟩
  · exact x a u r
  · obtain ⟨_, q⟩ := x a _ r
    exact q
def Mut : Option HO → Prop
  | some (.lst _) => True
  | some (.dK _) => True
  | some (.dT _) => True
  | some (.set _ _) => True
  | some (.ins _ _ _) => True
  | some (.ext _) => True
  | _ => False
section
variable {P : Program} {w : World} {H : Hp} {h h' : Heap} {x e : Addr} {o' : HO}
theorem HOk.write (ok : HOk P w H h) (mu : Mut (H x)) (he : e = x ∨ H e = some (.own x)) (k : ∀ b u, b ≠ e → h.get? b = some u → h'.get? b = some u) (heo : ∃ u, h'.get? e = some u)
    (new : ObjOk P w (upd H x o') h' x o') : HOk P w (upd H x o') h' := fun b u q => by
  have nown : ∀ c y, H c = some (.own y) → c ≠ x := fun c y r z => by subst z; rw [r] at mu; exact mu
  have ntup : ∀ c xs, H c = some (.tup xs) → c ≠ x := fun c xs r z => by subst z; rw [r] at mu; exact mu
  by_cases hb : b = x
  · subst hb; rw [upd_same] at q; cases q; exact new
  · rw [upd_ne hb] at q
    by_cases hbe : b = e
    · have q' : H b = some (.own x) := by
        rcases he with z | z
        · exact absurd (hbe.trans z) hb
        · rw [hbe]; exact z
      rw [q] at q'; cases q'
      obtain ⟨v, hv⟩ := heo
      exact ⟨v, by rw [hbe]; exact hv⟩
    · refine (ok b u q).stay (fun c v hc r => k c v ?_ r) (fun c r => by rw [upd_ne (nown c b r)]; exact r) fun c xs r => by rw [upd_ne (ntup c xs r)]; exact r
      rcases hc with rfl | hc
      · exact hbe
      · rintro rfl
        rcases he with z | z
        · exact nown c b hc z
        · rw [hc] at z; cases z; exact hb rfl
end
structure Un (fs ex : List Addr) (H H' : Hp) (h h' : Heap) : Prop where
  keep : ∀ b o, h.get? b = some o → H b = none → b ∉ fs → b ∉ ex → h'.get? b = some o
  slot : ∀ b o, h.get? b = some o → H b = none → b ∈ fs → b ∉ ex → ∃ sl, h'.get? b = some { o with slots := sl }
  free : ∀ b o, h.get? b = some o → H b = none → b ∉ ex → H' b = none
  there : ∀ b o, h.get? b = some o → b ∉ ex → ∃ o', h'.get? b = some o'
  tups : ∀ b xs, H b = some (.tup xs) → H' b = some (.tup xs)
  frzs : ∀ b o u, H b = some (.frz o u) → H' b = some (.frz o u)
  tbls : ∀ b ps, H b = some (.tbl ps) → ∃ more, H' b = some (.tbl (ps ++ more))
section
variable {fs fs' ex ex' : List Addr} {H H1 H2 : Hp} {h h1 h2 h' : Heap} {a x e : Addr} {o : HO}
theorem Un.any (u : Un fs ex H H1 h h1) {b : Addr} {ob : Obj} (q : h.get? b = some ob) (n : H b = none) (hx : b ∉ ex) : ∃ sl, h1.get? b = some { ob with slots := sl } := by
  by_cases hb : b ∈ fs
  · exact u.slot b ob q n hb hx
  · exact ⟨ob.slots, u.keep b ob q n hb hx⟩
theorem Un.kept (k : ∀ b u, h.get? b = some u → h'.get? b = some u) : Un fs ex H H h h' :=
  ⟨fun b ob q _ _ _ => k b ob q, fun b ob q _ _ _ => ⟨ob.slots, k b ob q⟩, fun _ _ _ n _ => n, fun b ob q _ => ⟨ob, k b ob q⟩, fun _ _ q => q, fun _ _ _ q => q, fun _ ps q => ⟨#[], by rw [q]; simp⟩⟩
theorem Un.refl : Un fs ex H H h h := Un.kept fun _ _ q => q
theorem Un.laid (k : ∀ b u, h.get? b = some u → h'.get? b = some u) (hp : h.objs.size ≤ a) (hn : H a = none) : Un fs ex H (upd H a o) h h' where
  keep := fun b u q _ _ _ => k b u q
  slot := fun b u q _ _ _ => ⟨u.slots, k b u q⟩
  free := fun b u q n _ => by rw [upd_ne (Nat.ne_of_lt (Nat.lt_of_lt_of_le (Heap.lt_size q) hp))]; exact n
  there := fun b u q _ => ⟨u, k b u q⟩
  tups := fun b xs q => by rw [upd_ne (ne_of_none q hn)]; exact q
  frzs := fun b u xs q => by rw [upd_ne (ne_of_none q hn)]; exact q
  tbls := fun b ps q => ⟨#[], by rw [upd_ne (ne_of_none q hn), q]; simp⟩
theorem Un.write (mu : Mut (H x)) (he : e = x ∨ H e = some (.own x)) (k : ∀ b u, b ≠ e → h.get? b = some u → h'.get? b = some u) (heo : ∃ u, h'.get? e = some u) : Un fs ex H (upd H x o) h h' := by
  have hx : ∀ b, H b = none → b ≠ x := fun b n z => by subst z; rw [n] at mu; exact mu
  have hb : ∀ b, H b = none → b ≠ e := fun b n z => by
    subst z
    rcases he with r | r
    · exact hx b n r
    · rw [n] at r; cases r
  have hm : ∀ b u, H b = some u → ¬ Mut (some u) → b ≠ x := fun b u q nm z => by subst z; rw [q] at mu; exact nm mu
  refine ⟨fun b u q n _ _ => k b u (hb b n) q, fun b u q n _ _ => ⟨u.slots, k b u (hb b n) q⟩, fun b u q n _ => by rw [upd_ne (hx b n)]; exact n, fun b u q _ => ?_,
    fun b xs q => by rw [upd_ne (hm b _ q fun z => z)]; exact q, fun b u xs q => by rw [upd_ne (hm b _ q fun z => z)]; exact q, fun b ps q => ⟨#[], by rw [upd_ne (hm b _ q fun z => z), q]; simp⟩⟩
  by_cases hbe : b = e
  · subst hbe; exact heo
  · exact ⟨u, k b u hbe q⟩
end
def trk (h : Heap) (H : Hp) : List Addr := (List.range h.objs.size).filter fun a => (H a).isSome
def hidT (h : Heap) (H : Hp) : Heap := PySem.W.hideAll h (trk h H)
theorem hidT_size (h : Heap) (H : Hp) : (hidT h H).objs.size = h.objs.size := PySem.W.hideAll_size _ _
theorem hidT_get {h : Heap} {H : Hp} {b : Addr} {o : Obj} (e : h.get? b = some o) (n : H b = none) : (hidT h H).get? b = some o :=
  PySem.W.hideAll_get _ e fun hm => by
    have q : (H b).isSome = true := (List.mem_filter.mp hm).2
    rw [n] at q; simp at q
theorem of_hidT {h : Heap} {H : Hp} {b : Addr} {o : Obj} (e : (hidT h H).get? b = some o) : h.get? b = some o ∧ H b = none := by
  have e' : h.get? b = some o := PySem.W.of_hideAll (trk h H) e
  refine ⟨e', ?_⟩
  cases q : H b with
  | none => rfl
  | some x =>
    have hm : b ∈ trk h H := List.mem_filter.mpr ⟨List.mem_range.mpr (Heap.lt_size e'), by simp [q]⟩
    have z : (hidT h H).get? b = none := PySem.W.hideAll_none (trk h H) hm
    rw [z] at e; cases e
end L2
namespace L2
open PySem PySem.Spec PyProof.Rows
structure Mod (K : PySem.W.Frag) (mg : Str → Option Value) (base : Heap) : Prop where
  kin : K.In base
  glob : base.Ns mainGlobals mg
  blt : ∃ mb, base.Ns builtinsNs mb ∧ ∀ x : Str, x ≠ "__name__" → mb x = bootBuiltins x
  nolimit : base.NoLimit
structure Cx where
  prog : Program
  w : World
  K : PySem.W.Frag
  mg : Str → Option Value
  base : Heap
  A : Around
  N : List Str
  s₀ : Shared
  H₀ : Hp
  env : Env
  outer : List Env
  stack : List Env
  ex : List Addr
  fn : Str → Bool
  calm : Bool
  pn : List (Addr × Obj)
  xe : Value → Shared → Prop
def frs (l : List Env) : List Addr := l.filterMap (·.frame)
abbrev Cx.fs (X : Cx) : List Addr := frs X.outer
def Vis (sc : Scope) (x : Str) : Prop := sc.names.lookup x = some .local ∨ sc.names.lookup x = some .cell ∨ sc.names.lookup x = some .free
def Loc (sc : Scope) (x : Str) : Prop := sc.names.lookup x = some .local ∨ sc.names.lookup x = some .cell
def Look (env : Env) (h : Heap) (m : Str → Option Value) (x : Str) (u : Value) : Prop :=
  (env.kindOf x = some .local ∧ m x = some u) ∨ ((env.kindOf x = some .cell ∨ env.kindOf x = some .free) ∧ ∃ c, env.cells.lookup x = some c ∧ h.IsCell c (some u))
structure Cx.Ok (X : Cx) : Prop where
  mod : Mod X.K X.mg X.base
  kind : X.env.scope.kind = .function
  glob : X.env.globals = mainGlobals
  blt : X.env.builtins = builtinsNs
  above : X.s₀.heap.objs.size ≤ X.env.locals
  inj : ∀ x y c, X.env.cells.lookup x = some c → X.env.cells.lookup y = some c → x = y
  has : ∀ x, (X.env.kindOf x = some .cell ∨ X.env.kindOf x = some .free) → ∃ c, X.env.cells.lookup x = some c
  cab : ∀ x c, X.fn x = true → X.env.cells.lookup x = some c → X.s₀.heap.objs.size ≤ c
  hd : X.calm = true → X.A.handled = none
  frames : X.A.frames = some X.stack
  stk : X.stack = X.outer ∨ (X.stack = X.env :: X.outer ∧ X.env.frame = some X.env.locals)
  exf : ∀ b ∈ X.ex, b ≠ X.env.locals ∧ ∀ x c, X.env.cells.lookup x = some c → c ≠ b
  bs : ∀ b o, X.base.get? b = some o → X.s₀.heap.get? b = some o ∧ X.H₀ b = none
  bsz : X.base.objs.size ≤ X.s₀.heap.objs.size
  noex : ∀ b o, X.base.get? b = some o → b ∉ X.ex
  exfs : ∀ b ∈ X.ex, b ∉ X.fs
  funs : X.s₀.heap.FunFrames X.base X.outer
  frf : ∀ b ∈ X.fs, X.H₀ b = none
structure Inv (X : Cx) (pins : List (Addr × Obj)) (σ : List (Option V)) (H : Hp) (s : Shared) : Prop where
  ok : X.Ok
  os : s.os = X.s₀.os
  bare : AllBare s.gens
  base : Un X.fs X.ex X.H₀ H X.s₀.heap s.heap
  loc : ∃ m, s.heap.Ns X.env.locals m ∧ ∀ (i : Nat) (x : Str) (v : V), X.N[i]? = some x → σ[i]? = some (some v) → Vis X.env.scope x → ∃ u, RelV v u ∧ Look X.env s.heap m x u
  cell : ∀ x c, X.env.cells.lookup x = some c → ∃ v, s.heap.IsCell c v
  free : H X.env.locals = none
  freeC : ∀ x c, X.env.cells.lookup x = some c → H c = none
  pin : ∀ p ∈ X.pn ++ pins, s.heap.get? p.1 = some p.2 ∧ H p.1 = none ∧ p.1 ≠ X.env.locals ∧ p.1 ∉ X.fs ∧ ∀ v, p.2.data ≠ .cell v
  hok : HOk X.prog X.w H s.heap
  len : σ.length = X.N.length
section
variable {X : Cx} {pins : List (Addr × Obj)} {σ : List (Option V)} {H H' : Hp} {s : Shared} {h' : Heap}
theorem Cx.Ok.nofr (ok : X.Ok) {b : Addr} {o : Obj} (e : X.base.get? b = some o) : b ∉ X.fs := fun hb => by
  have := (ok.funs.mem hb).1
  rw [e] at this; cases this
theorem Inv.bs (I : Inv X pins σ H s) : ∀ b o, X.base.get? b = some o → s.heap.get? b = some o ∧ H b = none := fun b o e =>
  ⟨I.base.keep b o (I.ok.bs b o e).1 (I.ok.bs b o e).2 (I.ok.nofr e) (I.ok.noex b o e), I.base.free b o (I.ok.bs b o e).1 (I.ok.bs b o e).2 (I.ok.noex b o e)⟩
theorem Inv.bk (I : Inv X pins σ H s) : ∀ b o, X.base.get? b = some o → s.heap.get? b = some o := fun b o e => (I.bs b o e).1
theorem Inv.mod (I : Inv X pins σ H s) : Mod X.K X.mg X.base := I.ok.mod
theorem Inv.kIn (I : Inv X pins σ H s) : X.K.In s.heap := I.ok.mod.kin.keeps I.bk
theorem Inv.lt (I : Inv X pins σ H s) : X.env.locals < s.heap.objs.size := let ⟨_, hn, _⟩ := I.loc; hn.lt
theorem Inv.sz (I : Inv X pins σ H s) : X.s₀.heap.objs.size ≤ s.heap.objs.size := Nat.le_trans I.ok.above (Nat.le_of_lt I.lt)
theorem Inv.nofs (I : Inv X pins σ H s) {a : Addr} (h : s.heap.objs.size ≤ a) : a ∉ X.fs := fun hb => by
  obtain ⟨_, o, ho, _⟩ := I.ok.funs.mem hb
  exact absurd (Nat.lt_of_lt_of_le (Heap.lt_size ho) (Nat.le_trans I.sz h)) (Nat.lt_irrefl _)
theorem Inv.cne (I : Inv X pins σ H s) : ∀ x c, X.env.cells.lookup x = some c → c ≠ X.env.locals := fun x c e z => by
  obtain ⟨v, o, ho, hd⟩ := I.cell x c e
  obtain ⟨m, ⟨o', es, ep, ho', hd', _⟩, _⟩ := I.loc
  rw [z, ho'] at ho; cases ho; rw [hd'] at hd; cases hd
theorem Inv.funs (I : Inv X pins σ H s) : s.heap.FunFrames X.base X.outer := by
  have all : ∀ (l : List Env), (∀ b ∈ frs l, b ∈ X.fs) → X.s₀.heap.FunFrames X.base l → s.heap.FunFrames X.base l := by
    intro l
    induction l with
    | nil => intro _ _; trivial
    | cons env r ih =>
      intro hs hl
      obtain ⟨hk, ⟨L, o, hf, hn, ho, hd⟩, hr⟩ := hl
      have hL : L ∈ X.fs := hs L (by unfold frs; rw [List.filterMap_cons, hf]; exact List.mem_cons_self)
      obtain ⟨sl, e⟩ := I.base.slot L o ho (I.ok.frf L hL) hL fun z => I.ok.exfs L z hL
      exact ⟨hk, ⟨L, _, hf, hn, e, hd⟩, ih (fun b hb => hs b (by unfold frs; rw [List.filterMap_cons, hf]; exact List.mem_cons_of_mem _ hb)) hr⟩
  exact all X.outer (fun _ hb => hb) I.ok.funs
theorem Inv.stack (I : Inv X pins σ H s) : s.heap.FunFrames X.base X.stack := by
  rcases I.ok.stk with e | ⟨e, hf⟩
  · rw [e]; exact I.funs
  · rw [e]
    obtain ⟨m, hn, _⟩ := I.loc
    refine .cons (by rw [I.ok.kind]; decide) hf hn ?_ I.funs
    exact Heap.get?_none_of_le (Nat.le_trans I.ok.bsz I.ok.above)
theorem Inv.stkSub (I : Inv X pins σ H s) : ∀ b ∈ frs X.stack, b ∈ X.env.locals :: X.fs := fun b hb => by
  rcases I.ok.stk with e | ⟨e, hf⟩
  · rw [e] at hb; exact List.mem_cons_of_mem _ hb
  · rw [e] at hb
    unfold frs at hb
    rw [List.filterMap_cons, hf] at hb
    exact hb
theorem Inv.stkFree (I : Inv X pins σ H s) : ∀ b ∈ frs X.stack, H b = none := fun b hb => by
  rcases List.mem_cons.mp (I.stkSub b hb) with e | hb
  · rw [e]; exact I.free
  · obtain ⟨_, o, ho, _⟩ := I.ok.funs.mem hb
    exact I.base.free b o ho (I.ok.frf b hb) fun z => I.ok.exfs b z hb
theorem Inv.step {g' : Array GenState} {t' : Nat} {d' : Drawn} {ch : List Addr} (I : Inv X pins σ H s)
    (hch : ∀ b ∈ ch, (b ∈ X.ex ∨ X.s₀.heap.objs.size ≤ b) ∧ b ≠ X.env.locals ∧ (∀ x c, X.env.cells.lookup x = some c → c ≠ b) ∧ ∀ p ∈ X.pn ++ pins, p.1 ≠ b)
    (keep : ∀ b o, b ≠ X.env.locals → b ∉ X.fs → b ∉ ch → s.heap.get? b = some o → H b = none → h'.get? b = some o)
    (slot : ∀ b o, b ≠ X.env.locals → b ∈ X.fs → b ∉ ch → s.heap.get? b = some o → H b = none → ∃ sl, h'.get? b = some { o with slots := sl }) (free : ∀ b o, b ∉ ch → s.heap.get? b = some o → H b = none → H' b = none)
    (there : ∀ b o, b ∉ ch → s.heap.get? b = some o → ∃ o', h'.get? b = some o')
    (tups : ∀ b xs, H b = some (.tup xs) → H' b = some (.tup xs)) (frzs : ∀ b o u, H b = some (.frz o u) → H' b = some (.frz o u)) (tbls : ∀ b ps, H b = some (.tbl ps) → ∃ more, H' b = some (.tbl (ps ++ more)))
    (ns : ∀ m, s.heap.Ns X.env.locals m → h'.Ns X.env.locals m) (hok : HOk X.prog X.w H' h') (hg : AllBare g') :
    Inv X pins σ H' { s with heap := h', gens := g', drawn := d', toks := t' } := by
  have neL : ∀ b o, X.s₀.heap.get? b = some o → b ≠ X.env.locals := fun b o e => Nat.ne_of_lt (Nat.lt_of_lt_of_le (Heap.lt_size e) I.ok.above)
  have neC : ∀ b o, X.s₀.heap.get? b = some o → b ∉ X.ex → b ∉ ch := fun b o e hx hb => by
    rcases (hch b hb).1 with z | z
    · exact hx z
    · exact absurd (Nat.lt_of_lt_of_le (Heap.lt_size e) z) (Nat.lt_irrefl _)
  have cellK : ∀ x c, X.env.cells.lookup x = some c → ∀ v, s.heap.IsCell c v → h'.IsCell c v := fun x c e v ⟨o, ho, hd⟩ => by
    have nch : c ∉ ch := fun z => (hch c z).2.2.1 x c e rfl
    by_cases hc : c ∈ X.fs
    · obtain ⟨sl, q⟩ := slot c o (I.cne x c e) hc nch ho (I.freeC x c e)
      exact ⟨_, q, hd⟩
    · exact ⟨o, keep c o (I.cne x c e) hc nch ho (I.freeC x c e), hd⟩
  refine ⟨I.ok, I.os, hg, ⟨fun b o e n hb hx => ?_, fun b o e n hb hx => ?_, fun b o e n hx => ?_, fun b o e hx => ?_, fun b xs e => tups b xs (I.base.tups b xs e), fun b o xs e => frzs b o xs (I.base.frzs b o xs e), fun b ps e => ?_⟩, ?_, fun x c e => ?_, ?_, fun x c e => ?_, fun p hp => ?_, hok, I.len⟩
  · exact keep b o (neL b o e) hb (neC b o e hx) (I.base.keep b o e n hb hx) (I.base.free b o e n hx)
  · obtain ⟨sl, e1⟩ := I.base.slot b o e n hb hx
    obtain ⟨sl', e2⟩ := slot b _ (neL b o e) hb (neC b o e hx) e1 (I.base.free b o e n hx)
    exact ⟨sl', e2⟩
  · obtain ⟨o', e1⟩ := I.base.there b o e hx
    exact free b o' (neC b o e hx) e1 (I.base.free b o e n hx)
  · obtain ⟨o', e1⟩ := I.base.there b o e hx
    exact there b o' (neC b o e hx) e1
  · obtain ⟨m1, e1⟩ := I.base.tbls b ps e
    obtain ⟨m2, e2⟩ := tbls b _ e1
    exact ⟨m1 ++ m2, by rw [e2, Array.append_assoc]⟩
  · obtain ⟨m, hn, hl⟩ := I.loc
    refine ⟨m, ns m hn, fun i x v e1 e2 e3 => ?_⟩
    obtain ⟨u, r, l⟩ := hl i x v e1 e2 e3
    refine ⟨u, r, ?_⟩
    rcases l with l | ⟨k, c, e, z⟩
    · exact .inl l
    · exact .inr ⟨k, c, e, cellK x c e _ z⟩
  · obtain ⟨v, z⟩ := I.cell x c e
    exact ⟨v, cellK x c e v z⟩
  · obtain ⟨m, ⟨o, _, _, ho, _⟩, _⟩ := I.loc
    exact free _ o (fun z => (hch _ z).2.1 rfl) ho I.free
  · obtain ⟨v, o, ho, hd⟩ := I.cell x c e
    exact free c o (fun z => (hch c z).2.2.1 x c e rfl) ho (I.freeC x c e)
  · obtain ⟨e, n, ne, nf, d⟩ := I.pin p hp
    have nch : p.1 ∉ ch := fun z => (hch p.1 z).2.2.2 p hp rfl
    exact ⟨keep p.1 p.2 ne nf nch e n, free p.1 p.2 nch e n, ne, nf, d⟩
theorem Inv.un {t' : Nat} (I : Inv X pins σ H s) (u : Un X.fs [] H H' s.heap h') (hok : HOk X.prog X.w H' h') : Inv X pins σ H' { s with heap := h', toks := t' } := by
  obtain ⟨m, ⟨o, es, ep, ho, r⟩, _⟩ := id I.loc
  obtain ⟨sl, hL⟩ := u.any ho I.free (by simp)
  exact I.step (g' := s.gens) (d' := s.drawn) (ch := []) (fun _ z => nomatch z) (fun b o _ hb _ e n => u.keep b o e n hb (by simp)) (fun b o _ hb _ e n => u.slot b o e n hb (by simp)) (fun b o _ e n => u.free b o e n (by simp)) (fun b o _ e => u.there b o e (by simp)) u.tups u.frzs u.tbls (fun m' hm => by
    obtain ⟨o', es', ep', ho', r'⟩ := hm
    rw [ho] at ho'; cases ho'
    exact ⟨_, es', ep', hL, r'⟩) hok I.bare
theorem Inv.call {g' : Array GenState} {t' : Nat} {d' : Drawn} {ch : List Addr} (I : Inv X pins σ H s) (u : Un (frs X.stack) ch H H' s.heap h') (hok : HOk X.prog X.w H' h') (hg : AllBare g')
    (hch : ∀ b ∈ ch, (b ∈ X.ex ∨ X.s₀.heap.objs.size ≤ b) ∧ b ≠ X.env.locals ∧ (∀ x c, X.env.cells.lookup x = some c → c ≠ b) ∧ ∀ p ∈ X.pn ++ pins, p.1 ≠ b) :
    Inv X pins σ H' { s with heap := h', gens := g', drawn := d', toks := t' } := by
  obtain ⟨m, ⟨o, es, ep, ho, r⟩, _⟩ := id I.loc
  obtain ⟨sl, hL⟩ := u.any ho I.free fun z => (hch _ z).2.1 rfl
  exact I.step (ch := ch) hch (fun b o hL hb hc e n => u.keep b o e n (fun z => (List.mem_cons.mp (I.stkSub b z)).elim hL hb) hc) (fun b o _ _ hc e n => u.any e n hc) (fun b o hc e n => u.free b o e n hc) (fun b o hc e => u.there b o e hc) u.tups u.frzs u.tbls (fun m' hm => by
    obtain ⟨o', es', ep', ho', r'⟩ := hm
    rw [ho] at ho'; cases ho'
    exact ⟨_, es', ep', hL, r'⟩) hok hg
theorem Inv.turned {t' : Nat} {it : Addr} (I : Inv X pins σ H s) (k : ∀ b o, b ≠ it → s.heap.get? b = some o → h'.get? b = some o) (hn : H it = none) (hL : it ≠ X.env.locals)
    (h1 : it ∈ X.ex ∨ X.s₀.heap.objs.size ≤ it) (h2 : ∀ x c, X.env.cells.lookup x = some c → c ≠ it) (h3 : ∀ p ∈ X.pn ++ pins, p.1 ≠ it) : Inv X pins σ H { s with heap := h', toks := t' } := by
  have nit : ∀ b u, H b = some u → b ≠ it := fun b u e z => by rw [z, hn] at e; cases e
  refine I.step (g' := s.gens) (d' := s.drawn) (ch := [it]) (fun b hb => ?_) (fun b o _ _ hc e _ => k b o (fun z => hc (by simp [z])) e) (fun b o _ _ hc e _ => ⟨o.slots, k b o (fun z => hc (by simp [z])) e⟩) (fun _ _ _ _ n => n)
    (fun b o hc e => ⟨o, k b o (fun z => hc (by simp [z])) e⟩) (fun _ _ e => e) (fun _ _ _ e => e) (fun b ps e => ⟨#[], by rw [e]; simp⟩) (fun m hm => ?_) (fun b u e => ?_) I.bare
  · have e : b = it := by simpa using hb
    subst e
    exact ⟨h1, hL, h2, h3⟩
  · obtain ⟨o, es, ep, ho, r⟩ := hm
    exact ⟨o, es, ep, k _ o (Ne.symm hL) ho, r⟩
  · refine (I.hok b u e).stay (fun c v hc q => k c v ?_ q) (fun _ q => q) fun _ _ q => q
    rcases hc with z | z
    · rw [z]; exact nit b u e
    · exact nit c _ z
theorem Inv.tok (I : Inv X pins σ H s) (t : Nat) : Inv X pins σ H { s with toks := t } := I.un (h' := s.heap) (t' := t) Un.refl I.hok
theorem Inv.kept {t' : Nat} (I : Inv X pins σ H s) (k : ∀ b u, s.heap.get? b = some u → h'.get? b = some u) : Inv X pins σ H { s with heap := h', toks := t' } := I.un (Un.kept k) (I.hok.kept k)
theorem Inv.laid {a : Addr} {o : HO} {t' : Nat} (I : Inv X pins σ H s) (k : ∀ b u, s.heap.get? b = some u → h'.get? b = some u) (hp : s.heap.objs.size ≤ a) (new : ObjOk X.prog X.w (upd H a o) h' a o) :
    Inv X pins σ (upd H a o) { s with heap := h', toks := t' } := I.un (Un.laid k hp (I.hok.fresh hp)) (I.hok.laid k hp new)
theorem Inv.write {x e : Addr} {o : HO} {t' : Nat} (I : Inv X pins σ H s) (mu : Mut (H x)) (he : e = x ∨ H e = some (.own x)) (k : ∀ b u, b ≠ e → s.heap.get? b = some u → h'.get? b = some u) (heo : ∃ u, h'.get? e = some u)
    (new : ObjOk X.prog X.w (upd H x o) h' x o) : Inv X pins σ (upd H x o) { s with heap := h', toks := t' } := I.un (Un.write mu he k heo) (I.hok.write mu he k heo new)
theorem Inv.weak {σ' : List (Option V)} (I : Inv X pins σ H s) (hl : σ'.length = σ.length) (w : ∀ (i : Nat) v, σ'[i]? = some (some v) → σ[i]? = some (some v)) : Inv X pins σ' H s :=
  ⟨I.ok, I.os, I.bare, I.base, let ⟨m, hn, hl'⟩ := I.loc; ⟨m, hn, fun i x v e1 e2 e3 => hl' i x v e1 (w i v e2) e3⟩, I.cell, I.free, I.freeC, I.pin, I.hok, hl.trans I.len⟩
theorem Inv.pins_of {pins' : List (Addr × Obj)} (I : Inv X pins σ H s) (h : ∀ p ∈ pins', s.heap.get? p.1 = some p.2 ∧ H p.1 = none ∧ p.1 ≠ X.env.locals ∧ p.1 ∉ X.fs ∧ ∀ v, p.2.data ≠ .cell v) : Inv X pins' σ H s :=
  ⟨I.ok, I.os, I.bare, I.base, I.loc, I.cell, I.free, I.freeC, fun p hp => (List.mem_append.mp hp).elim (fun z => I.pin p (List.mem_append_left _ z)) (h p), I.hok, I.len⟩
theorem nodup_ix {N : List Str} (hN : N.Nodup) {i j : Nat} {x : Str} (a : N[i]? = some x) (b : N[j]? = some x) : i = j := by
  obtain ⟨h1, e1⟩ := List.getElem?_eq_some_iff.mp a
  obtain ⟨h2, e2⟩ := List.getElem?_eq_some_iff.mp b
  exact (List.getElem_inj hN).mp (e1.trans e2.symm)
theorem store_ok2 {M : Model} {A : Around} {E : Value → Shared → Prop} {i : Nat} {x : Str} {v : V} {u : Value} {Q : Unit → Shared → Prop} (I : Inv X pins σ H s) (hN : X.N.Nodup) (hi : X.N[i]? = some x) (hx : Loc X.env.scope x) (r : RelV v u)
    (h : ∀ s', Inv X pins (σ.set i (some v)) H s' → (∃ a, Heap.SameBut a s.heap s'.heap ∧ (a = X.env.locals ∨ X.env.cells.lookup x = some a)) → Q () s') (hf : X.fn x = true ∨ X.env.scope.names.lookup x = some .local := by first | exact .inl rfl | exact .inr rfl | assumption) : wpAny M A (storeName X.env x u) Q E s := by
  obtain ⟨m, hn, hl⟩ := id I.loc
  have hcls : (X.env.scope.kind == .class || (X.env.scope.kind == .module && X.env.locals != X.env.globals)) = false := by rw [I.ok.kind]; rfl
  have hiσ : i < σ.length := by rw [I.len]; exact (List.getElem?_eq_some_iff.mp hi).1
  have cne := I.cne
  have tracked : ∀ {a : Addr} {h' : Heap}, (∃ o, s.heap.get? a = some o ∧ H a = none) → Heap.SameBut a s.heap h' → HOk X.prog X.w H h' := fun {a h'} ha hs b ob e => by
    obtain ⟨_, _, hfree⟩ := ha
    refine (I.hok b ob e).stay (fun c w' hc q => (hs.2 c ?_).trans q) (fun _ q => q) fun _ _ q => q
    rintro rfl
    rcases hc with rfl | hc
    · rw [hfree] at e; cases e
    · rw [hfree] at hc; cases hc
  rcases hx with hk | hk
  · refine wpAny_storeName_local hk hn (fun h' hn' hs => ?_) hcls
    obtain ⟨oL, _, _, hoL, _⟩ := id hn
    refine h _ ⟨I.ok, I.os, I.bare, ⟨fun b o e n hb hx => ?_, fun b o e n hb hx => ?_, I.base.free, fun b o e hx => ?_, I.base.tups, I.base.frzs, I.base.tbls⟩, ⟨_, hn', fun j y v' e1 e2 e3 => ?_⟩, fun y c e => ?_, I.free, I.freeC, fun p hp => ?_, tracked ⟨oL, hoL, I.free⟩ hs, by simpa using I.len⟩ ⟨_, hs, .inl rfl⟩
    · exact (hs.2 b (Nat.ne_of_lt (Nat.lt_of_lt_of_le (Heap.lt_size e) I.ok.above))).trans (I.base.keep b o e n hb hx)
    · obtain ⟨sl, e1⟩ := I.base.slot b o e n hb hx
      exact ⟨sl, (hs.2 b (Nat.ne_of_lt (Nat.lt_of_lt_of_le (Heap.lt_size e) I.ok.above))).trans e1⟩
    · obtain ⟨o', e1⟩ := I.base.there b o e hx
      exact ⟨o', (hs.2 b (Nat.ne_of_lt (Nat.lt_of_lt_of_le (Heap.lt_size e) I.ok.above))).trans e1⟩
    · by_cases hj : j = i
      · subst hj
        rw [hi] at e1; cases e1
        rw [List.getElem?_set_self hiσ] at e2
        cases e2
        exact ⟨u, r, .inl ⟨hk, by simp⟩⟩
      · rw [List.getElem?_set_ne (Ne.symm hj)] at e2
        obtain ⟨u', r', q⟩ := hl j y v' e1 e2 e3
        refine ⟨u', r', ?_⟩
        rcases q with ⟨k, e⟩ | ⟨k, c, e, z⟩
        · refine .inl ⟨k, ?_⟩
          have : y ≠ x := fun e => hj (nodup_ix hN e1 (e ▸ hi))
          simp [this, e]
        · exact .inr ⟨k, c, e, z.sameBut hs (cne y c e)⟩
    · obtain ⟨w', z⟩ := I.cell y c e
      exact ⟨w', z.sameBut hs (cne y c e)⟩
    · obtain ⟨e, n, ne, nf, d⟩ := I.pin p hp
      exact ⟨(hs.2 p.1 ne).trans e, n, ne, nf, d⟩
  · have hfn : X.fn x = true := by
      rcases hf with z | z
      · exact z
      · rw [z] at hk; cases hk
    obtain ⟨c, hc⟩ := I.ok.has x (.inl hk)
    obtain ⟨w', z⟩ := I.cell x c hc
    refine wpAny_storeName_cell I.ok.kind hk hc z (fun h' hc' hs => ?_)
    obtain ⟨oc, hoc, hocd⟩ := id z
    refine h { s with heap := h' } ⟨I.ok, I.os, I.bare, ⟨fun b o e n hb hx => ?_, fun b o e n hb hx => ?_, I.base.free, fun b o e hx => ?_, I.base.tups, I.base.frzs, I.base.tbls⟩, ⟨m, hn.sameBut hs (Ne.symm (cne x c hc)), fun j y v' e1 e2 e3 => ?_⟩, fun y c' e => ?_, I.free, I.freeC, fun p hp => ?_, tracked ⟨oc, hoc, I.freeC x c hc⟩ hs, by simpa using I.len⟩ ⟨c, hs, .inr hc⟩
    · exact (hs.2 b (Nat.ne_of_lt (Nat.lt_of_lt_of_le (Heap.lt_size e) (I.ok.cab x c hfn hc)))).trans (I.base.keep b o e n hb hx)
    · obtain ⟨sl, e1⟩ := I.base.slot b o e n hb hx
      exact ⟨sl, (hs.2 b (Nat.ne_of_lt (Nat.lt_of_lt_of_le (Heap.lt_size e) (I.ok.cab x c hfn hc)))).trans e1⟩
    · obtain ⟨o', e1⟩ := I.base.there b o e hx
      exact ⟨o', (hs.2 b (Nat.ne_of_lt (Nat.lt_of_lt_of_le (Heap.lt_size e) (I.ok.cab x c hfn hc)))).trans e1⟩
    · by_cases hj : j = i
      · subst hj
        rw [hi] at e1; cases e1
        rw [List.getElem?_set_self hiσ] at e2
        cases e2
        exact ⟨u, r, .inr ⟨.inl hk, c, hc, hc'⟩⟩
      · rw [List.getElem?_set_ne (Ne.symm hj)] at e2
        obtain ⟨u', r', q⟩ := hl j y v' e1 e2 e3
        refine ⟨u', r', ?_⟩
        rcases q with q | ⟨k, c', e, z'⟩
        · exact .inl q
        · refine .inr ⟨k, c', e, z'.sameBut hs ?_⟩
          rintro rfl
          exact hj (nodup_ix hN e1 (I.ok.inj _ _ _ e hc ▸ hi))
    · by_cases hcc : c' = c
      · subst hcc; exact ⟨_, hc'⟩
      · obtain ⟨w2, z2⟩ := I.cell y c' e
        exact ⟨w2, z2.sameBut hs hcc⟩
    · obtain ⟨e, n, ne, nf, d⟩ := I.pin p hp
      refine ⟨(hs.2 p.1 ?_).trans e, n, ne, nf, d⟩
      intro q
      rw [q, hoc] at e
      have q' : oc = p.2 := Option.some.inj e
      exact d w' (by rw [← q']; exact hocd)
theorem store_ok {M : Model} {A : Around} {E : Value → Shared → Prop} {i : Nat} {x : Str} {v : V} {u : Value} {Q : Unit → Shared → Prop} (I : Inv X pins σ H s) (hN : X.N.Nodup) (hi : X.N[i]? = some x) (hx : Loc X.env.scope x) (r : RelV v u)
    (h : ∀ s', Inv X pins (σ.set i (some v)) H s' → Q () s') (hf : X.fn x = true ∨ X.env.scope.names.lookup x = some .local := by first | exact .inl rfl | exact .inr rfl | assumption) : wpAny M A (storeName X.env x u) Q E s :=
  store_ok2 I hN hi hx r (fun s' I' _ => h s' I') hf
theorem Inv.call' {s' : Shared} {ch : List Addr} (I : Inv X pins σ H s) (ho : s'.os = s.os) (u : Un (frs X.stack) ch H H' s.heap s'.heap) (hok : HOk X.prog X.w H' s'.heap) (hg : AllBare s'.gens)
    (hch : ∀ b ∈ ch, (b ∈ X.ex ∨ X.s₀.heap.objs.size ≤ b) ∧ b ≠ X.env.locals ∧ (∀ x c, X.env.cells.lookup x = some c → c ≠ b) ∧ ∀ p ∈ X.pn ++ pins, p.1 ≠ b) : Inv X pins σ H' s' := by
  obtain ⟨h', g', d', t', o'⟩ := s'
  have e : o' = s.os := ho
  subst e
  exact I.call (g' := g') (t' := t') (d' := d') u hok hg hch
end
abbrev XK := Value → Option Addr → Hp → Prop
abbrev St := List (Option V)
abbrev VK := V → Hp → Prop
abbrev TE := St → Hp → VK → Prop
abbrev TT := St → Hp → (Bool → Hp → Prop) → Prop
abbrev TA := St → Hp → (List V → Hp → Prop) → Prop
structure Ends where
  nx : St → Hp → Prop
  rt : VK
  bk : St → Hp → Prop := fun _ _ => False
  ct : St → Hp → Prop := fun _ _ => False
abbrev TS := Ends → St → Hp → Prop
def EP (X : Cx) (pins : List (Addr × Obj)) (σ : St) (Q : VK) (u : Value) (s' : Shared) : Prop := ∃ v H', Inv X pins σ H' s' ∧ RelV v u ∧ Q v H'
def TP (X : Cx) (pins : List (Addr × Obj)) (σ : St) (Q : Bool → Hp → Prop) (b : Bool) (s' : Shared) : Prop := ∃ H', Inv X pins σ H' s' ∧ Q b H'
def AP (X : Cx) (pins : List (Addr × Obj)) (σ : St) (Q : List V → Hp → Prop) (us : List Value) (s' : Shared) : Prop := ∃ vs H', Inv X pins σ H' s' ∧ Vals vs us ∧ Q vs H'
def SP (X : Cx) (pins : List (Addr × Obj)) (D : Ends) (f : Flow) (s' : Shared) : Prop :=
  match f with
  | .next => ∃ σ' H', Inv X pins σ' H' s' ∧ D.nx σ' H'
  | .brk => ∃ σ' H', Inv X pins σ' H' s' ∧ D.bk σ' H'
  | .cont => ∃ σ' H', Inv X pins σ' H' s' ∧ D.ct σ' H'
  | .ret u => ∃ v σ' H', Inv X pins σ' H' s' ∧ RelV v u ∧ D.rt v H'
def PE (X : Cx) (e : Expr) (t : TE) : Prop :=
  ∀ (pins : List (Addr × Obj)) (s : Shared) (σ : St) (H : Hp) (Q : VK), Inv X pins σ H s → t σ H Q → wpAny (model X.prog X.w) X.A (eval e X.env) (EP X pins σ Q) X.xe s
def PT (X : Cx) (e : Expr) (t : TT) : Prop :=
  ∀ (pins : List (Addr × Obj)) (s : Shared) (σ : St) (H : Hp) (Q : Bool → Hp → Prop), Inv X pins σ H s → t σ H Q → wpAny (model X.prog X.w) X.A (isTrue e X.env (eval e X.env)) (TP X pins σ Q) X.xe s
def PW (X : Cx) (e : Expr) (t : TT) : Prop :=
  ∀ (whole : Sem Value) (pins : List (Addr × Obj)) (s : Shared) (σ : St) (H : Hp) (Q : Bool → Hp → Prop), Inv X pins σ H s → t σ H Q → wpAny (model X.prog X.w) X.A (isTrue e X.env whole) (TP X pins σ Q) X.xe s
theorem PW.pt {X : Cx} {e : Expr} {t : TT} (h : PW X e t) : PT X e t := h _
def PA (X : Cx) (es : List Expr) (t : TA) : Prop :=
  ∀ (pos : Pos) (pins : List (Addr × Obj)) (s : Shared) (σ : St) (H : Hp) (Q : List V → Hp → Prop), Inv X pins σ H s → t σ H Q → wpAny (model X.prog X.w) X.A (spliced (backTo pos (starEach es X.env))) (AP X pins σ Q) X.xe s
def PS (X : Cx) (st : Stmt) (t : TS) : Prop :=
  ∀ (pins : List (Addr × Obj)) (s : Shared) (σ : St) (H : Hp) (D : Ends), Inv X pins σ H s → t D σ H → wpAny (model X.prog X.w) X.A (exec st X.env) (SP X pins D) X.xe s
def PSs (X : Cx) (st : List Stmt) (t : TS) : Prop :=
  ∀ (pins : List (Addr × Obj)) (s : Shared) (σ : St) (H : Hp) (D : Ends), Inv X pins σ H s → t D σ H → wpAny (model X.prog X.w) X.A (execs st X.env) (SP X pins D) X.xe s
theorem thn {α : Type} {t : Sem α} {Q Q' : α → Shared → Prop} {M : Model} {A : Around} {E : Value → Shared → Prop} {s : Shared} (h : wpAny M A t Q E s) (hQ : ∀ a s, Q a s → Q' a s) : wpAny M A t Q' E s := wpAny_mono h hQ fun _ _ x => x
end L2
namespace L2
open PySem PySem.Spec PyProof.Rows
section
variable {X : Cx}
def tVar (i : Nat) : TE := fun σ H Q => ∃ v, σ[i]? = some (some v) ∧ Q v H
def tC (v : V) : TE := fun _ H Q => Q v H
theorem pe_var {i : Nat} {x : Str} {pos : Pos} (hN : X.N[i]? = some x) (hv : Vis X.env.scope x) (hd : (x == ("__debug__" : Str)) = false := by decide) (hcd : (x == ("__classdict__" : Str)) = false := by decide) : PE X (.Name x pos) (tVar i) := by
  intro pins s σ H Q I h
  obtain ⟨v, e, h⟩ := h
  obtain ⟨m, hn, hl⟩ := I.loc
  obtain ⟨u, r, l⟩ := hl i x v hN e hv
  have fin : EP X pins σ Q u s := ⟨v, H, I, r, h⟩
  rcases l with ⟨hk, hm⟩ | ⟨hk, c, hc, hcell⟩
  · exact wpAny_Name (wpAny_loadName_local I.ok.kind hk hn hm fin) hd
  · rcases hk with hk | hk
    · exact wpAny_Name (wpAny_loadName_cell I.ok.kind hk hc hcell fin) hd
    · exact wpAny_Name (wpAny_loadName_free I.ok.kind hk hc hcell fin hcd) hd
theorem pe_int {i j pos} : PE X (.Constant (.int i) j pos) (tC (.int i)) := fun _ _ _ H _ I h => wpAny_Constant_int ⟨.int i, H, I.tok _, ⟨_, rfl⟩, h⟩
theorem pe_bl {b j pos} : PE X (.Constant (.bool b) j pos) (tC (.bl b)) := fun _ _ _ H _ I h => Constant_bool ⟨.bl b, H, I, rfl, h⟩
theorem pe_non {j pos} : PE X (.Constant .none j pos) (tC .non) := fun _ _ _ H _ I h => Constant_none ⟨.non, H, I, rfl, h⟩
theorem pe_str {x j pos} : PE X (.Constant (.str x) j pos) (tC (.str x)) := fun _ _ _ H _ I h => Calls.Constant_str ⟨.str x, H, I.tok _, ⟨_, rfl⟩, h⟩
def Gl (X : Cx) (x : Str) : Prop := X.env.kindOf x = some .globalImplicit
theorem ld_glob {E : Value → Shared → Prop} {pins : List (Addr × Obj)} {s : Shared} {σ : St} {H : Hp} {x : Str} {u : Value} {pos : Pos} {Q : Value → Shared → Prop} (I : Inv X pins σ H s) (hg : Gl X x) (hm : X.mg x = some u) (h : Q u s)
    (hd : (x == ("__debug__" : Str)) = false := by decide) : wpAny (model X.prog X.w) X.A (eval (.Name x pos) X.env) Q E s :=
  Calls.Name_function_global I.ok.kind hg (Calls.loadGlobal_global (by rw [I.ok.glob]; exact I.mod.glob.keeps I.bk) hm h) hd
theorem ld_blt {E : Value → Shared → Prop} {pins : List (Addr × Obj)} {s : Shared} {σ : St} {H : Hp} {x : Str} {u : Value} {pos : Pos} {Q : Value → Shared → Prop} (I : Inv X pins σ H s) (hg : Gl X x) (hm : X.mg x = none) (hv : bootBuiltins x = some u) (h : Q u s)
    (hn : x ≠ "__name__" := by decide) (hd : (x == ("__debug__" : Str)) = false := by decide) : wpAny (model X.prog X.w) X.A (eval (.Name x pos) X.env) Q E s := by
  obtain ⟨mb, h1, h2⟩ := I.mod.blt
  exact Calls.Name_function_global I.ok.kind hg (Calls.loadGlobal_builtin (by rw [I.ok.glob]; exact I.mod.glob.keeps I.bk) hm (by rw [I.ok.blt]; exact h1.keeps I.bk) ((h2 x hn).trans hv) h) hd
theorem pe_glob {x : Str} {v : V} {u : Value} {pos : Pos} (hg : Gl X x) (hm : X.mg x = some u) (r : RelV v u) (hd : (x == ("__debug__" : Str)) = false := by decide) : PE X (.Name x pos) (tC v) :=
  fun _ _ _ H _ I h => ld_glob I hg hm ⟨v, H, I, r, h⟩ hd
theorem pe_bltn {x : Str} {v : V} {u : Value} {pos : Pos} (hg : Gl X x) (hm : X.mg x = none) (hv : bootBuiltins x = some u) (r : RelV v u) (hn : x ≠ "__name__" := by decide) (hd : (x == ("__debug__" : Str)) = false := by decide) : PE X (.Name x pos) (tC v) :=
  fun _ _ _ H _ I h => ld_blt I hg hm hv ⟨v, H, I, r, h⟩ hn hd
variable {a b : Expr} {ta tb : TE} {pos : Pos}
def PC (X : Cx) (op : CmpOp) (a b : Expr) (t : TE) : Prop :=
  ∀ (pins : List (Addr × Obj)) (s : Shared) (σ : St) (H : Hp) (Q : VK), Inv X pins σ H s → t σ H Q →
    wpAny (model X.prog X.w) X.A (eval a X.env) (fun v s₁ => wpAny (model X.prog X.w) X.A (eval b X.env) (fun u s₂ => wpAny (model X.prog X.w) X.A (compareOp op v u) (EP X pins σ Q) X.xe s₂) X.xe s₁) X.xe s
def tB (t : TE) : TT := fun σ H Q => t σ H fun x H1 => ∃ c, x = .bl c ∧ Q c H1
theorem pt_cmp {op : CmpOp} {t : TE} (h : PC X op a b t) (h1 : behindInMarks op b = false := by first | exact nobehind _ (by decide) (by decide) | rfl) : PT X (.Compare a [op] [b] pos) (tB t) := by
  intro pins s σ H Q I hw
  refine wpAny_isTrue_Compare1 (thn (h pins s σ H _ I hw) fun v s1 h1 => thn h1 fun u s2 h2 => thn h2 fun c s3 ⟨x, H1, I1, r1, q1⟩ => ?_) h1
  obtain ⟨d, rfl, q⟩ := q1
  cases r1
  exact wpAny_truthy_bool ⟨H1, I1, q⟩
theorem pt_val {e : Expr} {t : TE} (h : PE X e t) (he : ∀ whole, isTrue e X.env whole = (do let v ← whole; standAt e.pos; holding [v] (truthy v)) := by intro _; rfl) : PT X e (tB t) := by
  intro pins s σ H Q I hw
  refine isTrue_plain (thn (h pins s σ H _ I hw) fun v s1 ⟨x, H1, I1, r1, q1⟩ => ?_) (he _)
  obtain ⟨d, rfl, q⟩ := q1
  cases r1
  exact wpAny_truthy_bool ⟨H1, I1, q⟩
variable {tA tB' : TT} {rest : List Expr}
def tAnd (t u : TT) : TT := fun σ H Q => t σ H fun c H1 => if c = true then u σ H1 Q else Q false H1
def tOr (t u : TT) : TT := fun σ H Q => t σ H fun c H1 => if c = true then Q true H1 else u σ H1 Q
def tNot (t : TT) : TT := fun σ H Q => t σ H fun c H1 => Q (!c) H1
theorem pw_and1 (ha : PT X a tA) : PW X (.BoolOp .And [a] pos) tA := by
  intro wh pins s σ H Q I h
  refine isTrue_and (thn (ha pins s σ H Q I h) fun c s1 e => ?_)
  cases c with
  | true => exact isTrue_and_nil e
  | false => exact e
theorem pw_or1 (ha : PT X a tA) : PW X (.BoolOp .Or [a] pos) tA := by
  intro wh pins s σ H Q I h
  refine isTrue_or (thn (ha pins s σ H Q I h) fun c s1 e => ?_)
  cases c with
  | false => exact isTrue_or_nil e
  | true => exact e
theorem pw_and (ha : PT X a tA) (hb : PW X (.BoolOp .And (b :: rest) pos) tB') : PW X (.BoolOp .And (a :: b :: rest) pos) (tAnd tA tB') := by
  intro wh pins s σ H Q I h
  refine isTrue_and (thn (ha pins s σ H _ I h) fun c s1 ⟨H1, I1, q1⟩ => ?_)
  cases c with
  | true => exact hb wh pins s1 σ H1 Q I1 q1
  | false => exact ⟨H1, I1, q1⟩
theorem pw_or (ha : PT X a tA) (hb : PW X (.BoolOp .Or (b :: rest) pos) tB') : PW X (.BoolOp .Or (a :: b :: rest) pos) (tOr tA tB') := by
  intro wh pins s σ H Q I h
  refine isTrue_or (thn (ha pins s σ H _ I h) fun c s1 ⟨H1, I1, q1⟩ => ?_)
  cases c with
  | true => exact ⟨H1, I1, q1⟩
  | false => exact hb wh pins s1 σ H1 Q I1 q1
theorem pt_not (ha : PT X a tA) : PT X (.UnaryOp .Not a pos) (tNot tA) := by
  intro pins s σ H Q I h
  exact isTrue_not (ha pins s σ H (fun c H1 => Q (!c) H1) I h)
def tAndV (ta tb : TE) : TE := fun σ H Q => ta σ H fun x H1 => ∃ c, x = .bl c ∧ if c = true then tb σ H1 Q else Q (.bl false) H1
def tOrV (ta tb : TE) : TE := fun σ H Q => ta σ H fun x H1 => ∃ c, x = .bl c ∧ if c = true then Q (.bl true) H1 else tb σ H1 Q
def tNotV (ta : TE) : TE := fun σ H Q => ta σ H fun x H1 => ∃ c, x = .bl c ∧ Q (.bl (!c)) H1
theorem pe_one {op} {t : TE} (h : PE X a t) : PE X (.BoolOp op [a] pos) t := fun pins s σ H Q I hw => BoolOp_one (h pins s σ H Q I hw)
theorem pe_and (ha : PE X a ta) (hb : PE X (.BoolOp .And (b :: rest) pos) tb) : PE X (.BoolOp .And (a :: b :: rest) pos) (tAndV ta tb) := by
  intro pins s σ H Q I h
  refine BoolOp_and (thn (ha pins s σ H _ I h) fun v s1 ⟨x, H1, I1, r1, q1⟩ => ?_)
  obtain ⟨c, rfl, q1⟩ := q1
  cases r1
  refine wpAny_truthy_bool ?_
  cases c with
  | true => exact hb pins s1 σ H1 Q I1 q1
  | false => exact ⟨.bl false, H1, I1, rfl, q1⟩
theorem pe_or (ha : PE X a ta) (hb : PE X (.BoolOp .Or (b :: rest) pos) tb) : PE X (.BoolOp .Or (a :: b :: rest) pos) (tOrV ta tb) := by
  intro pins s σ H Q I h
  refine BoolOp_or (thn (ha pins s σ H _ I h) fun v s1 ⟨x, H1, I1, r1, q1⟩ => ?_)
  obtain ⟨c, rfl, q1⟩ := q1
  cases r1
  refine wpAny_truthy_bool ?_
  cases c with
  | false => exact hb pins s1 σ H1 Q I1 q1
  | true => exact ⟨.bl true, H1, I1, rfl, q1⟩
theorem pe_not (ha : PE X a ta) : PE X (.UnaryOp .Not a pos) (tNotV ta) := by
  intro pins s σ H Q I h
  refine UnaryOp_ (thn (ha pins s σ H _ I h) fun v s1 ⟨x, H1, I1, r1, q1⟩ => ?_)
  obtain ⟨c, rfl, q1⟩ := q1
  cases r1
  exact not_of (wpAny_truthy_bool ⟨.bl (!c), H1, I1, rfl, q1⟩)
end
end L2
namespace L2
open PySem PySem.Spec PyProof.Rows
def SqL (K : PySem.W.Frag) (H : Hp) (a : Addr) (xs : List V) : Prop :=
  Rd H a (.lst xs) ∨
    ∃ (o : Obj) (its : Array Value) (n : Nat), K.lookup a = some o ∧ o.cls = .type "list" ∧ o.dict = none ∧ o.data = .seq its n ∧ its.size ≤ sizeLine ∧ Vals xs its.toList
def SqT (K : PySem.W.Frag) (H : Hp) (a : Addr) (xs : List V) : Prop :=
  Rd H a (.tup xs) ∨
    ∃ (o : Obj) (its : Array Value) (n : Nat), K.lookup a = some o ∧ o.cls = .type "tuple" ∧ o.data = .seq its n ∧ its.size ≤ sizeLine ∧ Vals xs its.toList
def absV : Value → Option V
  | .none => some .non
  | .bool b => some (.bl b)
  | .int i _ => some (.int i)
  | .str x _ => some (.str x)
  | .bytes b _ => some (.byt b)
  | .float b _ => some (.flt b)
  | .ref a => some (.ref a)
  | .type n => some (.ty n)
  | _ => none
theorem RelV.abs {x : V} {u : Value} (r : RelV x u) : absV u = some x := by
  cases x with
  | non => cases r; rfl
  | bl _ => cases r; rfl
  | int _ => obtain ⟨t, rfl⟩ := r; rfl
  | str _ => obtain ⟨t, rfl⟩ := r; rfl
  | byt _ => obtain ⟨t, rfl⟩ := r; rfl
  | flt _ => obtain ⟨t, rfl⟩ := r; rfl
  | ref _ => cases r; rfl
  | ty _ => cases r; rfl
theorem RelV.inj {x y : V} {u : Value} (r : RelV x u) (q : RelV y u) : x = y := Option.some.inj (r.abs.symm.trans q.abs)
theorem Vals.inj : ∀ {xs ys : List V} {us : List Value}, Vals xs us → Vals ys us → xs = ys
  | _, _, _, .nil, .nil => rfl
  | _, _, _, .cons r t, .cons r' t' => by rw [r.inj r', Vals.inj t t']
section
variable {X : Cx} {pins : List (Addr × Obj)} {σ : St} {H : Hp} {s : Shared} {a : Addr} {xs ys : List V}
theorem SqL.of {K : PySem.W.Frag} (h : H a = some (.lst xs)) : SqL K H a xs := .inl (.inl h)
theorem SqT.of {K : PySem.W.Frag} (h : H a = some (.tup xs)) : SqT K H a xs := .inl (.inl h)
theorem Inv.list (I : Inv X pins σ H s) (h : SqL X.K H a xs) : ∃ its : List Value, Vals xs its ∧ PlainL s.heap a its.toArray ∧ xs.length ≤ sizeLine := by
  rcases h with h | ⟨o, its, n, hk, hc, hd, hs, hz, r⟩
  · obtain ⟨z, its, n, r, e⟩ := h.ok I.hok
    exact ⟨its, r, ⟨_, n, e, rfl, rfl, rfl⟩, z⟩
  · refine ⟨its.toList, r, ⟨o, n, I.kIn a o hk, hc, hd, by simpa using hs⟩, ?_⟩
    have e := r.length
    simp only [Array.length_toList] at e
    omega
theorem Inv.tuple (I : Inv X pins σ H s) (h : SqT X.K H a xs) : ∃ its : List Value, Vals xs its ∧ IsTup s.heap a its.toArray ∧ xs.length ≤ sizeLine := by
  rcases h with h | ⟨o, its, n, hk, hc, hs, hz, r⟩
  · obtain ⟨z, its, r, p⟩ := h.ok I.hok
    exact ⟨its, r, p.is, z⟩
  · refine ⟨its.toList, r, ⟨o, I.kIn a o hk, hc, n, by simpa using hs⟩, ?_⟩
    have e := r.length
    simp only [Array.length_toList] at e
    omega
theorem Inv.list_inj (I : Inv X pins σ H s) (h : SqL X.K H a xs) (h' : SqL X.K H a ys) : xs = ys := by
  obtain ⟨its, r, ⟨o, n, e, _, _, d⟩, _⟩ := I.list h
  obtain ⟨its', r', ⟨o', n', e', _, _, d'⟩, _⟩ := I.list h'
  rw [e] at e'; cases e'
  rw [d] at d'
  injection d' with d1 _
  have : its = its' := by simpa using congrArg Array.toList d1
  subst this
  exact r.inj r'
theorem Inv.tuple_inj (I : Inv X pins σ H s) (h : SqT X.K H a xs) (h' : SqT X.K H a ys) : xs = ys := by
  obtain ⟨its, r, ⟨o, e, _, n, d⟩, _⟩ := I.tuple h
  obtain ⟨its', r', ⟨o', e', _, n', d'⟩, _⟩ := I.tuple h'
  rw [e] at e'; cases e'
  rw [d] at d'
  injection d' with d1 _
  have : its = its' := by simpa using congrArg Array.toList d1
  subst this
  exact r.inj r'
end
abbrev Cx.wish (X : Cx) (E : Value → Shared → Prop) : Cx := { X with xe := E }
abbrev Cx.nox (X : Cx) : Cx := X.wish fun _ _ => False
theorem Cx.Ok.wish {X : Cx} (ok : X.Ok) (E : Value → Shared → Prop) : (X.wish E).Ok :=
  ⟨ok.mod, ok.kind, ok.glob, ok.blt, ok.above, ok.inj, ok.has, ok.cab, ok.hd, ok.frames, ok.stk, ok.exf, ok.bs, ok.bsz, ok.noex, ok.exfs, ok.funs, ok.frf⟩
theorem Cx.Ok.unwish {X : Cx} {E : Value → Shared → Prop} (ok : (X.wish E).Ok) : X.Ok :=
  ⟨ok.mod, ok.kind, ok.glob, ok.blt, ok.above, ok.inj, ok.has, ok.cab, ok.hd, ok.frames, ok.stk, ok.exf, ok.bs, ok.bsz, ok.noex, ok.exfs, ok.funs, ok.frf⟩
section
variable {X : Cx} {pins : List (Addr × Obj)} {σ : St} {H : Hp} {s : Shared} {E : Value → Shared → Prop}
theorem Inv.wish (I : Inv X pins σ H s) (E : Value → Shared → Prop) : Inv (X.wish E) pins σ H s := ⟨I.ok.wish E, I.os, I.bare, I.base, I.loc, I.cell, I.free, I.freeC, I.pin, I.hok, I.len⟩
theorem Inv.unwish (I : Inv (X.wish E) pins σ H s) : Inv X pins σ H s := ⟨I.ok.unwish, I.os, I.bare, I.base, I.loc, I.cell, I.free, I.freeC, I.pin, I.hok, I.len⟩
theorem SP.unwish {D : Ends} {f : Flow} {s' : Shared} (h : SP (X.wish E) pins D f s') : SP X pins D f s' := by
  cases f with
  | next => obtain ⟨σ', H', I, q⟩ := h; exact ⟨σ', H', I.unwish, q⟩
  | brk => obtain ⟨σ', H', I, q⟩ := h; exact ⟨σ', H', I.unwish, q⟩
  | cont => obtain ⟨σ', H', I, q⟩ := h; exact ⟨σ', H', I.unwish, q⟩
  | ret u => obtain ⟨v, σ', H', I, r, q⟩ := h; exact ⟨v, σ', H', I.unwish, r, q⟩
theorem PSs.nox {st : List Stmt} {t : TS} (h : PSs X.nox st t) : PSs X st t := fun pins s σ H D I hw =>
  wpAny_mono (h pins s σ H D (I.wish _) hw) (fun _ _ q => q.unwish) fun _ _ z => False.elim z
end
section
variable {X : Cx} {st : Stmt} {rest : List Stmt} {t u : TS} {e : Expr} {te : TE} {pos : Pos}
def tNext : TS := fun D σ H => D.nx σ H
def tSeq (t u : TS) : TS := fun D σ H => t { D with nx := u D } σ H
theorem pss_nil : PSs X [] tNext := fun _ _ σ H _ I h => wpAny_execs_nil ⟨σ, H, I, h⟩
theorem pss_cons (h1 : PS X st t) (h2 : PSs X rest u) : PSs X (st :: rest) (tSeq t u) := by
  intro pins s σ H D I h
  refine wpAny_execs_cons (thn (h1 pins s σ H { D with nx := u D } I h) fun f s1 q => ?_)
  cases f with
  | next =>
    obtain ⟨σ', H', I', q⟩ := q
    exact h2 pins s1 σ' H' D I' q
  | ret v => exact q
  | brk => exact q
  | cont => exact q
theorem pss_one (h1 : PS X st t) : PSs X [st] t := by
  intro pins s σ H D I h
  refine wpAny_execs_cons (thn (h1 pins s σ H D I h) fun f s1 q => ?_)
  cases f with
  | next => exact wpAny_execs_nil q
  | ret v => exact q
  | brk => exact q
  | cont => exact q
theorem Inv.quiet {pins : List (Addr × Obj)} {σ : St} {H : Hp} {s : Shared} (I : Inv X pins σ H s) : interactive X.env = false := by simp [interactive, I.ok.kind]
def tDrop (te : TE) : TS := fun D σ H => te σ H fun _ H1 => D.nx σ H1
theorem ps_expr (he : PE X e te) (hs : swapsWith e none pos.line X.env = pure false := by rfl) : PS X (.Expr e pos) (tDrop te) := by
  intro pins s σ H D I h
  exact wpAny_Expr_any (thn (he pins s σ H _ I h) fun v s1 ⟨x, H1, I1, r1, q1⟩ => ⟨σ, H1, I1, q1⟩) I.quiet hs
def tRet (te : TE) : TS := fun D σ H => te σ H D.rt
theorem ps_ret (he : PE X e te) : PS X (.Return (some e) pos) (tRet te) := by
  intro pins s σ H D I h
  exact wpAny_Return_some (thn (he pins s σ H _ I h) fun v s1 ⟨x, H1, I1, r1, q1⟩ => ⟨x, σ, H1, I1, r1, q1⟩)
def tIfS (c : TT) (t u : TS) : TS := fun D σ H => c σ H fun b H1 => if b = true then t D σ H1 else u D σ H1
theorem ps_if {c : Expr} {a b : List Stmt} {tc : TT} (hc : PT X c tc) (ha : PSs X a t) (hb : PSs X b u) : PS X (.If c a b pos) (tIfS tc t u) := by
  intro pins s σ H D I h
  refine wpAny_If (thn (hc pins s σ H _ I h) fun d s1 ⟨H1, I1, q1⟩ => ?_)
  cases d with
  | true => exact ha pins s1 σ H1 D I1 q1
  | false => exact hb pins s1 σ H1 D I1 q1
end
abbrev TG := V → St → Hp → (St → Hp → Prop) → Prop
abbrev TGs := List V → St → Hp → (St → Hp → Prop) → Prop
def PG (X : Cx) (target : Expr) (t : TG) : Prop :=
  ∀ (pins : List (Addr × Obj)) (s : Shared) (σ : St) (H : Hp) (v : V) (u : Value) (Q : St → Hp → Prop), Inv X pins σ H s → RelV v u → t v σ H Q →
    wpAny (model X.prog X.w) X.A (assign target X.env u) (fun _ s' => ∃ σ' H', Inv X pins σ' H' s' ∧ Q σ' H') X.xe s
def PGs (X : Cx) (ts : List Expr) (t : TGs) : Prop :=
  ∀ (pins : List (Addr × Obj)) (s : Shared) (σ : St) (H : Hp) (vs : List V) (us : List Value) (Q : St → Hp → Prop), Inv X pins σ H s → Vals vs us → t vs σ H Q →
    wpAny (model X.prog X.w) X.A (assignInOrder ((assignEach ts X.env).map (·.2)) us) (fun _ s' => ∃ σ' H', Inv X pins σ' H' s' ∧ Q σ' H') X.xe s
abbrev TSet := V → V → V → Hp → (Hp → Prop) → Prop
def PSet (X : Cx) (t : TSet) : Prop :=
  ∀ (pins : List (Addr × Obj)) (s : Shared) (σ : St) (H : Hp) (o i v : V) (ov iv u : Value) (Q : Hp → Prop), Inv X pins σ H s → RelV o ov → RelV i iv → RelV v u → t o i v H Q →
    wpAny (model X.prog X.w) X.A (setItem ov iv u) (fun _ s' => ∃ H', Inv X pins σ H' s' ∧ Q H') X.xe s
section
variable {X : Cx} {pos : Pos}
def gName (i : Nat) : TG := fun v σ H Q => Q (σ.set i (some v)) H
theorem pg_name {i : Nat} {x : Str} (hN : X.N.Nodup) (hi : X.N[i]? = some x) (hx : Loc X.env.scope x) (hf : X.fn x = true ∨ X.env.scope.names.lookup x = some .local := by first | exact .inl rfl | exact .inr rfl | assumption) : PG X (.Name x pos) (gName i) := by
  intro pins s σ H v u Q I r h
  exact wpAny_assign_Name (store_ok I hN hi hx r (fun s' I' => ⟨_, H, I', h⟩) hf)
def gNil : TGs := fun vs σ H Q => vs = [] ∧ Q σ H
def gCons (t : TG) (u : TGs) : TGs := fun vs σ H Q => ∃ v r, vs = v :: r ∧ t v σ H fun σ' H' => u r σ' H' Q
theorem pgs_nil : PGs X [] gNil := by
  intro pins s σ H vs us Q I r h
  obtain ⟨e, h⟩ := h
  subst e
  cases r
  exact assignInOrder_nil ⟨σ, H, I, h⟩
theorem pgs_cons {e : Expr} {es : List Expr} {t : TG} {u : TGs} (h1 : PG X e t) (h2 : PGs X es u)
    (hs : (assignEach (e :: es) X.env).map (·.2) = assign e X.env :: (assignEach es X.env).map (·.2) := by rfl) : PGs X (e :: es) (gCons t u) := by
  intro pins s σ H vs us Q I r h
  obtain ⟨v, vr, e1, h⟩ := h
  subst e1
  cases r with
  | cons r rr =>
    rw [hs]
    refine assignInOrder_cons (thn (h1 pins s σ H _ _ _ I r h) fun _ s1 ⟨σ1, H1, I1, q1⟩ => ?_)
    exact h2 pins s1 σ1 H1 _ _ Q I1 rr q1
def gTup (K : PySem.W.Frag) (n : Nat) (t : TGs) : TG := fun v σ H Q => ∃ a xs, v = .ref a ∧ SqT K H a xs ∧ xs.length = n ∧ t xs σ H Q
theorem pg_tup {es : List Expr} {k : Nat} {t : TGs} {n : Nat} (hc : X.calm = true) (h : PGs X es t)
    (hn : (assignEach es X.env).length = n := by rfl) (hst : (assignEach es X.env).findIdx? (·.1) = none := by rfl) : PG X (.Tuple es k pos) (gTup X.K n t) := by
  intro pins s σ H v u Q I r hw
  obtain ⟨a, xs, e1, hq, hl, hw⟩ := hw
  subst e1
  cases r
  obtain ⟨its, rv, ht, hz⟩ := I.tuple hq
  refine assign_Tuple_tuple (I.ok.hd hc) ht (by simp [hn, ← hl, rv.length]) hst fun h' hx => ?_
  have I1 : Inv X pins σ H { s with heap := h' } := I.kept (t' := s.toks) fun b o e => hx b o (Nat.ne_of_lt (Heap.lt_size e)) e
  exact h pins _ σ H xs _ Q I1 (by simpa using rv) hw
def gSub (to ti : TE) (t : TSet) : TG := fun v σ H Q => to σ H fun o H1 => ti σ H1 fun i H2 => t o i v H2 fun H3 => Q σ H3
theorem pg_sub {o i : Expr} {to ti : TE} {t : TSet} (ho : PE X o to) (hi : PE X i ti) (hs : PSet X t)
    (ha : ∀ v, assign (.Subscript o i pos) X.env v = (do
      let ov ← holding [v] (eval o X.env)
      let iv ← holding [v, ov] (eval i X.env)
      standAt pos
      holding [v, ov, iv] (setItem ov iv v)
      release [v, ov, iv] []) := by intro _; rfl) : PG X (.Subscript o i pos) (gSub to ti t) := by
  intro pins s σ H v u Q I r h
  rw [ha]
  refine wpAny_bind (wpAny_holding (thn (ho pins s σ H _ I h) fun ov s1 ⟨x, H1, I1, r1, q1⟩ => ?_))
  refine wpAny_bind (wpAny_holding (thn (hi pins s1 σ H1 _ I1 q1) fun iv s2 ⟨y, H2, I2, r2, q2⟩ => ?_))
  refine wpAny_bind (wpAny_standAt (wpAny_bind (wpAny_holding (thn (hs pins s2 σ H2 x y v ov iv u _ I2 r1 r2 r q2) fun _ s3 ⟨H3, I3, q3⟩ => ?_))))
  exact wpAny_release ⟨σ, H3, I3, q3⟩
def tAsg (te : TE) (g : TG) : TS := fun D σ H => te σ H fun x H1 => g x σ H1 D.nx
theorem ps_asg {tg e : Expr} {te : TE} {g : TG} (he : PE X e te) (hg : PG X tg g) (hs : swapsWithSole [tg] e pos.line X.env = pure false := by rfl) (hw : swappedStores [tg] e X.env = pure none := by rfl)
    (h1 : (assignEach [tg] X.env).map (·.2) = [assign tg X.env] := by rfl) : PS X (.Assign [tg] e pos) (tAsg te g) := by
  intro pins s σ H D I h
  refine wpAny_Assign_stores (thn (he pins s σ H _ I h) fun v s1 ⟨x, H1, I1, r1, q1⟩ => ?_) hs hw
  rw [h1]
  exact thn (hg pins s1 σ H1 x v _ I1 r1 q1) fun _ s2 q => q
theorem ps_set {i : Nat} {x : Str} {e : Expr} {te : TE} {pos' : Pos} (hN : X.N.Nodup) (hi : X.N[i]? = some x) (hx : Loc X.env.scope x) (he : PE X e te) (hs : swapsWith e (some (.Name x pos')) pos.line X.env = pure false := by rfl) (hf : X.fn x = true ∨ X.env.scope.names.lookup x = some .local := by first | exact .inl rfl | exact .inr rfl | assumption) :
    PS X (.Assign [.Name x pos'] e pos) (tAsg te (gName i)) := by
  intro pins s σ H D I h
  refine wpAny_Assign_Name (thn (he pins s σ H _ I h) fun v s1 ⟨y, H1, I1, r1, q1⟩ => ?_) hs
  exact store_ok I1 hN hi hx r1 (fun s2 I2 => ⟨_, H1, I2, q1⟩) hf
end
section
variable {X : Cx} {pos : Pos}
end
structure It where
  go : Nat → Hp → Prop
  yld : Nat → Hp → V → Hp → Prop
  stop : Nat → Hp → Prop
def FpOk (X : Cx) (pins : List (Addr × Obj)) (H : Hp) (b : Addr) : Prop :=
  H b = none ∧ b ≠ X.env.locals ∧ b ∉ X.fs ∧ (b ∈ X.ex ∨ X.s₀.heap.objs.size ≤ b) ∧ (∀ x c, X.env.cells.lookup x = some c → c ≠ b) ∧ ∀ p ∈ X.pn ++ pins, p.1 ≠ b
theorem Inv.fpOk {X : Cx} {pins : List (Addr × Obj)} {σ : St} {H H' : Hp} {s : Shared} {b : Addr} (I : Inv X pins σ H s) (hb : s.heap.objs.size ≤ b) (hn : H' b = none) : FpOk X pins H' b := by
  refine ⟨hn, Nat.ne_of_gt (Nat.lt_of_lt_of_le I.lt hb), I.nofs hb, .inr (Nat.le_trans I.sz hb), fun x c e z => ?_, fun p hp z => ?_⟩
  · obtain ⟨v, q⟩ := I.cell x c e
    exact absurd (Nat.lt_of_lt_of_le q.lt (by rw [z]; exact hb)) (Nat.lt_irrefl _)
  · exact absurd (Nat.lt_of_lt_of_le (Heap.lt_size (I.pin p hp).1) (by rw [z]; exact hb)) (Nat.lt_irrefl _)
structure Turn (P : Program) (w : World) (K : PySem.W.Frag) (tg : Expr) (J : It) (fp : List Addr) (it : Addr) (tn : Nat → Heap → Prop) : Prop where
  mem : it ∈ fp
  obj : ∀ i h, tn i h → ∀ b ∈ fp, ∃ o, h.get? b = some o ∧ ∀ v, o.data ≠ .cell v
  keep : ∀ i h h', tn i h → (∀ b ∈ fp, ∀ o, h.get? b = some o → h'.get? b = some o) → tn i h'
  item : ∀ (X : Cx), X.prog = P → X.w = w → X.K = K → X.calm = true → ∀ (i : Nat) (pins : List (Addr × Obj)) (s : Shared) (σ : St) (H : Hp) (E : Value → Shared → Prop), Inv X pins σ H s → (∀ b ∈ fp, FpOk X pins H b) → tn i s.heap → J.go i H →
    wpAny (model P w) X.A (pyNext (.ref it)) (fun r s1 => ∃ u, r = some u ∧
      wpAny (model P w) X.A (letOwnedTupleGo tg (.ref it) u) (fun _ s2 => ∃ x H', Inv X pins σ H' s2 ∧ RelV x u ∧ J.yld i H x H' ∧ tn (i + 1) s2.heap ∧ ∀ b ∈ fp, H' b = none) E s1) E s
  done : ∀ (X : Cx), X.prog = P → X.w = w → X.K = K → X.calm = true → ∀ (i : Nat) (pins : List (Addr × Obj)) (s : Shared) (σ : St) (H : Hp) (E : Value → Shared → Prop), Inv X pins σ H s → (∀ b ∈ fp, FpOk X pins H b) → tn i s.heap → J.stop i H →
    wpAny (model P w) X.A (pyNext (.ref it)) (fun r s1 => r = none ∧ Inv X pins σ H s1) E s
  self : ∀ (A : Around) (i : Nat) (s : Shared) (Q : Value → Shared → Prop) (E : Value → Shared → Prop), tn i s.heap → Q (.ref it) s → wpAny (model P w) A (pyIter (.ref it)) Q E s
abbrev TI := St → Hp → (It → Hp → Prop) → Prop
def PIE (X : Cx) (pins : List (Addr × Obj)) (σ : St) (tg : Expr) (R : It → Hp → Prop) (itv : Value) (s2 : Shared) : Prop :=
  ∃ (it : Addr) (fp : List Addr) (tn : Nat → Heap → Prop) (J : It) (H' : Hp), itv = .ref it ∧ Inv X pins σ H' s2 ∧ Turn X.prog X.w X.K tg J fp it tn ∧ tn 0 s2.heap ∧ (∀ b ∈ fp, FpOk X pins H' b) ∧ R J H'
def PI (X : Cx) (tg iter : Expr) (wi : TI) : Prop :=
  ∀ (pins : List (Addr × Obj)) (s : Shared) (σ : St) (H : Hp) (R : It → Hp → Prop), Inv X pins σ H s → wi σ H R →
    wpAny (model X.prog X.w) X.A (eval iter X.env) (fun v s1 => wpAny (model X.prog X.w) X.A (pyIter v) (PIE X pins σ tg R) X.xe s1) X.xe s
theorem go_of {M : Model} {A : Around} {E : Value → Shared → Prop} {s : Shared} {tg : Expr} {it : Addr} {u : Value} {o : Obj} {n : String} {vs : Array Value} {Q : Unit → Shared → Prop} (ho : s.heap.get? it = some o) (hc : o.cls = .type n) (hd : o.data = .fields vs)
    (hn : ["enumerate", "zip", "dict_itemiterator", "dict_reverseitemiterator", "odict_iterator", "itertools.zip_longest", "itertools.pairwise"].contains n = false) (hQ : Q () s) : wpAny M A (letOwnedTupleGo tg (.ref it) u) Q E s := by
  unfold letOwnedTupleGo
  cases tg <;> first
    | exact wpAny_pure hQ
    | (cases u <;> first
        | exact wpAny_pure hQ
        | (refine wpAny_bind (wpAny_load ho ?_)
           rw [hc, hd]
           show wpAny M A (if (["enumerate", "zip", "dict_itemiterator", "dict_reverseitemiterator", "odict_iterator", "itertools.zip_longest", "itertools.pairwise"].contains n && vs[0]? == some (rawInt _)) = true then _ else _) Q E s
           rw [if_neg (by intro h; rw [hn, Bool.false_and] at h; cases h)]
           exact wpAny_pure hQ))
def Itl (K : PySem.W.Frag) (a : Addr) : It :=
  ⟨fun i H => ∃ xs x, SqL K H a xs ∧ xs[i]? = some x, fun i H x H' => H' = H ∧ ∀ xs, SqL K H a xs → xs[i]? = some x, fun i H => ∃ xs, SqL K H a xs ∧ xs.length ≤ i⟩
def Itt (K : PySem.W.Frag) (a : Addr) : It :=
  ⟨fun i H => ∃ xs x, SqT K H a xs ∧ xs[i]? = some x, fun i H x H' => H' = H ∧ ∀ xs, SqT K H a xs → xs[i]? = some x, fun i H => ∃ xs, SqT K H a xs ∧ xs.length ≤ i⟩
def Itr (lo : Int) (n : Nat) : It := ⟨fun i _ => i < n, fun i H x H' => H' = H ∧ x = .int (lo + i), fun i _ => n ≤ i⟩
theorem turn_list {P : Program} {w : World} {K : PySem.W.Frag} {tg : Expr} (a it : Addr) : Turn P w K tg (Itl K a) [it] it (fun i h => h.IsListIter it a i) where
  mem := by simp
  obj := fun i h st b hb => by
    have e : b = it := by simpa using hb
    subst e
    obtain ⟨o, e, c, d⟩ := st
    exact ⟨o, e, fun v z => by rw [d] at z; cases z⟩
  keep := fun i h h' st k => st.at fun o e => k it (by simp) o e
  item := by
    intro X hP hw hK hc i pins s σ H E I hf st hg
    subst hP hw hK
    obtain ⟨xs, x, hq, hx⟩ := hg
    obtain ⟨its, rv, p, hz⟩ := I.list hq
    obtain ⟨u, hu, ru⟩ := rv.get hx
    obtain ⟨f0, f1, f2, f3, f4, f5⟩ := hf it (by simp)
    refine wpAny_pyNext_list_item st p.isList (x := u) (by simpa using hu) fun h' st' sb => ?_
    have I1 : Inv X pins σ H { s with heap := h' } := I.turned (t' := s.toks) (fun b o hb e => (sb.2 b hb).trans e) f0 f1 f3 f4 f5
    obtain ⟨o, e, c, d⟩ := id st'
    exact ⟨u, rfl, go_of (s := { s with heap := h' }) e c d (by decide) ⟨x, H, I1, ru, ⟨rfl, fun ys hy => by rw [I.list_inj hy hq]; exact hx⟩, st', fun b hb => (hf b hb).1⟩⟩
  done := by
    intro X hP hw hK hc i pins s σ H E I hf st hg
    subst hP hw hK
    obtain ⟨xs, hq, hx⟩ := hg
    obtain ⟨its, rv, p, hz⟩ := I.list hq
    obtain ⟨f0, f1, f2, f3, f4, f5⟩ := hf it (by simp)
    have hl := rv.length
    exact wpAny_pyNext_list_end (I.ok.hd hc) st p.isList (by simp; omega) fun h' eb => ⟨rfl, I.turned (t' := s.toks) (fun b o hb e => eb b o hb e) f0 f1 f3 f4 f5⟩
  self := fun _ _ _ _ _ st h => wpAny_pyIter_listiter st h
theorem turn_tuple {P : Program} {w : World} {K : PySem.W.Frag} {tg : Expr} (a it : Addr) : Turn P w K tg (Itt K a) [it] it (fun i h => h.IsTupleIter it a i) where
  mem := by simp
  obj := fun i h st b hb => by
    have e : b = it := by simpa using hb
    subst e
    obtain ⟨o, e, c, d⟩ := st
    exact ⟨o, e, fun v z => by rw [d] at z; cases z⟩
  keep := fun i h h' st k => st.at fun o e => k it (by simp) o e
  item := by
    intro X hP hw hK hc i pins s σ H E I hf st hg
    subst hP hw hK
    obtain ⟨xs, x, hq, hx⟩ := hg
    obtain ⟨its, rv, p, hz⟩ := I.tuple hq
    obtain ⟨u, hu, ru⟩ := rv.get hx
    obtain ⟨f0, f1, f2, f3, f4, f5⟩ := hf it (by simp)
    refine wpAny_pyNext_tuple_item st (show s.heap.IsTuple a its.toArray from p) (x := u) (by simpa using hu) fun h' st' sb => ?_
    have I1 : Inv X pins σ H { s with heap := h' } := I.turned (t' := s.toks) (fun b o hb e => (sb.2 b hb).trans e) f0 f1 f3 f4 f5
    obtain ⟨o, e, c, d⟩ := id st'
    exact ⟨u, rfl, go_of (s := { s with heap := h' }) e c d (by decide) ⟨x, H, I1, ru, ⟨rfl, fun ys hy => by rw [I.tuple_inj hy hq]; exact hx⟩, st', fun b hb => (hf b hb).1⟩⟩
  done := by
    intro X hP hw hK hc i pins s σ H E I hf st hg
    subst hP hw hK
    obtain ⟨xs, hq, hx⟩ := hg
    obtain ⟨its, rv, p, hz⟩ := I.tuple hq
    obtain ⟨f0, f1, f2, f3, f4, f5⟩ := hf it (by simp)
    have hl := rv.length
    exact wpAny_pyNext_tuple_end (I.ok.hd hc) st (show s.heap.IsTuple a its.toArray from p) (by simp; omega) fun h' eb => ⟨rfl, I.turned (t' := s.toks) (fun b o hb e => eb b o hb e) f0 f1 f3 f4 f5⟩
  self := fun _ _ _ _ _ st h => wpAny_pyIter_tupleiter st h
theorem turn_range {P : Program} {w : World} {K : PySem.W.Frag} {tg : Expr} (it : Addr) (lo : Int) (n : Nat) : Turn P w K tg (Itr lo n) [it] it (fun i h => IsRangeIter h it (lo + (i : Nat) * 1) ((n : Int) - (i : Nat)) 1) where
  mem := by simp
  obj := fun i h st b hb => by
    have e : b = it := by simpa using hb
    subst e
    exact ⟨_, st, fun v z => by
      have z' : Data.fields _ = Data.cell v := z
      cases z'⟩
  keep := fun i h h' st k => k it (by simp) _ st
  item := by
    intro X hP hw hK hc i pins s σ H E I hf st hg
    subst hP hw hK
    obtain ⟨f0, f1, f2, f3, f4, f5⟩ := hf it (by simp)
    have W := Walks.range (prog := X.prog) (w := X.w) (I.ok.hd hc) it lo 1 n
    refine W.item i s _ _ hg st fun v h' tk hv st' kk => ?_
    obtain ⟨t, rfl⟩ := hv
    have I1 : Inv X pins σ H { s with heap := h', toks := tk } := I.turned (fun b o hb e => kk b o (by simpa using hb) e) f0 f1 f3 f4 f5
    refine ⟨_, rfl, go_of (s := { s with heap := h', toks := tk }) (n := "range_iterator") st' rfl rfl (by decide) ⟨.int (lo + i), H, I1, ⟨t, ?_⟩, ⟨rfl, rfl⟩, st', fun b hb => (hf b hb).1⟩⟩
    rw [Int.mul_one]
  done := by
    intro X hP hw hK hc i pins s σ H E I hf st hg
    subst hP hw hK
    obtain ⟨f0, f1, f2, f3, f4, f5⟩ := hf it (by simp)
    exact wpAny_pyNext_range_end (I.ok.hd hc) st (by have : n ≤ i := hg; omega) fun h' eb => ⟨rfl, I.turned (t' := s.toks) (fun b o hb e => eb b o hb e) f0 f1 f3 f4 f5⟩
  self := fun _ _ _ _ _ st h => wpAny_pyIter_rangeiter st h
end L2
namespace L2
open PySem PySem.Spec PyProof.Rows
section
variable {X : Cx} {tg : Expr}
def iList (K : PySem.W.Frag) (tl : TE) : TI := fun σ H R => tl σ H fun x H1 => ∃ a, x = .ref a ∧ (∃ xs, SqL K H1 a xs) ∧ R (Itl K a) H1
def iTup (K : PySem.W.Frag) (tl : TE) : TI := fun σ H R => tl σ H fun x H1 => ∃ a, x = .ref a ∧ (∃ xs, SqT K H1 a xs) ∧ R (Itt K a) H1
theorem pi_list {l : Expr} {tl : TE} (hl : PE X l tl) : PI X tg l (iList X.K tl) := by
  intro pins s σ H R I h
  refine thn (hl pins s σ H _ I h) fun v s1 ⟨x, H1, I1, r1, q1⟩ => ?_
  obtain ⟨a, e, ⟨xs, hq⟩, q⟩ := q1
  subst e
  cases r1
  obtain ⟨its, rv, p, hz⟩ := I1.list hq
  refine wpAny_pyIter_list p.isList ?_
  refine ⟨s1.heap.objs.size, [s1.heap.objs.size], _, _, H1, rfl, I1.kept (t' := s1.toks) fun b o e => Heap.get?_push_of_some _ e, turn_list a _, ⟨_, Heap.get?_push_size _ rfl, rfl, rfl⟩, fun b hb => ?_, q⟩
  have e : b = s1.heap.objs.size := by simpa using hb
  subst e
  exact I1.fpOk (Nat.le_refl _) (I1.hok.fresh (Nat.le_refl _))
theorem pi_tup {l : Expr} {tl : TE} (hl : PE X l tl) : PI X tg l (iTup X.K tl) := by
  intro pins s σ H R I h
  refine thn (hl pins s σ H _ I h) fun v s1 ⟨x, H1, I1, r1, q1⟩ => ?_
  obtain ⟨a, e, ⟨xs, hq⟩, q⟩ := q1
  subst e
  cases r1
  obtain ⟨its, rv, p, hz⟩ := I1.tuple hq
  refine wpAny_pyIter_tuple (show s1.heap.IsTuple a its.toArray from p) ?_
  refine ⟨s1.heap.objs.size, [s1.heap.objs.size], _, _, H1, rfl, I1.kept (t' := s1.toks) fun b o e => Heap.get?_push_of_some _ e, turn_tuple a _, ⟨_, Heap.get?_push_size _ rfl, rfl, rfl⟩, fun b hb => ?_, q⟩
  have e : b = s1.heap.objs.size := by simpa using hb
  subst e
  exact I1.fpOk (Nat.le_refl _) (I1.hok.fresh (Nat.le_refl _))
theorem range_it {pins : List (Addr × Obj)} {σ : St} {H : Hp} {s : Shared} {R : It → Hp → Prop} {E : Value → Shared → Prop} {lo hi : Int} {t u v : Tok} {tk : Nat} (I : Inv X pins σ H s) (h1 : -(2 ^ 62) ≤ lo) (h2 : lo < 2 ^ 62) (h3 : -(2 ^ 62) ≤ hi) (h4 : hi < 2 ^ 62)
    (q : R (Itr lo (hi - lo).toNat) H) : wpAny (model X.prog X.w) X.A (pyIter (.ref s.heap.objs.size)) (PIE X pins σ tg R) E { s with heap := s.heap.push { cls := .type "range", data := .fields #[.int lo t, .int hi u, .int 1 v] }, toks := tk } := by
  refine wpAny_pyIter_range (IsRange.new ..) (small_one h1 h2 h3 h4) ?_
  have I1 : Inv X pins σ H { s with heap := s.heap.push { cls := .type "range", data := .fields #[.int lo t, .int hi u, .int 1 v] }, toks := tk } := I.kept fun b o e => Heap.get?_push_of_some _ e
  refine ⟨(s.heap.push { cls := .type "range", data := .fields #[.int lo t, .int hi u, .int 1 v] }).objs.size, [(s.heap.push { cls := .type "range", data := .fields #[.int lo t, .int hi u, .int 1 v] }).objs.size], _, _, H, rfl,
    I1.kept (t' := tk) fun b o e => Heap.get?_push_of_some _ e, turn_range _ lo (hi - lo).toNat, ?_, fun b hb => ?_, q⟩
  · have e1 : lo + ((0 : Nat) : Int) * 1 = lo := by simp
    have e2 : (((hi - lo).toNat : Nat) : Int) - ((0 : Nat) : Int) = Builtin.Range.rangeSize lo hi 1 := by rw [rangeSize_one]; split <;> omega
    show IsRangeIter _ _ (lo + ((0 : Nat) : Int) * 1) ((((hi - lo).toNat : Nat) : Int) - ((0 : Nat) : Int)) 1
    rw [e1, e2]
    exact Heap.get?_push_size _ rfl
  · have e : b = (s.heap.push { cls := .type "range", data := .fields #[.int lo t, .int hi u, .int 1 v] }).objs.size := by simpa using hb
    subst e
    exact I1.fpOk (Nat.le_refl _) (I1.hok.fresh (Nat.le_refl _))
def iRng1 (ta : TA) : TI := fun σ H R => ta σ H fun vs H1 => ∃ j : Int, vs = [.int j] ∧ -(2 ^ 62) ≤ j ∧ j < 2 ^ 62 ∧ R (Itr 0 j.toNat) H1
theorem pi_range1 {a : Expr} {ta : TA} {p pos : Pos} (hg : Gl X "range") (hm : X.mg "range" = none) (ha : PA X [a] ta) (hs : starEach [a] X.env = [(false, eval a X.env)] := by rfl) : PI X tg (.Call (.Name "range" p) [a] [] pos) (iRng1 ta) := by
  intro pins s σ H R I h
  refine Call_ (ld_blt I hg hm boot_range (PyProof.Rows.callWith_type1 (thn (ha pos pins s σ H _ I h) fun us s1 ⟨vs, H1, I1, r1, q1⟩ => ?_) hs rfl))
  obtain ⟨j, e, q1, q2, q⟩ := q1
  subst e
  cases r1 with
  | cons r rr =>
    cases rr
    obtain ⟨t, rfl⟩ := r
    exact call_range_1 (range_it I1 (by omega) (by omega) q1 q2 (by simpa using q))
def tFor (wi : TI) (g : TG) (tb : TS) : TS := fun D σ H => wi σ H fun J H1 => ∃ W : Nat → Nat → St → Hp → Prop, (∃ m, W 0 m σ H1) ∧ ∀ i m σ H, W i m σ H →
  (J.stop i H ∧ D.nx σ H) ∨ (J.go i H ∧ ∃ N : St → Hp → Prop, (∀ σ' H', N σ' H' → ∃ m', m' < m ∧ W (i + 1) m' σ' H') ∧ ∀ x H', J.yld i H x H' → g x σ H' fun σ2 H2 => tb { D with nx := N, ct := N, bk := D.nx } σ2 H2)
def pinsAt (fp : List Addr) (h : Heap) : List (Addr × Obj) := fp.filterMap fun b => (h.get? b).map fun o => (b, o)
theorem mem_pinsAt {fp : List Addr} {h : Heap} {b : Addr} {o : Obj} (hb : b ∈ fp) (e : h.get? b = some o) : (b, o) ∈ pinsAt fp h := List.mem_filterMap.mpr ⟨b, hb, by rw [e]; rfl⟩
theorem of_pinsAt {fp : List Addr} {h : Heap} {p : Addr × Obj} (hp : p ∈ pinsAt fp h) : p.1 ∈ fp ∧ h.get? p.1 = some p.2 := by
  obtain ⟨b, hb, e⟩ := List.mem_filterMap.mp hp
  cases q : h.get? b with
  | none => rw [q] at e; cases e
  | some o =>
    rw [q] at e
    have e' : (b, o) = p := Option.some.inj e
    subst e'
    exact ⟨hb, q⟩
theorem Inv.pinned {pins : List (Addr × Obj)} {σ : St} {H : Hp} {s : Shared} {fp : List Addr} (I : Inv X pins σ H s) (hf : ∀ b ∈ fp, FpOk X pins H b) (ho : ∀ b ∈ fp, ∃ o, s.heap.get? b = some o ∧ ∀ v, o.data ≠ .cell v) : Inv X (pins ++ pinsAt fp s.heap) σ H s :=
  I.pins_of fun p hp => (List.mem_append.mp hp).elim (fun z => I.pin p (List.mem_append_right _ z)) fun z => by
    obtain ⟨hb, e⟩ := of_pinsAt z
    obtain ⟨f0, f1, f2, _⟩ := hf p.1 hb
    obtain ⟨o, e', d⟩ := ho p.1 hb
    rw [e] at e'; cases e'
    exact ⟨e, f0, f1, f2, d⟩
theorem Inv.unpinned {pins pl : List (Addr × Obj)} {σ : St} {H : Hp} {s : Shared} (I : Inv X (pins ++ pl) σ H s) : Inv X pins σ H s := I.pins_of fun p hp => I.pin p (List.mem_append_right _ (List.mem_append_left _ hp))
theorem ps_for {iter : Expr} {body : List Stmt} {wi : TI} {g : TG} {tb : TS} {pos : Pos} (hp : PassesOwn (model X.prog X.w) X.A X.env X.xe) (hc : X.calm = true) (hi : PI X tg iter wi) (hg : PG X tg g) (hb : PSs X body tb)
    (hs : ∀ x, foldedSetIterable iter X.env x = pure x := by intro _; rfl) : PS X (.For tg iter body [] pos) (tFor wi g tb) := by
  intro pins s σ H D I h
  refine wpAny_For (thn (hi pins s σ H _ I h) fun v s1 h1 => thn h1 fun itv s2 h2 => ?_) hs
  obtain ⟨it, fp, tn, J, H2, e, I2, T, st2, f2, W, ⟨m0, w0⟩, turn⟩ := h2
  subst e
  -- what stays true of the iterator's objects through the loop
  have stat : ∀ {H' : Hp}, (∀ b ∈ fp, H' b = none) → ∀ b ∈ fp, FpOk X pins H' b := fun hn b hb => ⟨hn b hb, (f2 b hb).2⟩
  refine codeAny_forLoop_any (fun n s' => ∃ i σ' H', Inv X pins σ' H' s' ∧ tn i s'.heap ∧ (∀ b ∈ fp, H' b = none) ∧ W i n σ' H') ?_ m0 ⟨0, σ, H2, I2, st2, fun b hb => (f2 b hb).1, w0⟩
  rintro n s3 ⟨i, σ3, H3, I3, st3, fr3, w3⟩
  rcases turn i n σ3 H3 w3 with ⟨stop, qn⟩ | ⟨go, N, hN, step⟩
  · refine wpAny_passesOwn hp (thn (T.done X rfl rfl rfl hc i pins s3 σ3 H3 X.xe I3 (stat fr3) st3 stop) fun r s4 ⟨hr, I4⟩ => ?_)
    subst hr
    exact wpAny_execs_nil ⟨σ3, H3, I4, qn⟩
  · refine wpAny_passesOwn hp (thn (T.item X rfl rfl rfl hc i pins s3 σ3 H3 X.xe I3 (stat fr3) st3 go) fun r s4 ⟨u, hr, h4⟩ => ?_)
    subst hr
    refine wpAny_passesOwn hp (thn h4 fun _ s5 ⟨x, H5, I5, r5, y5, st5, fr5⟩ => ?_)
    have I5' := I5.pinned (stat fr5) (T.obj _ _ st5)
    refine wpAny_passesOwn hp (thn (hg _ s5 σ3 H5 x u _ I5' r5 (step x H5 y5)) fun _ s6 ⟨σ6, H6, I6, q6⟩ => ?_)
    refine wpAny_passesOwn hp (thn (hb _ s6 σ6 H6 _ I6 q6) fun f s7 q7 => ?_)
    have again : ∀ {σ7 : St} {H7 : Hp}, Inv X (pins ++ pinsAt fp s5.heap) σ7 H7 s7 → N σ7 H7 → ∃ m, m < n ∧ ∃ i σ' H', Inv X pins σ' H' s7 ∧ tn i s7.heap ∧ (∀ b ∈ fp, H' b = none) ∧ W i m σ' H' := fun {σ7 H7} I7 n7 => by
      obtain ⟨m', hm, w7⟩ := hN σ7 H7 n7
      refine ⟨m', hm, i + 1, σ7, H7, I7.unpinned, T.keep _ _ _ st5 fun b hb o e => (I7.pin (b, o) (List.mem_append_right _ (List.mem_append_right _ (mem_pinsAt hb e)))).1, fun b hb => ?_, w7⟩
      obtain ⟨o, e, d⟩ := T.obj _ _ st5 b hb
      exact (I7.pin (b, o) (List.mem_append_right _ (List.mem_append_right _ (mem_pinsAt hb e)))).2.1
    cases f with
    | next => obtain ⟨σ7, H7, I7, n7⟩ := q7; exact again I7 n7
    | cont => obtain ⟨σ7, H7, I7, n7⟩ := q7; exact again I7 n7
    | brk => obtain ⟨σ7, H7, I7, q7⟩ := q7; exact ⟨σ7, H7, I7.unpinned, q7⟩
    | ret v => obtain ⟨x7, σ7, H7, I7, r7, q7⟩ := q7; exact ⟨x7, σ7, H7, I7.unpinned, r7, q7⟩
end
theorem for_list {K : PySem.W.Frag} {a : Addr} {xs : List V} {g : TG} {tb : TS} {D : Ends} {σ : St} {H : Hp} (Pv : Nat → St → Hp → Prop) (h0 : Pv 0 σ H) (hl : ∀ i σ H, i ≤ xs.length → Pv i σ H → SqL K H a xs)
    (hs : ∀ i x σ H, xs[i]? = some x → Pv i σ H → g x σ H fun σ2 H2 => tb { D with nx := Pv (i + 1), ct := Pv (i + 1), bk := D.nx } σ2 H2) (hd : ∀ σ H, Pv xs.length σ H → D.nx σ H) :
    ∃ W : Nat → Nat → St → Hp → Prop, (∃ m, W 0 m σ H) ∧ ∀ i m σ H, W i m σ H →
      ((Itl K a).stop i H ∧ D.nx σ H) ∨ ((Itl K a).go i H ∧ ∃ N : St → Hp → Prop, (∀ σ' H', N σ' H' → ∃ m', m' < m ∧ W (i + 1) m' σ' H') ∧ ∀ x H', (Itl K a).yld i H x H' → g x σ H' fun σ2 H2 => tb { D with nx := N, ct := N, bk := D.nx } σ2 H2) := by
  refine ⟨fun i m σ H => m = xs.length - i ∧ i ≤ xs.length ∧ Pv i σ H, ⟨xs.length, by simp, Nat.zero_le _, h0⟩, ?_⟩
  rintro i m σ H ⟨rfl, hi, p⟩
  have q := hl i σ H hi p
  by_cases hlt : i < xs.length
  · refine .inr ⟨⟨xs, xs[i], q, by simp [hlt]⟩, Pv (i + 1), fun σ' H' p' => ⟨xs.length - (i + 1), by omega, rfl, hlt, p'⟩, fun x H' y => ?_⟩
    obtain ⟨e, y⟩ := y
    subst e
    exact hs i x σ _ (y xs q) p
  · have e : i = xs.length := by omega
    subst e
    exact .inl ⟨⟨xs, q, Nat.le_refl _⟩, hd σ H p⟩
theorem for_tup {K : PySem.W.Frag} {a : Addr} {xs : List V} {g : TG} {tb : TS} {D : Ends} {σ : St} {H : Hp} (Pv : Nat → St → Hp → Prop) (h0 : Pv 0 σ H) (hl : ∀ i σ H, i ≤ xs.length → Pv i σ H → SqT K H a xs)
    (hs : ∀ i x σ H, xs[i]? = some x → Pv i σ H → g x σ H fun σ2 H2 => tb { D with nx := Pv (i + 1), ct := Pv (i + 1), bk := D.nx } σ2 H2) (hd : ∀ σ H, Pv xs.length σ H → D.nx σ H) :
    ∃ W : Nat → Nat → St → Hp → Prop, (∃ m, W 0 m σ H) ∧ ∀ i m σ H, W i m σ H →
      ((Itt K a).stop i H ∧ D.nx σ H) ∨ ((Itt K a).go i H ∧ ∃ N : St → Hp → Prop, (∀ σ' H', N σ' H' → ∃ m', m' < m ∧ W (i + 1) m' σ' H') ∧ ∀ x H', (Itt K a).yld i H x H' → g x σ H' fun σ2 H2 => tb { D with nx := N, ct := N, bk := D.nx } σ2 H2) := by
  refine ⟨fun i m σ H => m = xs.length - i ∧ i ≤ xs.length ∧ Pv i σ H, ⟨xs.length, by simp, Nat.zero_le _, h0⟩, ?_⟩
  rintro i m σ H ⟨rfl, hi, p⟩
  have q := hl i σ H hi p
  by_cases hlt : i < xs.length
  · refine .inr ⟨⟨xs, xs[i], q, by simp [hlt]⟩, Pv (i + 1), fun σ' H' p' => ⟨xs.length - (i + 1), by omega, rfl, hlt, p'⟩, fun x H' y => ?_⟩
    obtain ⟨e, y⟩ := y
    subst e
    exact hs i x σ _ (y xs q) p
  · have e : i = xs.length := by omega
    subst e
    exact .inl ⟨⟨xs, q, Nat.le_refl _⟩, hd σ H p⟩
theorem for_range {lo : Int} {n : Nat} {g : TG} {tb : TS} {D : Ends} {σ : St} {H : Hp} (Pv : Nat → St → Hp → Prop) (h0 : Pv 0 σ H)
    (hs : ∀ i σ H, i < n → Pv i σ H → g (.int (lo + i)) σ H fun σ2 H2 => tb { D with nx := Pv (i + 1), ct := Pv (i + 1), bk := D.nx } σ2 H2) (hd : ∀ σ H, Pv n σ H → D.nx σ H) :
    ∃ W : Nat → Nat → St → Hp → Prop, (∃ m, W 0 m σ H) ∧ ∀ i m σ H, W i m σ H →
      ((Itr lo n).stop i H ∧ D.nx σ H) ∨ ((Itr lo n).go i H ∧ ∃ N : St → Hp → Prop, (∀ σ' H', N σ' H' → ∃ m', m' < m ∧ W (i + 1) m' σ' H') ∧ ∀ x H', (Itr lo n).yld i H x H' → g x σ H' fun σ2 H2 => tb { D with nx := N, ct := N, bk := D.nx } σ2 H2) := by
  refine ⟨fun i m σ H => m = n - i ∧ i ≤ n ∧ Pv i σ H, ⟨n, by simp, Nat.zero_le _, h0⟩, ?_⟩
  rintro i m σ H ⟨rfl, hi, p⟩
  by_cases hlt : i < n
  · refine .inr ⟨hlt, Pv (i + 1), fun σ' H' p' => ⟨n - (i + 1), by omega, rfl, hlt, p'⟩, fun x H' y => ?_⟩
    obtain ⟨e, y⟩ := y
    subst e y
    exact hs i σ _ hlt p
  · have e : i = n := by omega
    subst e
    exact .inl ⟨Nat.le_refl _, hd σ H p⟩
end L2
namespace L2
open PySem PySem.Spec PyProof.Rows
abbrev R2 := V → V → Hp → VK → Prop
def OpR (X : Cx) (f : Value → Value → Sem Value) (r : R2) : Prop :=
  ∀ (pins : List (Addr × Obj)) (s : Shared) (σ : St) (H : Hp) (x y : V) (v u : Value) (Q : VK), Inv X pins σ H s → RelV x v → RelV y u → r x y H Q →
    wpAny (model X.prog X.w) X.A (f v u) (EP X pins σ Q) X.xe s
def UnR (X : Cx) (f : Value → Sem Value) (r : V → Hp → VK → Prop) : Prop :=
  ∀ (pins : List (Addr × Obj)) (s : Shared) (σ : St) (H : Hp) (x : V) (v : Value) (Q : VK), Inv X pins σ H s → RelV x v → r x H Q →
    wpAny (model X.prog X.w) X.A (f v) (EP X pins σ Q) X.xe s
def CallR (X : Cx) (f : Value) (r : List V → Hp → VK → Prop) : Prop :=
  ∀ (pins : List (Addr × Obj)) (s : Shared) (σ : St) (H : Hp) (xs : List V) (us : List Value) (Q : VK), Inv X pins σ H s → Vals xs us → r xs H Q →
    wpAny (model X.prog X.w) X.A (call f us) (EP X pins σ Q) X.xe s
def tOp (r : R2) (ta tb : TE) : TE := fun σ H Q => ta σ H fun x H1 => tb σ H1 fun y H2 => r x y H2 Q
def tUn (r : V → Hp → VK → Prop) (ta : TE) : TE := fun σ H Q => ta σ H fun x H1 => r x H1 Q
def rI (C : Int → Int → Prop) (g : Int → Int → V) : R2 := fun x y H Q => ∃ i j, x = .int i ∧ y = .int j ∧ C i j ∧ Q (g i j) H
def rI0 (g : Int → Int → V) : R2 := fun x y H Q => ∃ i j, x = .int i ∧ y = .int j ∧ Q (g i j) H
def rU (g : Int → V) : V → Hp → VK → Prop := fun x H Q => ∃ i, x = .int i ∧ Q (g i) H
section
variable {X : Cx} {a b c : Expr} {ta tb tc : TE} {pos : Pos}
theorem binT (ha : PE X a ta) (hb : PE X b tb) {pins : List (Addr × Obj)} {s : Shared} {σ : St} {H : Hp} {R : V → V → Hp → Prop} (I : Inv X pins σ H s)
    (h : ta σ H fun x H1 => tb σ H1 fun y H2 => R x y H2) {Q : Value → Shared → Prop} {f : Value → Value → Sem Value}
    (hf : ∀ v u s2 x y H2, Inv X pins σ H2 s2 → RelV x v → RelV y u → R x y H2 → wpAny (model X.prog X.w) X.A (f v u) Q X.xe s2) :
    wpAny (model X.prog X.w) X.A (eval a X.env) (fun v s₁ => wpAny (model X.prog X.w) X.A (eval b X.env) (fun u s₂ => wpAny (model X.prog X.w) X.A (f v u) Q X.xe s₂) X.xe s₁) X.xe s := by
  refine thn (ha pins s σ H _ I h) fun v s1 ⟨x, H1, I1, r1, q1⟩ => ?_
  refine thn (hb pins s1 σ H1 _ I1 q1) fun u s2 ⟨y, H2, I2, r2, q2⟩ => ?_
  exact hf v u s2 x y H2 I2 r1 r2 q2
theorem pe_op {op : Operator} {r : R2} (ho : OpR X (binaryOp op) r) (ha : PE X a ta) (hb : PE X b tb) : PE X (.BinOp a op b pos) (tOp r ta tb) := by
  intro pins s σ H Q I h
  exact wpAny_BinOp (binT ha hb I h fun v u s2 x y H2 I2 rx ry q => ho pins s2 σ H2 x y v u Q I2 rx ry q)
theorem pe_un {op : UnaryOp} {r : V → Hp → VK → Prop} (ho : UnR X (unaryOp op) r) (ha : PE X a ta) : PE X (.UnaryOp op a pos) (tUn r ta) := by
  intro pins s σ H Q I h
  exact UnaryOp_ (thn (ha pins s σ H _ I h) fun v s1 ⟨x, H1, I1, r1, q1⟩ => ho pins s1 σ H1 x v Q I1 r1 q1)
theorem opI {f : Value → Value → Sem Value} {C : Int → Int → Prop} {g : Int → Int → Int}
    (rule : ∀ (i j : Int) (t u : Tok) (s : Shared) (Q : Value → Shared → Prop) (E : Value → Shared → Prop), C i j → Q (.int (g i j) s.toks) { s with toks := s.toks + 1 } → wpAny (model X.prog X.w) X.A (f (.int i t) (.int j u)) Q E s) :
    OpR X f (rI C fun i j => .int (g i j)) := by
  intro pins s σ H x y v u Q I rx ry h
  obtain ⟨i, j, rfl, rfl, hc, q⟩ := h
  obtain ⟨t, rfl⟩ := rx
  obtain ⟨t', rfl⟩ := ry
  exact rule i j t t' s _ _ hc ⟨.int (g i j), H, I.tok _, ⟨_, rfl⟩, q⟩
theorem opI0 {f : Value → Value → Sem Value} {g : Int → Int → Int}
    (rule : ∀ (i j : Int) (t u : Tok) (s : Shared) (Q : Value → Shared → Prop) (E : Value → Shared → Prop), Q (.int (g i j) s.toks) { s with toks := s.toks + 1 } → wpAny (model X.prog X.w) X.A (f (.int i t) (.int j u)) Q E s) :
    OpR X f (rI0 fun i j => .int (g i j)) := by
  intro pins s σ H x y v u Q I rx ry h
  obtain ⟨i, j, rfl, rfl, q⟩ := h
  obtain ⟨t, rfl⟩ := rx
  obtain ⟨t', rfl⟩ := ry
  exact rule i j t t' s _ _ ⟨.int (g i j), H, I.tok _, ⟨_, rfl⟩, q⟩
theorem opB0 {f : Value → Value → Sem Value} {g : Int → Int → Bool}
    (rule : ∀ (i j : Int) (t u : Tok) (s : Shared) (Q : Value → Shared → Prop) (E : Value → Shared → Prop), Q (.bool (g i j)) s → wpAny (model X.prog X.w) X.A (f (.int i t) (.int j u)) Q E s) :
    OpR X f (rI0 fun i j => .bl (g i j)) := by
  intro pins s σ H x y v u Q I rx ry h
  obtain ⟨i, j, rfl, rfl, q⟩ := h
  obtain ⟨t, rfl⟩ := rx
  obtain ⟨t', rfl⟩ := ry
  exact rule i j t t' s _ _ ⟨.bl (g i j), H, I, rfl, q⟩
def CDiv (i j : Int) : Prop := 0 < j ∧ j < 1073741824
def CPow (i j : Int) : Prop := 0 ≤ j ∧ j ≤ 1000000 ∧ i.natAbs < 2 ^ 64
def CMul (i j : Int) : Prop := (-(2 ^ 64) < i ∧ i < 2 ^ 64) ∨ (-(2 ^ 64) < j ∧ j < 2 ^ 64)
theorem CMul.ok {i j : Int} (h : CMul i j) : IntMulOk i j := by
  rcases h with ⟨h1, h2⟩ | ⟨h1, h2⟩
  · exact .of_left (intBits_le_64 h1 h2)
  · exact .of_right (intBits_le_64 h1 h2)
theorem op_add : OpR X (binaryOp .Add) (rI0 fun i j => .int (i + j)) := opI0 fun _ _ _ _ _ _ _ q => add_int q
theorem op_sub : OpR X (binaryOp .Sub) (rI0 fun i j => .int (i - j)) := opI0 fun _ _ _ _ _ _ _ q => sub_int q
theorem op_mul : OpR X (binaryOp .Mult) (rI CMul fun i j => .int (i * j)) := opI fun _ _ _ _ _ _ _ hc q => mul_int q hc.ok
theorem op_fdiv : OpR X (binaryOp .FloorDiv) (rI CDiv fun i j => .int (i / j)) := opI fun i j _ _ _ _ _ hc q => by
  have h1 : (0 : Int) < j := hc.1
  have h2 : j < 1073741824 := hc.2
  exact floordiv_int (by omega) (by rw [Int.fdiv_eq_ediv_of_nonneg i (by omega)]; exact q) (.inl (PyProof.noPylong_small (by omega)))
theorem op_mod : OpR X (binaryOp .Mod) (rI (fun _ j => 0 < j) fun i j => .int (i % j)) := opI fun i j _ _ _ _ _ hc q => by
  have h1 : (0 : Int) < j := hc
  exact mod_int' (by omega) (by rw [Int.fmod_eq_emod_of_nonneg i (by omega)]; exact q)
theorem op_pow : OpR X (binaryOp .Pow) (rI CPow fun i j => .int (i ^ j.toNat)) := opI fun _ _ _ _ _ _ _ hc q => pow_int_small hc.1 hc.2.1 hc.2.2 q
theorem unI {f : Value → Sem Value} {g : Int → Int}
    (rule : ∀ (i : Int) (t : Tok) (s : Shared) (Q : Value → Shared → Prop) (E : Value → Shared → Prop), Q (.int (g i) s.toks) { s with toks := s.toks + 1 } → wpAny (model X.prog X.w) X.A (f (.int i t)) Q E s) :
    UnR X f (rU fun i => .int (g i)) := by
  intro pins s σ H x v Q I rx h
  obtain ⟨i, rfl, q⟩ := h
  obtain ⟨t, rfl⟩ := rx
  exact rule i t s _ _ ⟨.int (g i), H, I.tok _, ⟨_, rfl⟩, q⟩
theorem un_neg : UnR X (unaryOp .USub) (rU fun i => .int (-i)) := unI fun _ _ _ _ _ q => neg_int q
end
def scal : V → V → Bool
  | .non, .non => true | .non, .int _ => true | .int _, .non => true | .non, .bl _ => true | .bl _, .non => true | .non, .str _ => true | .str _, .non => true
  | .int _, .int _ => true | .bl _, .bl _ => true | .str _, .str _ => true | .byt _, .byt _ => true
  | .int _, .str _ => true | .str _, .int _ => true | .bl _, .str _ => true | .str _, .bl _ => true
  | _, _ => false
def rEq : R2 := fun x y H Q => scal x y = true ∧ Q (.bl (decide (x = y))) H
def rNe : R2 := fun x y H Q => scal x y = true ∧ Q (.bl (!decide (x = y))) H
theorem dec_int {i j : Int} : decide (V.int i = V.int j) = (i == j) := by
  rw [Bool.eq_iff_iff]
  simp
theorem dec_bl {i j : Bool} : decide (V.bl i = V.bl j) = (i == j) := by
  rw [Bool.eq_iff_iff]
  simp
theorem dec_str {i j : Str} : decide (V.str i = V.str j) = (i == j) := by
  rw [Bool.eq_iff_iff]
  simp
theorem dec_byt {i j : Array UInt8} : decide (V.byt i = V.byt j) = (i.toList == j.toList) := by
  rw [Bool.eq_iff_iff]
  cases i
  cases j
  simp
section
variable {X : Cx} {a b c : Expr} {ta tb tc : TE} {pos : Pos}
theorem fin_bl {pins : List (Addr × Obj)} {σ : St} {H : Hp} {s : Shared} {Q : VK} {k k' : Bool} (I : Inv X pins σ H s) (q : Q (.bl k) H) (e : k = k') : EP X pins σ Q (.bool k') s := by
  subst e
  exact ⟨.bl k, H, I, rfl, q⟩
theorem op_eq : OpR X (compareOp .Eq) rEq := by
  intro pins s σ H x y v u Q I rx ry h
  obtain ⟨hs, q⟩ := h
  cases x with
  | non =>
    cases rx
    cases y with
    | non => cases ry; exact PySem.EqNone.eq_none_none (fin_bl I q (by simp))
    | bl j => cases ry; exact PySem.EqNone.eq_none_bool (fin_bl I q (by simp))
    | int j => obtain ⟨t', rfl⟩ := ry; exact PySem.EqNone.eq_none_int (fin_bl I q (by simp))
    | str j => obtain ⟨t', rfl⟩ := ry; exact PySem.EqNone.eq_none_str (fin_bl I q (by simp))
    | _ => exact absurd (show false = true from hs) Bool.false_ne_true
  | bl i =>
    cases rx
    cases y with
    | non => cases ry; exact PySem.EqNone.eq_bool_none (fin_bl I q (by simp))
    | bl j => cases ry; exact eq_bool (fin_bl I q dec_bl)
    | str j => obtain ⟨t', rfl⟩ := ry; exact PySem.EqMixed.eq_bool_str (fin_bl I q (by simp))
    | _ => exact absurd (show false = true from hs) Bool.false_ne_true
  | int i =>
    obtain ⟨t, rfl⟩ := rx
    cases y with
    | non => cases ry; exact PySem.EqNone.eq_int_none (fin_bl I q (by simp))
    | int j => obtain ⟨t', rfl⟩ := ry; exact eq_int (fin_bl I q dec_int)
    | str j => obtain ⟨t', rfl⟩ := ry; exact PySem.EqMixed.eq_int_str (fin_bl I q (by simp))
    | _ => exact absurd (show false = true from hs) Bool.false_ne_true
  | str i =>
    obtain ⟨t, rfl⟩ := rx
    cases y with
    | non => cases ry; exact PySem.EqNone.eq_str_none (fin_bl I q (by simp))
    | bl j => cases ry; exact PySem.EqMixed.eq_str_bool (fin_bl I q (by simp))
    | int j => obtain ⟨t', rfl⟩ := ry; exact PySem.EqMixed.eq_str_int (fin_bl I q (by simp))
    | str j => obtain ⟨t', rfl⟩ := ry; exact eq_str (fin_bl I q dec_str)
    | _ => exact absurd (show false = true from hs) Bool.false_ne_true
  | byt i =>
    obtain ⟨t, rfl⟩ := rx
    cases y with
    | byt j => obtain ⟨t', rfl⟩ := ry; exact PySem.W.eq_bytes (fin_bl I q dec_byt)
    | _ => exact absurd (show false = true from hs) Bool.false_ne_true
  | _ => cases y <;> exact absurd (show false = true from hs) Bool.false_ne_true
theorem op_ne : OpR X (compareOp .NotEq) rNe := by
  intro pins s σ H x y v u Q I rx ry h
  obtain ⟨hs, q⟩ := h
  cases x with
  | non =>
    cases rx
    cases y with
    | non => cases ry; exact PySem.EqNone.ne_none_none (fin_bl I q (by simp))
    | bl j => cases ry; exact PySem.EqNone.ne_none_bool (fin_bl I q (by simp))
    | int j => obtain ⟨t', rfl⟩ := ry; exact PySem.EqNone.ne_none_int (fin_bl I q (by simp))
    | str j => obtain ⟨t', rfl⟩ := ry; exact PySem.EqNone.ne_none_str (fin_bl I q (by simp))
    | _ => exact absurd (show false = true from hs) Bool.false_ne_true
  | bl i =>
    cases rx
    cases y with
    | non => cases ry; exact PySem.EqNone.ne_bool_none (fin_bl I q (by simp))
    | bl j => cases ry; exact ne_bool (fin_bl I q (congrArg not dec_bl))
    | str j => obtain ⟨t', rfl⟩ := ry; exact PySem.EqMixed.ne_bool_str (fin_bl I q (by simp))
    | _ => exact absurd (show false = true from hs) Bool.false_ne_true
  | int i =>
    obtain ⟨t, rfl⟩ := rx
    cases y with
    | non => cases ry; exact PySem.EqNone.ne_int_none (fin_bl I q (by simp))
    | int j => obtain ⟨t', rfl⟩ := ry; exact ne_int (fin_bl I q (congrArg not dec_int))
    | str j => obtain ⟨t', rfl⟩ := ry; exact PySem.EqMixed.ne_int_str (fin_bl I q (by simp))
    | _ => exact absurd (show false = true from hs) Bool.false_ne_true
  | str i =>
    obtain ⟨t, rfl⟩ := rx
    cases y with
    | non => cases ry; exact PySem.EqNone.ne_str_none (fin_bl I q (by simp))
    | bl j => cases ry; exact PySem.EqMixed.ne_str_bool (fin_bl I q (by simp))
    | int j => obtain ⟨t', rfl⟩ := ry; exact PySem.EqMixed.ne_str_int (fin_bl I q (by simp))
    | str j => obtain ⟨t', rfl⟩ := ry; exact ne_str (fin_bl I q (congrArg not dec_str))
    | _ => exact absurd (show false = true from hs) Bool.false_ne_true
  | byt i =>
    obtain ⟨t, rfl⟩ := rx
    cases y with
    | byt j => obtain ⟨t', rfl⟩ := ry; exact PySem.W.ne_bytes (fin_bl I q (congrArg not dec_byt))
    | _ => exact absurd (show false = true from hs) Bool.false_ne_true
  | _ => cases y <;> exact absurd (show false = true from hs) Bool.false_ne_true
theorem op_lt : OpR X (compareOp .Lt) (rI0 fun i j => .bl (decide (i < j))) := opB0 fun _ _ _ _ _ _ _ q => lt_int q
theorem op_le : OpR X (compareOp .LtE) (rI0 fun i j => .bl (decide (i ≤ j))) := opB0 fun _ _ _ _ _ _ _ q => le_int q
theorem op_gt : OpR X (compareOp .Gt) (rI0 fun i j => .bl (decide (j < i))) := opB0 fun _ _ _ _ _ _ _ q => gt_int q
theorem op_ge : OpR X (compareOp .GtE) (rI0 fun i j => .bl (decide (j ≤ i))) := opB0 fun _ _ _ _ _ _ _ q => ge_int q
theorem op_in_str : OpR X (compareOp .In) (fun x y H Q => ∃ i j, x = .str i ∧ y = .str j ∧ Q (.bl (!(Builtin.Str.occurrences j i 0 j.length 1).isEmpty)) H) := by
  intro pins s σ H x y v u Q I rx ry h
  obtain ⟨i, j, rfl, rfl, q⟩ := h
  obtain ⟨t, rfl⟩ := rx
  obtain ⟨t', rfl⟩ := ry
  exact in_str (fin_bl I q rfl)
theorem op_isN : OpR X (compareOp .Is) (fun x y H Q => y = .non ∧ Q (.bl (decide (x = .non))) H) := by
  intro pins s σ H x y v u Q I rx ry h
  obtain ⟨rfl, q⟩ := h
  cases ry
  refine is_none_gen (fin_bl I q ?_)
  cases x <;> first
    | (cases rx; rfl)
    | (obtain ⟨t, rfl⟩ := rx; rfl)
theorem nomark (b : Expr) {op : CmpOp} (h : op ≠ .In := by decide) (h2 : op ≠ .NotIn := by decide) : behindInMarks op b = false := by
  have e1 : (op == CmpOp.In) = false := by cases op <;> first | rfl | exact absurd rfl h
  have e2 : (op == CmpOp.NotIn) = false := by cases op <;> first | rfl | exact absurd rfl h2
  cases b <;> simp [behindInMarks, e1, e2]
theorem pe_cmpR {op : CmpOp} {r : R2} (ho : OpR X (compareOp op) r) (ha : PE X a ta) (hb : PE X b tb) (hm : behindInMarks op b = false) : PE X (.Compare a [op] [b] pos) (tOp r ta tb) := by
  intro pins s σ H Q I h
  exact wpAny_Compare1 (binT ha hb I h fun v u s2 x y H2 I2 rx ry q => ho pins s2 σ H2 x y v u Q I2 rx ry q) hm
def tTest (t : TE) : TT := fun σ H Q => t σ H fun x H' => ∃ k, x = .bl k ∧ Q k H'
theorem pt_cmpR {op : CmpOp} {r : R2} (ho : OpR X (compareOp op) r) (ha : PE X a ta) (hb : PE X b tb) (hm : behindInMarks op b = false) : PT X (.Compare a [op] [b] pos) (tTest (tOp r ta tb)) := by
  intro pins s σ H Q I h
  refine wpAny_isTrue_Compare1 (thn (ha pins s σ H _ I h) fun v s1 ⟨x, H1, I1, r1, q1⟩ => thn (hb pins s1 σ H1 _ I1 q1) fun u s2 ⟨y, H2, I2, r2, q2⟩ =>
    thn (ho pins s2 σ H2 x y v u _ I2 r1 r2 q2) fun c s3 ⟨z, H3, I3, r3, k, e, q3⟩ => ?_) hm
  subst e
  cases r3
  exact wpAny_truthy_bool ⟨H3, I3, q3⟩
def tChain (r r' : R2) (ta tb tc : TE) : TE := fun σ H Q => ta σ H fun x H1 => tb σ H1 fun y H2 => r x y H2 fun z H3 => ∃ k, z = .bl k ∧
  (if k = true then tc σ H3 fun w' H4 => r' y w' H4 Q else Q (.bl false) H3)
theorem pe_chain {op op' : CmpOp} {r r' : R2} (ho : OpR X (compareOp op) r) (ho' : OpR X (compareOp op') r') (ha : PE X a ta) (hb : PE X b tb) (hc : PE X c tc)
    (hm : lastMarks [op, op'] [b, c] = false := by with_unfolding_all rfl) : PE X (.Compare a [op, op'] [b, c] pos) (tChain r r' ta tb tc) := by
  intro pins s σ H Q I h
  refine Compare_chain (thn (ha pins s σ H _ I h) fun v s1 ⟨x, H1, I1, r1, q1⟩ => chain_link (thn (hb pins s1 σ H1 _ I1 q1) fun u s2 ⟨y, H2, I2, r2, q2⟩ =>
    thn (ho pins s2 σ H2 x y v u _ I2 r1 r2 q2) fun d s3 ⟨z, H3, I3, r3, k, e, q3⟩ => ?_)) hm
  subst e
  cases r3
  refine wpAny_truthy_bool ?_
  cases k with
  | false => exact ite_ff ⟨.bl false, H3, I3, rfl, q3⟩
  | true => exact ite_tt (chain_last (thn (hc pins s3 σ H3 _ I3 q3) fun w' s4 ⟨z', H4, I4, r4, q4⟩ => ho' pins s4 σ H4 y z' u w' Q I4 r2 r4 q4))
theorem pt_chain {op op' : CmpOp} {r r' : R2} (ho : OpR X (compareOp op) r) (ho' : OpR X (compareOp op') r') (ha : PE X a ta) (hb : PE X b tb) (hc : PE X c tc)
    (hm : lastMarks [op, op'] [b, c] = false := by with_unfolding_all rfl) : PT X (.Compare a [op, op'] [b, c] pos) (tTest (tChain r r' ta tb tc)) := by
  intro pins s σ H Q I h
  refine isTrue_chain (thn (ha pins s σ H _ I h) fun v s1 ⟨x, H1, I1, r1, q1⟩ => test_link (thn (hb pins s1 σ H1 _ I1 q1) fun u s2 ⟨y, H2, I2, r2, q2⟩ =>
    thn (ho pins s2 σ H2 x y v u _ I2 r1 r2 q2) fun d s3 ⟨z, H3, I3, r3, k, e, q3⟩ => ?_)) hm
  subst e
  cases r3
  refine wpAny_truthy_bool ?_
  cases k with
  | false =>
    obtain ⟨k', e', q'⟩ := q3
    cases e'
    exact ite_ff ⟨H3, I3, q'⟩
  | true =>
    refine ite_tt (test_last (thn (hc pins s3 σ H3 _ I3 q3) fun w' s4 ⟨z', H4, I4, r4, q4⟩ => thn (ho' pins s4 σ H4 y z' u w' _ I4 r2 r4 q4) fun d' s5 ⟨z2, H5, I5, r5, k2, e2, q5⟩ => ?_))
    subst e2
    cases r5
    exact wpAny_truthy_bool ⟨H5, I5, q5⟩
theorem line63 : (sizeLine : Nat) < 2 ^ 63 := by rw [sizeLine_eq]; decide
theorem op_add_str : OpR X (binaryOp .Add) (fun x y H Q => ∃ i j, x = .str i ∧ y = .str j ∧ i.length + j.length ≤ sizeLine ∧ Q (.str (i ++ j)) H) := by
  intro pins s σ H x y v u Q I rx ry h
  obtain ⟨i, j, rfl, rfl, hz, q⟩ := h
  obtain ⟨t, rfl⟩ := rx
  obtain ⟨t', rfl⟩ := ry
  exact add_str (fun t' tk => ⟨.str (i ++ j), H, I.tok _, ⟨_, rfl⟩, q⟩) hz
theorem vals1 {x : V} {us : List Value} (r : Vals [x] us) : ∃ u, us = [u] ∧ RelV x u := by
  cases r with
  | cons r1 r2 => cases r2; exact ⟨_, rfl, r1⟩
theorem vals2 {x y : V} {us : List Value} (r : Vals [x, y] us) : ∃ u w', us = [u, w'] ∧ RelV x u ∧ RelV y w' := by
  cases r with
  | cons r1 r2 =>
    cases r2 with
    | cons r3 r4 => cases r4; exact ⟨_, _, rfl, r1, r3⟩
theorem call_abs : CallR X (.builtin "abs") (fun xs H Q => ∃ i, xs = [.int i] ∧ Q (.int (if i < 0 then -i else i)) H) := by
  intro pins s σ H xs us Q I r h
  obtain ⟨i, rfl, q⟩ := h
  obtain ⟨u, rfl, t, rfl⟩ := vals1 r
  exact call_abs_int fun u tk => ⟨.int (if i < 0 then -i else i), H, I.tok _, ⟨_, rfl⟩, q⟩
theorem call_max2 (hc : X.calm = true) : CallR X (.builtin "max") (fun xs H Q => ∃ i j, xs = [.int i, .int j] ∧ Q (.int (if j > i then j else i)) H) := by
  intro pins s σ H xs us Q I r h
  obtain ⟨i, j, rfl, q⟩ := h
  obtain ⟨u, w', rfl, ⟨t, rfl⟩, ⟨t', rfl⟩⟩ := vals2 r
  refine max_two_ints (I.ok.hd hc) fun h' tk k => ⟨_, H, I.kept k, ?_, q⟩
  by_cases hj : j > i
  · rw [if_pos hj, if_pos hj]; exact ⟨_, rfl⟩
  · rw [if_neg hj, if_neg hj]; exact ⟨_, rfl⟩
theorem call_int1 : CallR X (.type "int") (fun xs H Q => (∃ i, xs = [.int i] ∧ Q (.int i) H) ∨ ∃ k, xs = [.bl k] ∧ Q (.int (if k then 1 else 0)) H) := by
  intro pins s σ H xs us Q I r h
  rcases h with ⟨i, rfl, q⟩ | ⟨k, rfl, q⟩
  · obtain ⟨u, rfl, t, rfl⟩ := vals1 r
    exact call_int_int ⟨.int i, H, I, ⟨_, rfl⟩, q⟩
  · obtain ⟨u, rfl, r1⟩ := vals1 r
    cases r1
    exact call_int_bool ⟨.int (if k then 1 else 0), H, I.tok _, ⟨_, rfl⟩, q⟩
def LenV (K : PySem.W.Frag) (x : V) (H : Hp) (n : Nat) : Prop :=
  match x with
  | .str y => y.length ≤ sizeLine ∧ n = y.length
  | .byt y => y.size ≤ sizeLine ∧ n = y.size
  | .ref p => (∃ xs, SqL K H p xs ∧ n = xs.length) ∨ ∃ xs, SqT K H p xs ∧ n = xs.length
  | _ => False
theorem call_len : CallR X (.builtin "len") (fun xs H Q => ∃ x n, xs = [x] ∧ LenV X.K x H n ∧ Q (.int n) H) := by
  intro pins s σ H xs us Q I r h
  obtain ⟨x, n, rfl, e, q⟩ := h
  obtain ⟨u, rfl, rx⟩ := vals1 r
  have hl := line63
  have hs : sizeLine = 16777216 := sizeLine_eq
  cases x with
  | str y =>
    obtain ⟨t, rfl⟩ := rx
    obtain ⟨hy, e'⟩ : y.length ≤ sizeLine ∧ n = y.length := e
    subst e'
    exact len_str (by omega) ⟨.int _, H, I.tok _, ⟨_, rfl⟩, q⟩
  | byt y =>
    obtain ⟨t, rfl⟩ := rx
    obtain ⟨hy, e'⟩ : y.size ≤ sizeLine ∧ n = y.size := e
    subst e'
    exact PySem.W.len_bytes (by omega) ⟨.int _, H, I.tok _, ⟨_, rfl⟩, q⟩
  | ref p =>
    cases rx
    have e' : (∃ xs, SqL X.K H p xs ∧ n = xs.length) ∨ ∃ xs, SqT X.K H p xs ∧ n = xs.length := e
    rcases e' with ⟨xs, hx, e'⟩ | ⟨xs, hx, e'⟩
    · subst e'
      obtain ⟨its, r', pl, hz⟩ := I.list hx
      have hlen := r'.length
      exact Calls.call_len_list pl.isList (by simp only [List.size_toArray]; omega) ⟨.int xs.length, H, I.tok _, ⟨_, by simp only [List.size_toArray]; rw [hlen]⟩, q⟩
    · subst e'
      obtain ⟨its, r', pl, hz⟩ := I.tuple hx
      have hlen := r'.length
      exact len_tuple pl (by simp only [List.size_toArray]; omega) ⟨.int xs.length, H, I.tok _, ⟨_, by simp only [List.size_toArray]; rw [hlen]⟩, q⟩
  | _ => exact (show False from e).elim
end
end L2
namespace L2
open PySem PySem.Spec PyProof.Rows
structure ObjM (h : Heap) (x dx C : Addr) (mA : Str → Option Value) : Prop where
  obj : h.get? x = some (PySem.W.instObj C dx)
  ns : h.Ns1 dx mA
  ne : dx ≠ x
theorem lookIn_ns {h : Heap} {dx : Addr} {mA : Str → Option Value} (n : h.Ns1 dx mA) : ∃ od, h.get? dx = some od ∧ ∀ name, PySem.W.lookIn name od = some (mA name) := by
  obtain ⟨o, es, ep, ho, hd, hk, _, hm⟩ := n
  refine ⟨o, ho, fun name => ?_⟩
  have e := hm name
  unfold nsFind findBy at e
  rw [← Array.find?_toList] at e
  unfold PySem.W.lookIn
  rw [hd]
  dsimp only
  split
  · rename_i y q
    rw [q] at e
    exact congrArg some e
  · rename_i q
    rw [q] at e
    have a : es.toList.any (·.refKey) = false := by
      rw [List.any_eq_false]
      intro y hy
      obtain ⟨z, t, hkey⟩ := hk y (Array.mem_toList_iff.mp hy)
      simp [DictEntry.refKey, hkey]
    have a' : ¬ es.toList.any (·.refKey) = true := by rw [a]; exact Bool.false_ne_true
    rw [if_neg a']
    exact congrArg some e
theorem ObjM.look {h : Heap} {x dx C : Addr} {mA : Str → Option Value} (I : ObjM h x dx C mA) : ∃ od, PySem.W.InstAt h x (PySem.W.instObj C dx) C (some od) ∧ ∀ name, PySem.W.lookIn name od = some (mA name) :=
  let ⟨od, ho, hl⟩ := lookIn_ns I.ns
  ⟨od, ⟨I.obj, rfl, rfl, ho⟩, hl⟩
section
variable {prog : Program} {w : World} {A : Around} {E : Value → Shared → Prop} {s : Shared} {K : PySem.W.Frag} {x dx C f : Addr} {mA : Str → Option Value} {name : Str} {v : Value}
theorem get_map {expr : Bool} {Q : Value → Shared → Prop} (X : K.In s.heap) (I : ObjM s.heap x dx C mA) (hg : PySem.W.plainGet K C name = true) (hh : PySem.W.hasDictIn K C = true)
    (ha : PySem.W.findIn K (.ref C) name = some none) (hv : mA name = some v) (hv' : PySem.W.handedIn v = true) (h : Q v { s with toks := s.toks + 1 }) :
    wpAny (model prog w) A (getAttr (.ref x) name expr) Q E s := by
  obtain ⟨od, J, hl⟩ := I.look
  exact PySem.W.get_value X J (PySem.W.plainGet_of hg).1 (PySem.W.findObj_own hh ha rfl (by rw [hl, hv])) hv' h
theorem get_meth {pl : Sem Bool} {Q : Value × List Value → Shared → Prop} (X : K.In s.heap) (I : ObjM s.heap x dx C mA) (hg : PySem.W.plainGet K C name = true)
    (hf : PySem.W.findIn K (.ref C) name = some (some (.ref f))) (ht : PySem.W.isFn K (.ref f) = true) (hv : mA name = none) (h : Q (.ref f, [.ref x]) s) :
    wpAny (model prog w) A (getMethod (.ref x) name pl) Q E s := by
  obtain ⟨od, J, hl⟩ := I.look
  exact PySem.W.method_fn X J (PySem.W.plainGet_of hg).1 (PySem.W.plainGet_of hg).2 hf (beq_iff_eq.mp ht) (by show (PySem.W.lookIn name od).map (·.isSome) = some false; rw [hl, hv]; rfl) h
theorem set_map {ns : List Str} {Q : Unit → Shared → Prop} (X : K.In s.heap) (I : ObjM s.heap x dx C mA)
    (hs : PySem.W.findIn K (.ref C) "__setattr__" = some (some (.builtin "object.__setattr__"))) (hp : PySem.W.plainOver K C = true) (ht : PySem.W.takerIn K C name = some none) (hh : PySem.W.hasDictIn K C = true)
    (hw : PySem.Within mA ns) (hsz : ns.length ≤ sizeLine)
    (h : ∀ h', ObjM h' x dx C (fun y => if y = name then some v else mA y) → Heap.SameBut dx s.heap h' → Q () { s with heap := h', toks := s.toks + 2 }) :
    wpAny (model prog w) A (setAttr (.ref x) name v) Q E s := by
  obtain ⟨od, J, hl⟩ := I.look
  refine PySem.W.set_plain X J hs (PySem.W.osa_open (s := { s with toks := s.toks + 1 }) (r := none) X J hp ht fun b => ?_)
  obtain ⟨cd, hc, hd'⟩ := PySem.W.any_some hh
  have hx : s.heap.get? x = some ⟨.ref C, some dx, .plain, #[]⟩ := I.obj
  refine wpAny_bind (wpAny_pure (wpAny_bind (wpAny_bind (wpAny_loadPart hx (wpAny_bind (PySem.W.Looks.here (s := { s with toks := s.toks + 1 }) (PySem.W.looks_clsIn X hc) ?_))))))
  rw [hd']
  refine wpAny_pure (a := some dx) (wpAny_bind (wpAny_pure (wpAny_bind ?_)))
  refine wpAny_nsSet1 (s := { s with toks := s.toks + 1 }) I.ns fun h' hn2 hs2 => ?_
  obtain ⟨oD, esD, epD, hoD, hdD, hcD⟩ := hn2.count (PySem.Within.cons name v hw)
  refine wpAny_bind (wpAny_lookBehind hoD (by rw [hdD]; exact pastItsLine_dict (Nat.le_trans hcD (by rw [List.length_cons]; omega))) ?_)
  exact wpAny_pure (h _ ⟨(hs2.2 _ (Ne.symm I.ne)).trans I.obj, hn2, I.ne⟩ hs2)
theorem make_map {R : Result → Shared → Prop} {vs : List Value} {kw : List (Str × Value)} (X : K.In s.heap) (hm : PySem.W.makesIn K C = true)
    (hi : PySem.W.findIn K (.ref C) "__init__" = some (some (.ref f))) (hf : PySem.W.typeIn K (.ref f) = some (.type "function"))
    (h : codeAny (model prog w) (A.under (.builtin "type.__call__" ⟨.ref C :: vs, kw⟩)) (.call (.ref f) ⟨.ref (s.heap.objs.size + 1) :: vs, kw⟩) (PySem.W.InitBack (s.heap.objs.size + 1) R)
      { s with heap := (s.heap.push PySem.W.emptyDict).push (PySem.W.instObj C s.heap.objs.size) }) :
    codeAny (model prog w) A (.call (.ref C) ⟨vs, kw⟩) R s := by
  obtain ⟨hh, g, d, t, os⟩ := s
  exact PySem.W.make_core (PySem.W.makes_of X hm) (PySem.W.looks_findIn X hi) (fun self => PySem.W.bind_fn X self hf) (.inl rfl) h
end
def putF (f : Str) (v : V) : List (Str × V) → List (Str × V)
  | [] => [(f, v)]
  | (g, x) :: r => if g = f then (g, v) :: r else (g, x) :: putF f v r
theorem lookup_putF (f g : Str) (v : V) : ∀ fs : List (Str × V), (putF f v fs).lookup g = if g = f then some v else fs.lookup g
  | [] => by
    show List.lookup g [(f, v)] = _
    by_cases h : g = f
    · have hb : (g == f) = true := beq_iff_eq.mpr h
      simp only [List.lookup, hb, if_pos h]
    · have hb : (g == f) = false := beq_eq_false_iff_ne.mpr h
      simp only [List.lookup, hb, if_neg h]
  | (k, x) :: r => by
    have ih := lookup_putF f g v r
    rw [show putF f v ((k, x) :: r) = (if k = f then (k, v) :: r else (k, x) :: putF f v r) from rfl]
    by_cases hk : k = f
    · rw [if_pos hk]
      by_cases h : g = k
      · have hb : (g == k) = true := beq_iff_eq.mpr h
        simp only [List.lookup, hb, if_pos (h.trans hk)]
      · have hb : (g == k) = false := beq_eq_false_iff_ne.mpr h
        simp only [List.lookup, hb, if_neg (fun e : g = f => h (e.trans hk.symm))]
    · rw [if_neg hk]
      by_cases h : g = k
      · have hb : (g == k) = true := beq_iff_eq.mpr h
        simp only [List.lookup, hb, if_neg (fun e : g = f => hk (h.symm.trans e))]
      · have hb : (g == k) = false := beq_eq_false_iff_ne.mpr h
        simp only [List.lookup, hb]
        exact ih
theorem keys_putF (f : Str) (v : V) : ∀ fs : List (Str × V), f ∈ (putF f v fs).map (·.1) ∧ ∀ g, g ∈ fs.map (·.1) → g ∈ (putF f v fs).map (·.1)
  | [] => ⟨by simp [putF], fun g h => by simp at h⟩
  | (k, x) :: r => by
    obtain ⟨i1, i2⟩ := keys_putF f v r
    rw [show putF f v ((k, x) :: r) = (if k = f then (k, v) :: r else (k, x) :: putF f v r) from rfl]
    by_cases hk : k = f
    · rw [if_pos hk]
      subst hk
      exact ⟨by simp, fun g h => by simpa using h⟩
    · rw [if_neg hk]
      refine ⟨?_, fun g h => ?_⟩
      · rw [List.map_cons]
        exact List.mem_cons_of_mem _ i1
      · rw [List.map_cons] at h ⊢
        rcases List.mem_cons.mp h with e | e
        · exact List.mem_cons.mpr (.inl e)
        · exact List.mem_cons_of_mem _ (i2 g e)
theorem length_putF (f : Str) (v : V) : ∀ fs : List (Str × V), (putF f v fs).length ≤ fs.length + 1
  | [] => by simp [putF]
  | (k, x) :: r => by
    have ih := length_putF f v r
    rw [show putF f v ((k, x) :: r) = (if k = f then (k, v) :: r else (k, x) :: putF f v r) from rfl]
    by_cases hk : k = f
    · rw [if_pos hk, List.length_cons, List.length_cons]; omega
    · rw [if_neg hk, List.length_cons, List.length_cons]; omega
theorem RelO.some_of {v : V} {o : Option Value} (r : RelO (some v) o) : ∃ u, o = some u ∧ RelV v u := by
  cases o with
  | none => exact (show False from r).elim
  | some u => exact ⟨u, rfl, r⟩
theorem RelO.none_of {o : Option Value} (r : RelO none o) : o = none := by
  cases o with
  | none => rfl
  | some u => exact (show False from r).elim
theorem handed_of {v : V} {u : Value} (r : RelV v u) : PySem.W.handedIn u = true := by
  cases v with
  | non => cases (show u = Value.none from r); rfl
  | bl b => cases (show u = Value.bool b from r); rfl
  | int i => obtain ⟨t, e⟩ := (show ∃ t, u = Value.int i t from r); cases e; rfl
  | str x => obtain ⟨t, e⟩ := (show ∃ t, u = Value.str x t from r); cases e; rfl
  | byt b => obtain ⟨t, e⟩ := (show ∃ t, u = Value.bytes b t from r); cases e; rfl
  | flt b => obtain ⟨t, e⟩ := (show ∃ t, u = Value.float b t from r); cases e; rfl
  | ref a => cases (show u = Value.ref a from r); rfl
  | ty n => cases (show u = Value.type n from r); rfl
section
variable {P : Program} {w : World} {H H' : Hp} {h h' : Heap} {a C dx : Addr} {fs fs' : List (Str × V)}
theorem ins_get (hok : HOk P w H h) (e : H a = some (.ins C dx fs)) : ∃ mA, ObjM h a dx C mA ∧ (∀ f, RelO (fs.lookup f) (mA f)) ∧ PySem.Within mA (fs.map (·.1)) ∧ fs.length ≤ 1000 ∧ H dx = some (.own a) := by
  obtain ⟨d, z, ne, ob, mA, n, r, q⟩ := (show ObjOk P w H h a (.ins C dx fs) from hok a _ e)
  exact ⟨mA, ⟨ob, n, ne⟩, r, q, z, d⟩
end
structure Cls (K : PySem.W.Frag) (C : Addr) : Prop where
  pg : PySem.W.plainGet K C Str.empty = true
  hd : PySem.W.hasDictIn K C = true
  po : PySem.W.plainOver K C = true
  sa : PySem.W.findIn K (.ref C) "__setattr__" = some (some (.builtin "object.__setattr__"))
theorem Cls.get {K : PySem.W.Frag} {C : Addr} (c : Cls K C) (f : Str) : PySem.W.plainGet K C f = true := c.pg
def NoAttr (K : PySem.W.Frag) (C : Addr) (f : Str) : Prop := PySem.W.findIn K (.ref C) f = some none
theorem NoAttr.taker {K : PySem.W.Frag} {C : Addr} {f : Str} (n : NoAttr K C f) : PySem.W.takerIn K C f = some none := by
  unfold PySem.W.takerIn
  rw [show PySem.W.findIn K (.ref C) f = some none from n]
  rfl
structure Con (K : PySem.W.Frag) (C : Addr) (f : Str) (v : V) (u : Value) : Prop where
  at_ : PySem.W.findIn K (.ref C) f = some (some u)
  rel : RelV v u
  get : PySem.W.specialIn K u "__get__" = some none
  cp : PySem.W.copiedNames.contains f = false
structure Meth (K : PySem.W.Frag) (C : Addr) (m : Str) (f : Addr) : Prop where
  at_ : PySem.W.findIn K (.ref C) m = some (some (.ref f))
  fn : PySem.W.isFn K (.ref f) = true
  kp : PySem.W.keepIn K (.ref f) = true
section
variable {X : Cx} {pins : List (Addr × Obj)} {σ : St} {H : Hp} {s : Shared} {a C dx : Addr} {fs : List (Str × V)} {f : Str} {v : V} {A : Around} {E : Value → Shared → Prop}
theorem getattr_ok {b : Bool} {Q : Value → Shared → Prop} (I : Inv X pins σ H s) (e : H a = some (.ins C dx fs)) (c : Cls X.K C) (n : NoAttr X.K C f) (l : fs.lookup f = some v)
    (h : ∀ u s', Inv X pins σ H s' → RelV v u → Q u s') : wpAny (model X.prog X.w) A (getAttr (.ref a) f b) Q E s := by
  obtain ⟨mA, O, r, _, _, _⟩ := ins_get I.hok e
  obtain ⟨u, hu, ru⟩ := RelO.some_of (v := v) (o := mA f) (by rw [← l]; exact r f)
  exact get_map I.kIn O (c.get f) c.hd n hu (handed_of ru) (h u _ (I.tok _) ru)
theorem getmeth_ok {m : Str} {g : Addr} {pl : Sem Bool} {Q : Value × List Value → Shared → Prop} (I : Inv X pins σ H s) (e : H a = some (.ins C dx fs)) (c : Cls X.K C) (k : Meth X.K C m g) (l : fs.lookup m = none)
    (h : Q (.ref g, [.ref a]) s) : wpAny (model X.prog X.w) A (getMethod (.ref a) m pl) Q E s := by
  obtain ⟨mA, O, r, _, _, _⟩ := ins_get I.hok e
  have hn : mA m = none := RelO.none_of (by rw [← l]; exact r m)
  exact get_meth I.kIn O (c.get m) k.at_ k.fn hn h
theorem setattr_ok {y : V} {u : Value} {Q : Unit → Shared → Prop} (I : Inv X pins σ H s) (e : H a = some (.ins C dx fs)) (c : Cls X.K C) (n : NoAttr X.K C f) (hl : fs.length < 1000) (ry : RelV y u)
    (h : ∀ s', Inv X pins σ (upd H a (.ins C dx (putF f y fs))) s' → Q () s') : wpAny (model X.prog X.w) A (setAttr (.ref a) f u) Q E s := by
  obtain ⟨mA, O, r, wi, _, ho⟩ := ins_get I.hok e
  have hz : (fs.map (·.1)).length ≤ sizeLine := by rw [List.length_map, sizeLine_eq]; omega
  refine set_map I.kIn O c.sa c.po n.taker c.hd wi hz fun h' O' sb => h _ ?_
  have hd : ∃ o, h'.get? dx = some o := let ⟨o, _, _, e', _⟩ := O'.ns; ⟨o, e'⟩
  refine I.write (x := a) (e := dx) (by rw [e]; exact True.intro) (.inr ho) (fun b q hb z => (sb.2 b hb).trans z) hd ?_
  refine ⟨by rw [upd_ne O.ne]; exact ho, ?_, O.ne, O'.obj, _, O'.ns, fun g => ?_, fun g hg => ?_⟩
  · have := length_putF f y fs; omega
  · show RelO ((putF f y fs).lookup g) (if g = f then some u else mA g)
    rw [lookup_putF]
    by_cases q : g = f
    · rw [if_pos q, if_pos q]; exact ry
    · rw [if_neg q, if_neg q]; exact r g
  · by_cases q : g = f
    · rw [q]; exact (keys_putF f y fs).1
    · refine (keys_putF f y fs).2 g (wi g fun z => hg ?_)
      show (if g = f then some u else mA g) = none
      rw [if_neg q]; exact z
theorem Inv.made (I : Inv X pins σ H s) : Inv X pins σ (upd (upd H s.heap.objs.size (.own (s.heap.objs.size + 1))) (s.heap.objs.size + 1) (.ins C s.heap.objs.size []))
    { s with heap := (s.heap.push PySem.W.emptyDict).push (PySem.W.instObj C s.heap.objs.size) } := by
  have e1 : (s.heap.push PySem.W.emptyDict).get? s.heap.objs.size = some PySem.W.emptyDict := Heap.get?_push_size s.heap rfl
  have e2 : ((s.heap.push PySem.W.emptyDict).push (PySem.W.instObj C s.heap.objs.size)).get? (s.heap.objs.size + 1) = some (PySem.W.instObj C s.heap.objs.size) := by
    have := Heap.get?_push_size (s.heap.push PySem.W.emptyDict) (o := PySem.W.instObj C s.heap.objs.size) rfl
    rwa [Heap.size_push] at this
  have e3 : (s.heap.push PySem.W.emptyDict).Ns s.heap.objs.size (fun _ => none) := ⟨PySem.W.emptyDict, #[], _, e1, rfl, (fun e he => absurd he (by simp)), fun _ => rfl⟩
  have I1 := I.laid (a := s.heap.objs.size) (o := .own (s.heap.objs.size + 1)) (h' := s.heap.push PySem.W.emptyDict) (t' := s.toks) (fun b u q => Heap.get?_push_of_some _ q) (Nat.le_refl _) ⟨_, e1⟩
  refine I1.laid (a := s.heap.objs.size + 1) (o := .ins C s.heap.objs.size []) (t' := s.toks) (fun b u q => Heap.get?_push_of_some _ q) (Nat.le_of_eq (Heap.size_push _ _)) ?_
  have ne : s.heap.objs.size ≠ s.heap.objs.size + 1 := Nat.ne_of_lt (Nat.lt_succ_self _)
  refine ⟨by rw [upd_ne ne, upd_same], Nat.zero_le _, ne, e2, fun _ => none, (Heap.Ns1.of_empty e3).at fun o q => Heap.get?_push_of_some _ q, fun _ => True.intro, fun y hy => absurd rfl hy⟩
theorem attr_of {prog : Program} {w : World} {env : Env} {e : Expr} {f : Str} {pos : Pos} {s : Shared} {Q : Value → Shared → Prop} (hb : attributeBase e f env (eval e env) = eval e env)
    (h : wpAny (model prog w) A (eval e env) (fun o s₁ => wpAny (model prog w) A (getAttr o f true) Q E s₁) E s) : wpAny (model prog w) A (eval (.Attribute e f pos) env) Q E s :=
  Attribute_any_ h (by rw [arm_eval_Attribute, hb])
end
def tFld (K : PySem.W.Frag) (ta : TE) (f : Str) : TE := fun σ H Q => ta σ H fun x H1 => ∃ a C dx fs v, x = .ref a ∧ H1 a = some (.ins C dx fs) ∧ Cls K C ∧ NoAttr K C f ∧ fs.lookup f = some v ∧ Q v H1
def sFld (K : PySem.W.Frag) (ta tv : TE) (f : Str) : TS := fun D σ H => tv σ H fun y H1 => ta σ H1 fun x H2 => ∃ a C dx fs, x = .ref a ∧ H2 a = some (.ins C dx fs) ∧ Cls K C ∧ NoAttr K C f ∧ fs.length < 1000 ∧
  D.nx σ (upd H2 a (.ins C dx (putF f y fs)))
section
variable {X : Cx} {o e value : Expr} {f : Str} {pos pos' tpos : Pos} {ta tv : TE}
theorem pe_fld (he : PE X e ta) (hb : attributeBase e f X.env (eval e X.env) = eval e X.env) : PE X (.Attribute e f pos) (tFld X.K ta f) := by
  intro pins s σ H Q I h
  refine attr_of hb (thn (he pins s σ H _ I h) fun u s1 ⟨x, H1, I1, rx, a, C, dx, fs, v, ex, ea, c, n, l, q⟩ => ?_)
  subst ex
  obtain rfl : u = Value.ref a := rx
  exact getattr_ok I1 ea c n l fun u' s2 I2 ru => ⟨v, H1, I2, ru, q⟩
theorem ps_fld (ha : PE X o ta) (hv : PE X value tv) (hs : swapsWith value (some (.Attribute o f pos')) pos.line X.env = pure false) : PS X (.Assign [.Attribute o f pos'] value pos) (sFld X.K ta tv f) := by
  intro pins s σ H D I h
  refine plainObj_wpAny_Assign_Attribute (thn (hv pins s σ H _ I h) fun u s1 ⟨y, H1, I1, ry, q⟩ => thn (ha pins s1 σ H1 _ I1 q) fun ov s2 ⟨x, H2, I2, rx, a, C, dx, fs, ex, ea, c, n, l, q2⟩ => ?_) hs
  subst ex
  obtain rfl : ov = Value.ref a := rx
  exact setattr_ok I2 ea c n l ry fun s3 I3 => ⟨σ, _, I3, q2⟩
end
section
variable {X : Cx} {pins : List (Addr × Obj)} {σ : St} {H : Hp} {s : Shared} {A : Around} {E : Value → Shared → Prop} {Q : Value → Shared → Prop} {c : Value} {b : Bool}
inductive TyOf (K : PySem.W.Frag) (H : Hp) : V → Value → Prop where
  | non : TyOf K H .non (.type "NoneType")
  | bl (x : Bool) : TyOf K H (.bl x) (.type "bool")
  | int (i : Int) : TyOf K H (.int i) (.type "int")
  | str (x : Str) : TyOf K H (.str x) (.type "str")
  | flt (x : UInt64) : TyOf K H (.flt x) (.type "float")
  | lst {a : Addr} {xs : List V} (e : H a = some (.lst xs)) : TyOf K H (.ref a) (.type "list")
  | frz {a : Addr} {o : Obj} {xs : List V} (e : H a = some (.frz o (.lst xs))) : TyOf K H (.ref a) (.type "list")
  | tup {a : Addr} {xs : List V} (e : H a = some (.tup xs)) : TyOf K H (.ref a) (.type "tuple")
  | dK {a : Addr} {kvs : List (Key × V)} (e : H a = some (.dK kvs)) : TyOf K H (.ref a) (.type "dict")
  | dT {a : Addr} {kvs : List (List Key × V)} (e : H a = some (.dT kvs)) : TyOf K H (.ref a) (.type "dict")
  | ins {a C dx : Addr} {fs : List (Str × V)} (e : H a = some (.ins C dx fs)) (cl : Cls K C) (ha : PySem.W.findIn K (.ref C) "__class__" = some (some (.builtin "object.__class__")))
      (hn : PySem.W.specialIn K (.builtin "object.__class__") "__get__" = some (some (.builtin "getset_descriptor.__get__"))) (htk : PySem.W.takesIn K (.builtin "object.__class__") = some true)
      (hm : PySem.W.mroIn K C (.type "object") = some true) : TyOf K H (.ref a) (.ref C)
theorem isinst_ok {x : V} {u t : Value} (I : Inv X pins σ H s) (rx : RelV x u) (ty : TyOf X.K H x t) (e : PySem.W.kitOne X.K t c = some b) (h : ∀ tk, Q (.bool b) { s with toks := tk }) :
    wpAny (model X.prog X.w) A (call (.builtin "isinstance") [u, c]) Q E s := by
  cases ty with
  | non => cases (show u = Value.none from rx); exact PySem.W.kia_one PySem.W.kitx_none I.kIn True.intro e (fun z => nomatch z) h
  | bl y => cases (show u = Value.bool y from rx); exact PySem.W.kia_one PySem.W.kitx_bool I.kIn True.intro e (fun z => nomatch z) h
  | int i => obtain ⟨t, q⟩ := (show ∃ t, u = Value.int i t from rx); cases q; exact PySem.W.kia_one PySem.W.kitx_int I.kIn True.intro e (fun z => nomatch z) h
  | str y => obtain ⟨t, q⟩ := (show ∃ t, u = Value.str y t from rx); cases q; exact PySem.W.kia_one PySem.W.kitx_str I.kIn True.intro e (fun z => nomatch z) h
  | flt y => obtain ⟨t, q⟩ := (show ∃ t, u = Value.float y t from rx); cases q; exact PySem.W.kia_one PySem.W.kitx_float I.kIn True.intro e (fun z => nomatch z) h
  | @lst a xs ea =>
    cases (show u = Value.ref a from rx)
    obtain ⟨_, _, n, _, h1⟩ := (show ObjOk X.prog X.w H s.heap a (.lst xs) from I.hok a _ ea)
    exact PySem.W.kia_one PySem.W.kitx_list I.kIn ⟨_, h1, rfl⟩ e (fun z => nomatch z) h
  | @frz a ob xs ea =>
    cases (show u = Value.ref a from rx)
    obtain ⟨_, _, _, n, _, h1⟩ := (show ObjOk X.prog X.w H s.heap a (.frz ob (.lst xs)) from I.hok a _ ea)
    exact PySem.W.kia_one PySem.W.kitx_list I.kIn ⟨_, h1, rfl⟩ e (fun z => nomatch z) h
  | @tup a xs ea =>
    cases (show u = Value.ref a from rx)
    obtain ⟨_, _, _, p⟩ := (show ObjOk X.prog X.w H s.heap a (.tup xs) from I.hok a _ ea)
    obtain ⟨o, h1, _, h2, _⟩ := p
    exact PySem.W.kia_one PySem.W.kitx_tuple I.kIn ⟨o, h1, h2⟩ e (fun z => nomatch z) h
  | @dK a kvs ea =>
    cases (show u = Value.ref a from rx)
    obtain ⟨_, _, vs, _, p⟩ := (show ObjOk X.prog X.w H s.heap a (.dK kvs) from I.hok a _ ea)
    obtain ⟨o, es, ep, h1, h2, _⟩ := p
    exact PySem.W.kia_one PySem.W.kitx_dict I.kIn ⟨o, h1, h2.1⟩ e (fun z => nomatch z) h
  | @dT a kvs ea =>
    cases (show u = Value.ref a from rx)
    obtain ⟨_, _, xs, _, o, es, ep, h1, h2, _⟩ := (show ObjOk X.prog X.w H s.heap a (.dT kvs) from I.hok a _ ea)
    exact PySem.W.kia_one PySem.W.kitx_dict I.kIn ⟨o, h1, h2.1⟩ e (fun z => nomatch z) h
  | @ins a C dx fs ea cl ha hn htk hm =>
    cases (show u = Value.ref a from rx)
    obtain ⟨mA, O, _⟩ := ins_get I.hok ea
    obtain ⟨od, J, _⟩ := O.look
    exact PySem.W.kia_one (PySem.W.kitx_own (cl.get _) cl.hd ha hn htk hm) I.kIn J e (fun z => nomatch z) h
end
end L2
namespace L2
open PySem PySem.Spec PyProof.Rows
structure Room (k : Nat) (A : Around) : Prop where
  hd : A.handled = none
  dp : A.depth + 3 * k + 5 < recursionLimit
  un : A.units + 16 * k + 200 < cLine
theorem Room.mono {j k : Nat} {A : Around} (r : Room k A) (h : j ≤ k) : Room j A := ⟨r.hd, by have := r.dp; omega, by have := r.un; omega⟩
theorem Room.deeper {k : Nat} {A : Around} (r : Room (k + 1) A) (env : Env) : Room k (A.deeper env) :=
  ⟨r.hd, by have := r.dp; show A.depth + 1 + 3 * k + 5 < _; omega, by have := r.un; show A.units + 3 + 16 * k + 200 < _; omega⟩
theorem Room.in1 {k : Nat} {A : Around} (r : Room (k + 1) A) : Room k A.in1 :=
  ⟨r.hd, by have := r.dp; show A.depth + 3 * k + 5 < _; omega, by have := r.un; show A.units + 1 + 16 * k + 200 < _; omega⟩
theorem make_depth {A : Around} {C : Addr} {us : List Value} {kw : List (Str × Value)} : (A.under (.builtin "type.__call__" ⟨.ref C :: us, kw⟩)).depth = A.depth + 1 := by
  first | rfl | simp [Around.under, Code.weight, Code.isCreation, Code.isGuard, Code.isCaller, Code.frames, Code.isFrame, guardIds]
theorem make_units {A : Around} {C : Addr} {us : List Value} {kw : List (Str × Value)} : (A.under (.builtin "type.__call__" ⟨.ref C :: us, kw⟩)).units = A.units + 1 := by
  first | rfl | simp [Around.under, Code.cUnits, Code.frames, Code.isFrame]
theorem Room.make {k : Nat} {A : Around} (r : Room (k + 1) A) (C : Addr) (us : List Value) (kw : List (Str × Value)) : Room k (A.under (.builtin "type.__call__" ⟨.ref C :: us, kw⟩)) :=
  ⟨r.hd, by have := r.dp; rw [make_depth]; omega, by have := r.un; rw [make_units]; omega⟩
theorem Room.depth {k : Nat} {A : Around} (r : Room k A) : A.depth < recursionLimit := by have := r.dp; omega
theorem Room.units {k : Nat} {A : Around} (r : Room k A) : A.units + 64 < cLine := by have := r.un; omega
theorem Room.units0 {k : Nat} {A : Around} (r : Room k A) : A.units < cLine := by have := r.un; omega
def tNil : TA := fun _ H Q => Q [] H
def tCons (ta : TE) (tr : TA) : TA := fun σ H Q => ta σ H fun x H1 => tr σ H1 fun xs H2 => Q (x :: xs) H2
section
variable {X : Cx} {e : Expr} {es : List Expr} {te : TE} {t : TA} {pos : Pos}
theorem pa_nil : PA X [] tNil := fun _ _ _ _ H Q I h => Calls.spliced_nil ⟨[], H, I, .nil, h⟩
theorem pa_cons (ha : PE X e te) (hr : PA X es t) (hs : starEach (e :: es) X.env = (false, eval e X.env) :: starEach es X.env := by rfl) : PA X (e :: es) (tCons te t) := by
  intro pos pins s σ H Q I h
  rw [hs]
  show wpAny _ _ (spliced ((false, eval e X.env) :: backTo pos (starEach es X.env))) _ _ s
  refine Calls.spliced_cons (thn (ha pins s σ H _ I h) fun u s1 ⟨x, H1, I1, r1, q1⟩ => ?_)
  exact thn (hr pos pins s1 σ H1 _ I1 q1) fun us s2 ⟨xs, H2, I2, r2, q2⟩ => ⟨x :: xs, H2, I2, .cons r1 r2, q2⟩
def tTup (t : TA) : TE := fun σ H Q => t σ H fun xs H1 => xs.length ≤ sizeLine ∧ ∀ p, H1 p = none → Q (.ref p) (upd H1 p (.tup xs))
def tLst (t : TA) : TE := fun σ H Q => t σ H fun xs H1 => xs.length ≤ sizeLine ∧ ∀ p, H1 p = none → Q (.ref p) (upd H1 p (.lst xs))
theorem pe_tup {x1} (h : PA X es t) : PE X (.Tuple es x1 pos) (tTup t) := by
  intro pins s σ H Q I hq
  refine wpAny_Tuple_spliced (thn (h pos pins s σ H _ I hq) fun us s1 ⟨xs, H1, I1, r, z, q⟩ => ⟨by rw [← r.length]; exact z, ?_⟩)
  have hf : H1 s1.heap.objs.size = none := I1.hok.fresh (Nat.le_refl _)
  refine ⟨.ref s1.heap.objs.size, upd H1 s1.heap.objs.size (.tup xs), I1.laid (t' := s1.toks) (fun b u e => Heap.get?_push_of_some _ e) (Nat.le_refl _) ?_, rfl, q _ hf⟩
  exact ⟨z, us, r, ⟨_, Heap.get?_push_size _ rfl, rfl, rfl, _, rfl⟩⟩
theorem pe_lst (h : PA X es t) : PE X (.List es pos) (tLst t) := by
  intro pins s σ H Q I hq
  refine wpAny_List_spliced (thn (h pos pins s σ H _ I hq) fun us s1 ⟨xs, H1, I1, r, z, q⟩ => ⟨by rw [← r.length]; exact z, ?_⟩)
  have hf : H1 s1.heap.objs.size = none := I1.hok.fresh (Nat.le_refl _)
  refine ⟨.ref s1.heap.objs.size, upd H1 s1.heap.objs.size (.lst xs), I1.laid (t' := s1.toks) (fun b u e => Heap.get?_push_of_some _ e) (Nat.le_refl _) ?_, rfl, q _ hf⟩
  exact ⟨z, us, 0, r, Heap.get?_push_size _ rfl⟩
end
abbrev Sp := List V → Hp → VK → XK → Prop
abbrev CXT := List Env → Hp → Shared → XK → Value → Shared → Prop
structure Env0 (P : Program) (w : World) (K : PySem.W.Frag) (mg : Str → Option Value) (base : Heap) (A : Around) (outer : List Env) (s : Shared) (H : Hp) : Prop where
  frames : A.frames = some outer
  mod : Mod K mg base
  bs : ∀ b o, base.get? b = some o → s.heap.get? b = some o ∧ H b = none
  bsz : base.objs.size ≤ s.heap.objs.size
  funs : s.heap.FunFrames base outer
  frf : ∀ b ∈ frs outer, H b = none
  hok : HOk P w H s.heap
  bare : AllBare s.gens
def CE (outer : List Env) (P : Program) (w : World) (H : Hp) (s : Shared) (Q : VK) (u : Value) (s' : Shared) : Prop :=
  ∃ v H', s'.os = s.os ∧ AllBare s'.gens ∧ Un (frs outer) [] H H' s.heap s'.heap ∧ HOk P w H' s'.heap ∧ RelV v u ∧ Q v H'
def CR (CX : CXT) (outer : List Env) (P : Program) (w : World) (H : Hp) (s : Shared) (Q : VK) (E : XK) (r : Result) (s' : Shared) : Prop :=
  match r with
  | .ok (.ret u) => CE outer P w H s Q u s'
  | .ok _ => False
  | .error e => CX outer H s E e s'
structure FnOk (P : Program) (w : World) (K : PySem.W.Frag) (mg : Str → Option Value) (base : Heap) (CX : CXT) (k : Nat) (f : Addr) (fd : FuncData) (ps : List Str) (sp : Sp) : Prop where
  len : ∀ vs H Q E, sp vs H Q E → vs.length = ps.length
  run : ∀ (A : Around) (outer : List Env) (s : Shared) (H : Hp) (args : Args) (us : List Value) (vs : List V) (Q : VK) (E : XK), Room k A → Env0 P w K mg base A outer s H → BindsTo s fd args (ps.zip us) → Vals vs us → sp vs H Q E →
    codeAny (model P w) A (.call (.ref f) args) (CR CX outer P w H s Q E) s
theorem FnOk.mono {P : Program} {w : World} {K : PySem.W.Frag} {mg : Str → Option Value} {base : Heap} {CX : CXT} {j k : Nat} {f : Addr} {fd : FuncData} {ps : List Str} {sp : Sp} (F : FnOk P w K mg base CX j f fd ps sp) (h : j ≤ k) :
    FnOk P w K mg base CX k f fd ps sp := ⟨F.len, fun A outer s H args us vs Q E hr => F.run A outer s H args us vs Q E (hr.mono h)⟩
theorem Env0.make {P : Program} {w : World} {K : PySem.W.Frag} {mg : Str → Option Value} {base : Heap} {A : Around} {outer : List Env} {s : Shared} {H : Hp} (e : Env0 P w K mg base A outer s H) (C : Addr) (us : List Value) (kw : List (Str × Value)) :
    Env0 P w K mg base (A.under (.builtin "type.__call__" ⟨.ref C :: us, kw⟩)) outer s H := ⟨by first | exact e.frames | (simpa [Around.under, Code.envs, Code.isFrame, pushEnvs] using e.frames), e.mod, e.bs, e.bsz, e.funs, e.frf, e.hok, e.bare⟩
section
variable {X : Cx} {pins : List (Addr × Obj)} {σ : St} {H : Hp} {s s' : Shared}
theorem Inv.env0 (I : Inv X pins σ H s) : Env0 X.prog X.w X.K X.mg X.base X.A X.stack s H :=
  ⟨I.ok.frames, I.ok.mod, I.bs, Nat.le_trans I.ok.bsz I.sz, I.stack, I.stkFree, I.hok, I.bare⟩
theorem Inv.after {Q : VK} {u : Value} (I : Inv X pins σ H s) (h : CE X.stack X.prog X.w H s Q u s') : EP X pins σ Q u s' := by
  obtain ⟨v, H', os, bare, un, hok, r, q⟩ := h
  obtain ⟨hh, g, d, t, os'⟩ := s'
  obtain rfl : os' = s.os := os
  exact ⟨v, H', I.call (h' := hh) (g' := g) (d' := d) (t' := t) (ch := []) un hok bare (fun b z => absurd z (by simp)), r, q⟩
end
def tCall (sp : Sp) (dvs : List V) (E : XK) (t : TA) : TE := fun σ H Q => t σ H fun vs H1 => sp (vs ++ dvs) H1 Q E
def tMeth (C : Addr) (m : Str) (sp : Sp) (dvs : List V) (E : XK) (ta : TE) (t : TA) : TE := fun σ H Q => ta σ H fun x H1 => ∃ a dx fs, x = .ref a ∧ H1 a = some (.ins C dx fs) ∧ fs.lookup m = none ∧
  t σ H1 fun vs H2 => sp (x :: (vs ++ dvs)) H2 Q E
def Binds (K : PySem.W.Frag) (fd : FuncData) (ps : List Str) (ds : List Value) : Prop :=
  ∀ (s : Shared) (us : List Value), K.In s.heap → (us ++ ds).length = ps.length → BindsTo s fd ⟨us, []⟩ (ps.zip (us ++ ds))
theorem Binds.all {K : PySem.W.Frag} {fd : FuncData} {ps : List Str} (h : ∀ us : List Value, us.length = ps.length → bindArgs fd ⟨us, []⟩ = pure (ps.zip us)) : Binds K fd ps [] := fun s us _ hl => by
  rw [List.append_nil] at hl ⊢
  exact .of_eq (h us hl)
def Passes (CX : CXT) (X : Cx) (E : XK) : Prop := ∀ (pins : List (Addr × Obj)) (σ : St) (H : Hp) (s : Shared) (e : Value) (s' : Shared), Inv X pins σ H s → CX X.stack H s E e s' → X.xe e s'
section
variable {X : Cx} {CX : CXT} {k : Nat} {f C : Addr} {fd : FuncData} {ps : List Str} {sp : Sp} {dvs : List V} {ds : List Value} {E : XK} {x m : Str} {p pos apos : Pos} {e o : Expr} {es : List Expr} {ta : TE} {t : TA}
theorem run_fn {pins : List (Addr × Obj)} {σ : St} {H : Hp} {s : Shared} {Q : VK} {us : List Value} {vs : List V} (F : FnOk X.prog X.w X.K X.mg X.base CX k f fd ps sp) (hr : Room k X.A) (hb : Binds X.K fd ps ds) (hd : Vals dvs ds) (hx : Passes CX X E)
    (I : Inv X pins σ H s) (r : Vals vs us) (h : sp (vs ++ dvs) H Q E) : wpAny (model X.prog X.w) X.A (call (.ref f) us) (EP X pins σ Q) X.xe s := by
  have r2 : Vals (vs ++ dvs) (us ++ ds) := r.append hd
  have hl : (us ++ ds).length = ps.length := by rw [← r2.length]; exact F.len _ _ _ _ h
  refine wpAny_call (codeAny_mono (F.run X.A X.stack s H ⟨us, []⟩ (us ++ ds) (vs ++ dvs) Q E hr I.env0 (hb s us I.kIn hl) r2 h) fun r s' hq => ?_)
  cases r with
  | error e => exact hx pins σ H s e s' I hq
  | ok fl =>
    cases fl with
    | ret u => exact I.after hq
    | next => exact False.elim hq
    | brk => exact False.elim hq
    | cont => exact False.elim hq
theorem pe_call (F : FnOk X.prog X.w X.K X.mg X.base CX k f fd ps sp) (hr : Room k X.A) (hg : Gl X x) (hm : X.mg x = some (.ref f)) (hk : PySem.W.keepIn X.K (.ref f) = true) (hb : Binds X.K fd ps ds) (hd : Vals dvs ds) (hx : Passes CX X E)
    (ha : PA X (e :: es) t) (hdb : (x == ("__debug__" : Str)) = false := by decide) (he : starEach (e :: es) X.env = (false, eval e X.env) :: starEach es X.env := by rfl) (hpl : (backTo pos (starEach es X.env)).any (·.1) = false := by rfl) :
    PE X (.Call (.Name x p) (e :: es) [] pos) (tCall sp dvs E t) := by
  intro pins s σ H Q I h
  refine wpAny_Call_Name_kw (ld_glob I hg hm ?_ hdb)
  refine PySem.W.callWith_K (h₀ := X.base) I.ok.mod.kin hk (thn (ha pos pins s σ H _ I h) fun us s1 ⟨vs, H1, I1, r, q⟩ => ⟨I1.kIn, ?_⟩) he hpl
  exact run_fn F hr hb hd hx I1 r q
theorem pe_meth {pl : Sem Bool} (he : PE X o ta) (c : Cls X.K C) (hm : Meth X.K C m f) (F : FnOk X.prog X.w X.K X.mg X.base CX k f fd ps sp) (hr : Room k X.A) (hb : Binds X.K fd ps ds) (hd : Vals dvs ds) (hx : Passes CX X E) (ha : PA X (e :: es) t)
    (hst : starEach (e :: es) X.env = (false, eval e X.env) :: starEach es X.env := by rfl) (hpl : (backTo pos (starEach es X.env)).any (·.1) = false := by rfl)
    (ht : eval (.Call (.Attribute o m apos) (e :: es) [] pos) X.env = (do
      let ov ← eval o X.env
      standAt apos.atName
      let (f, first) ← holding [ov] (getMethod ov m pl)
      callWith pos f first (backTo pos (starEach (e :: es) X.env)) (backToKw pos (keywordEach [] X.env))) := by rfl) :
    PE X (.Call (.Attribute o m apos) (e :: es) [] pos) (tMeth C m sp dvs E ta t) := by
  intro pins s σ H Q I h
  refine PySem.W.methodCall_KW (pl := pl) (thn (he pins s σ H _ I h) fun u s1 ⟨x, H1, I1, rx, a, dx, fs, ex, ea, l, q⟩ => ?_) ht
  subst ex
  obtain rfl : u = Value.ref a := rx
  refine getmeth_ok I1 ea c hm l ?_
  refine PySem.W.callWith_K (first := [.ref a]) (h₀ := X.base) I.ok.mod.kin hm.kp (thn (ha pos pins s1 σ H1 _ I1 q) fun us s2 ⟨vs, H2, I2, r, q2⟩ => ⟨I2.kIn, ?_⟩) hst hpl
  exact run_fn (us := .ref a :: us) (vs := .ref a :: vs) F hr hb hd hx I2 (.cons rfl r) q2
theorem pe_meth0 {pl : Sem Bool} (he : PE X o ta) (c : Cls X.K C) (hm : Meth X.K C m f) (F : FnOk X.prog X.w X.K X.mg X.base CX k f fd ps sp) (hr : Room k X.A) (hb : Binds X.K fd ps ds) (hd : Vals dvs ds) (hx : Passes CX X E)
    (ht : eval (.Call (.Attribute o m apos) [] [] pos) X.env = (do
      let ov ← eval o X.env
      standAt apos.atName
      let (f, first) ← holding [ov] (getMethod ov m pl)
      callWith pos f first (backTo pos (starEach [] X.env)) (backToKw pos (keywordEach [] X.env))) := by rfl) :
    PE X (.Call (.Attribute o m apos) [] [] pos) (tMeth C m sp dvs E ta tNil) := by
  intro pins s σ H Q I h
  refine PySem.W.methodCall_KW (pl := pl) (thn (he pins s σ H _ I h) fun u s1 ⟨x, H1, I1, rx, a, dx, fs, ex, ea, l, q⟩ => ?_) ht
  subst ex
  obtain rfl : u = Value.ref a := rx
  refine getmeth_ok I1 ea c hm l ?_
  exact PySem.W.callWith_K0 (first := [.ref a]) I1.kIn hm.kp (run_fn (us := [.ref a]) (vs := [.ref a]) F hr hb hd hx I1 (.cons rfl .nil) q)
structure Mk (K : PySem.W.Frag) (C f : Addr) : Prop where
  makes : PySem.W.makesIn K C = true
  init : PySem.W.findIn K (.ref C) "__init__" = some (some (.ref f))
  fn : PySem.W.isFn K (.ref f) = true
  kp : PySem.W.keepIn K (.ref C) = true
end
section
variable {X : Cx} {CX : CXT} {k : Nat} {f C : Addr} {fd : FuncData} {ps ks : List Str} {sp : Sp} {E : XK} {x m : Str} {p pos apos kpos : Pos} {e o : Expr} {es : List Expr} {kws : List Keyword} {te ta : TE} {t tk : TA} {nm : Option Str}
structure KBinds (K : PySem.W.Frag) (fd : FuncData) (ps ks : List Str) (g : List Value → List Value → List Value) (gV : List V → List V → List V) : Prop where
  to : ∀ (s : Shared) (us ws : List Value), K.In s.heap → (g us ws).length = ps.length → BindsTo s fd ⟨us, ks.zip ws⟩ (ps.zip (g us ws))
  rel : ∀ {vs : List V} {us : List Value} {zs : List V} {ws : List Value}, Vals vs us → Vals zs ws → Vals (gV vs zs) (g us ws)
variable {g : List Value → List Value → List Value} {gV : List V → List V → List V}
end
structure FnScope (N P : List Str) (sc : Scope) : Prop where
  kind : sc.kind = .function
  co : sc.isCoroutine = false
  gen : sc.isGenerator = false
  nd : N.Nodup
  pre : N.take P.length = P
  par : ∀ x ∈ P, sc.names.lookup x = some .local ∨ sc.names.lookup x = some .cell
  nofree : ∀ y ∈ sc.names, y.2 ≠ .free
theorem bindL_out {kindOf : Str → Option NameKind} {x : Str} : ∀ {binds : List (Str × Value)} {m : Str → Option Value}, (∀ v, (x, v) ∉ binds) → bindL kindOf binds m x = m x
  | [], _, _ => rfl
  | (n, v) :: r, m, h => by
    unfold bindL
    rw [bindL_out fun w hw => h w (List.mem_cons_of_mem _ hw)]
    split
    · have : x ≠ n := by rintro rfl; exact h v List.mem_cons_self
      simp [this]
    · rfl
theorem bindC_out {kindOf : Str → Option NameKind} {x : Str} : ∀ {binds : List (Str × Value)} {m : Str → Option Value}, (∀ v, (x, v) ∉ binds) → bindC kindOf binds m x = m x
  | [], _, _ => rfl
  | (n, v) :: r, m, h => by
    unfold bindC
    rw [bindC_out fun w hw => h w (List.mem_cons_of_mem _ hw)]
    split
    · rfl
    · have : x ≠ n := by rintro rfl; exact h v List.mem_cons_self
      simp [this]
theorem bindL_get {kindOf : Str → Option NameKind} {x : Str} {v : Value} : ∀ {P : List Str} {vs : List Value} {i : Nat} {m : Str → Option Value}, P.Nodup → P[i]? = some x → vs[i]? = some v → kindOf x = some .local →
    bindL kindOf (P.zip vs) m x = some v
  | [], _, _, _, _, h, _, _ => by simp at h
  | _ :: _, [], _, _, _, _, h, _ => by simp at h
  | p :: P, w :: vs, 0, m, nd, h1, h2, hk => by
    simp at h1 h2; subst h1; subst h2
    show bindL kindOf ((p, w) :: P.zip vs) m p = _
    unfold bindL
    rw [bindL_out fun v hv => (List.nodup_cons.mp nd).1 (List.of_mem_zip hv).1, if_pos hk]
    simp
  | p :: P, w :: vs, i + 1, m, nd, h1, h2, hk => by
    show bindL kindOf ((p, w) :: P.zip vs) m x = _
    unfold bindL
    exact bindL_get (i := i) (List.nodup_cons.mp nd).2 (by simpa using h1) (by simpa using h2) hk
theorem bindC_get {kindOf : Str → Option NameKind} {x : Str} {v : Value} : ∀ {P : List Str} {vs : List Value} {i : Nat} {m : Str → Option Value}, P.Nodup → P[i]? = some x → vs[i]? = some v → kindOf x ≠ some .local →
    bindC kindOf (P.zip vs) m x = some v
  | [], _, _, _, _, h, _, _ => by simp at h
  | _ :: _, [], _, _, _, _, h, _ => by simp at h
  | p :: P, w :: vs, 0, m, nd, h1, h2, hk => by
    simp at h1 h2; subst h1; subst h2
    show bindC kindOf ((p, w) :: P.zip vs) m p = _
    unfold bindC
    rw [bindC_out fun v hv => (List.nodup_cons.mp nd).1 (List.of_mem_zip hv).1, if_neg hk]
    simp
  | p :: P, w :: vs, i + 1, m, nd, h1, h2, hk => by
    show bindC kindOf ((p, w) :: P.zip vs) m x = _
    unfold bindC
    exact bindC_get (i := i) (List.nodup_cons.mp nd).2 (by simpa using h1) (by simpa using h2) hk
def start (N : List Str) (vs : List V) : St := vs.map some ++ List.replicate (N.length - vs.length) none
def cxOf (CX : CXT) (P : Program) (w : World) (K : PySem.W.Frag) (mg : Str → Option Value) (base : Heap) (N : List Str) (qual : Str) (scope : Scope) (f : Addr) (cd : Value) (A : Around) (outer : List Env) (s : Shared) (H : Hp) (E : XK) : Cx where
  prog := P
  w := w
  K := K
  mg := mg
  base := base
  A := A.deeper (envOfC qual scope s.heap.objs.size f cd)
  N := N
  s₀ := s
  H₀ := H
  env := envOfC qual scope s.heap.objs.size f cd
  outer := outer
  stack := envOfC qual scope s.heap.objs.size f cd :: outer
  ex := []
  calm := true
  fn := fun _ => true
  pn := []
  xe := fun e s' => wpAny (model P w) (A.deeper (envOfC qual scope s.heap.objs.size f cd)) (leaving (envOfC qual scope s.heap.objs.size f cd) e) (fun _ s'' => CX outer H s E e s'') (fun e' s'' => CX outer H s E e' s'') s'
theorem cell_has {sc : Scope} {n : Nat} {x : Str} (h : sc.names.lookup x = some .cell) : ∃ c, (cellsFrom n sc.names []).lookup x = some c := by
  have q := PySem.W.cellsFrom_some sc.names n [] (.inl h)
  exact Option.isSome_iff_exists.mp q
theorem inv_start {CX : CXT} {P : Program} {w : World} {K : PySem.W.Frag} {mg : Str → Option Value} {base : Heap} {N ps : List Str} {qual : Str} {scope : Scope} {f : Addr} {cd : Value} {A : Around} {outer : List Env} {s s1 : Shared} {H : Hp} {E : XK} {us : List Value} {vs : List V}
    (S : FnScope N ps scope) (hd : A.handled = none) (e0 : Env0 P w K mg base A outer s H) (hl : vs.length = ps.length) (r : Vals vs us)
    (x : InCallC s s.heap.objs.size (bindL (envOfC qual scope s.heap.objs.size f cd).kindOf (ps.zip us) fun _ => none) (cellsFrom (s.heap.objs.size + 1) scope.names []) (bindC (envOfC qual scope s.heap.objs.size f cd).kindOf (ps.zip us) fun _ => none) s1) :
    Inv (cxOf CX P w K mg base N qual scope f cd A outer s H E) [] (start N vs) H s1 := by
  have hpl : ps.length ≤ N.length := by have := congrArg List.length S.pre; rw [List.length_take] at this; omega
  obtain ⟨h1, tk, rfl, hk⟩ := x.done
  have noA : ∀ b : Addr, b ∉ (cxOf CX P w K mg base N qual scope f cd A outer s H E).ex := fun b z => absurd (show b ∈ ([] : List Addr) from z) (by simp)
  refine ⟨⟨e0.mod, S.kind, rfl, rfl, Nat.le_refl _, fun y z c h1 h2 => ?_, fun y hy => ?_, fun y c _ h => ?_, fun _ => hd, Around.frames_deeper e0.frames, .inr ⟨rfl, rfl⟩, fun b z => absurd z (noA b), e0.bs, e0.bsz, fun b _ _ => noA b, fun b z => absurd z (noA b), e0.funs, e0.frf⟩,
    rfl, e0.bare, Un.kept hk, ⟨_, x.toInCall.ns, fun i y v h1 h2 h3 => ?_⟩, fun y c h => ⟨_, x.cell y c h⟩, e0.hok.fresh (Nat.le_refl _), fun y c h => ?_, fun p hp => absurd (show p ∈ ([] : List (Addr × Obj)) from hp) (by simp), e0.hok.kept hk, ?_⟩
  · exact name_of_addr x.apart (PySem.mem_of_lookup h1) (PySem.mem_of_lookup h2)
  · have hy : scope.names.lookup y = some .cell ∨ scope.names.lookup y = some .free := hy
    rcases hy with hy | hy
    · exact cell_has hy
    · exact absurd rfl (S.nofree _ (PySem.mem_of_lookup hy))
  · exact Nat.le_of_lt (x.above y c (PySem.mem_of_lookup h))
  · have hi : i < vs.length := by
      unfold start at h2
      by_cases hi : i < vs.length
      · exact hi
      · rw [List.getElem?_append_right (by simpa using hi)] at h2
        rw [List.getElem?_replicate] at h2
        split at h2 <;> cases h2
    have ha : vs[i]? = some v := by
      unfold start at h2
      rw [List.getElem?_append_left (by simpa using hi), List.getElem?_map] at h2
      cases e : vs[i]? with
      | none => rw [e] at h2; cases h2
      | some a => rw [e] at h2; cases h2; rfl
    obtain ⟨u, hu, rv⟩ := r.get ha
    have hp : ps[i]? = some y := by
      rw [← S.pre, List.getElem?_take_of_lt (by omega)]; exact h1
    have ndP : ps.Nodup := by rw [← S.pre]; exact S.nd.sublist (List.take_sublist _ _)
    refine ⟨u, rv, ?_⟩
    rcases S.par y (List.mem_of_getElem? hp) with k | k
    · exact .inl ⟨k, bindL_get ndP hp hu k⟩
    · obtain ⟨c, e⟩ := cell_has (n := s.heap.objs.size + 1) k
      refine .inr ⟨.inl k, c, e, ?_⟩
      have q := x.cell y c e
      rw [bindC_get ndP hp hu (by show scope.names.lookup y ≠ _; rw [k]; decide)] at q
      exact q
  · exact e0.hok.fresh (Nat.le_of_lt (x.above y c (PySem.mem_of_lookup h)))
  · unfold start
    show _ = N.length
    rw [List.length_append, List.length_map, List.length_replicate]
    omega
theorem fn_of {CX : CXT} {P : Program} {w : World} {K : PySem.W.Frag} {mg : Str → Option Value} {base : Heap} {k : Nat} {f : Addr} {name qual : Str} {params : Arguments} {body : List Stmt} {scope : Scope} {dV kV doc pm cdv ct oc : Value} {an od : Option Addr}
    {osl : Array (Option Value)} {N ps : List Str} {sp : Sp} (lk : K.lookup f = some ⟨oc, od, .func (PySem.W.fnOf name qual params body scope dV kV doc pm an cdv ct), osl⟩) (hcd : PySem.W.codeIn K cdv qual = true) (S : FnScope N ps scope)
    (len : ∀ vs H Q E, sp vs H Q E → vs.length = ps.length)
    (hbody : ∀ (A : Around) (outer : List Env) (s : Shared) (H : Hp) (vs : List V) (Q : VK) (E : XK), Room k (A.deeper (envOfC qual scope s.heap.objs.size f cdv)) → sp vs H Q E →
      ∃ t, PSs (cxOf CX P w K mg base N qual scope f cdv A outer s H E) body t ∧ t { nx := fun _ H' => Q .non H', rt := Q } (start N vs) H) :
    FnOk P w K mg base CX (k + 1) f (PySem.W.fnOf name qual params body scope dV kV doc pm an cdv ct) ps sp := by
  refine ⟨len, fun A outer s H args us vs Q E hr e0 hb r hsp => ?_⟩
  have hl := len _ _ _ _ hsp
  have KX : K.In s.heap := e0.mod.kin.keeps fun b o e => (e0.bs b o e).1
  have lim : s.heap.NoLimit := e0.mod.nolimit.keeps fun b o e => (e0.bs b o e).1
  have hkind : ∀ y ∈ ps.zip us, scope.names.lookup y.1 = some .local ∨ (scope.names.lookup y.1 = some .cell ∧ ((cellsFrom (s.heap.objs.size + 1) scope.names []).lookup y.1).isSome = true) := fun ⟨n, v⟩ hy => by
    rcases S.par n (List.of_mem_zip hy).1 with q | q
    · exact .inl q
    · exact .inr ⟨q, PySem.W.cellsFrom_some _ _ _ (.inl q)⟩
  refine codeAny_call_function hr.depth (KX _ _ lk) rfl S.co S.gen rfl (PySem.W.codeRec_of KX hcd) (hb _ _ _ _ ?_)
  refine wpAny_newFunctionEnv_cells S.kind hkind fun env he s1 x => ?_
  subst he
  refine ⟨lim.keeps x.toInCall.keep, codeAny_func ?_⟩
  obtain ⟨t, ht, hq⟩ := hbody A outer s H vs Q E (hr.deeper _) hsp
  have I : Inv (cxOf CX P w K mg base N qual scope f cdv A outer s H E) [] (start N vs) H s1 := inv_start S hr.hd e0 hl r x
  refine wpAny_mono (ht [] s1 (start N vs) H _ I hq) (fun fl s' hs => ?_) fun e s' hs => hs
  have fin : ∀ {σ' : St} {H' : Hp} {v : V} {u : Value}, Inv (cxOf CX P w K mg base N qual scope f cdv A outer s H E) [] σ' H' s' → RelV v u → Q v H' → CE outer P w H s Q u s' :=
    fun {σ' H' v u} J rv q => ⟨v, H', J.os, J.bare, J.base, J.hok, rv, q⟩
  cases fl with
  | ret u =>
    obtain ⟨v, σ', H', J, rv, q⟩ := hs
    exact fin J rv q
  | next =>
    obtain ⟨σ', H', J, q⟩ := hs
    exact fin (v := V.non) (u := Value.none) J rfl q
  | brk =>
    obtain ⟨_, _, _, q⟩ := hs
    exact False.elim q
  | cont =>
    obtain ⟨_, _, _, q⟩ := hs
    exact False.elim q
end L2
namespace L2
open PySem PySem.Spec PyProof.Rows
section
variable {X : Cx} {x : Str} {p pos : Pos} {e : Expr} {es : List Expr} {t : TA} {id T : String} {r : List V → Hp → VK → Prop}
def tCB (r : List V → Hp → VK → Prop) (t : TA) : TE := fun σ H Q => t σ H fun vs H1 => r vs H1 Q
theorem pe_callB (hc : CallR X (.builtin id) r) (hg : Gl X x) (hm : X.mg x = none) (hv : bootBuiltins x = some (.builtin id)) (ha : PA X (e :: es) t) (hn : x ≠ "__name__" := by decide) (hdb : (x == ("__debug__" : Str)) = false := by decide)
    (he : starEach (e :: es) X.env = (false, eval e X.env) :: starEach es X.env := by rfl) (hpl : (backTo pos (starEach es X.env)).any (·.1) = false := by rfl) : PE X (.Call (.Name x p) (e :: es) [] pos) (tCB r t) := by
  intro pins s σ H Q I h
  refine wpAny_Call_Name_kw (ld_blt I hg hm hv ?_ hn hdb)
  exact PyProof.Rows.callWith_builtin1 (thn (ha pos pins s σ H _ I h) fun us s1 ⟨vs, H1, I1, r1, q1⟩ => hc pins s1 σ H1 vs us Q I1 r1 q1) he hpl
theorem pe_callTy (hc : CallR X (.type T) r) (hg : Gl X x) (hm : X.mg x = none) (hv : bootBuiltins x = some (.type T)) (ha : PA X (e :: es) t) (hn : x ≠ "__name__" := by decide) (hdb : (x == ("__debug__" : Str)) = false := by decide)
    (he : starEach (e :: es) X.env = (false, eval e X.env) :: starEach es X.env := by rfl) (hpl : (backTo pos (starEach es X.env)).any (·.1) = false := by rfl) : PE X (.Call (.Name x p) (e :: es) [] pos) (tCB r t) := by
  intro pins s σ H Q I h
  refine wpAny_Call_Name_kw (ld_blt I hg hm hv ?_ hn hdb)
  exact PyProof.Rows.callWith_type1 (thn (ha pos pins s σ H _ I h) fun us s1 ⟨vs, H1, I1, r1, q1⟩ => hc pins s1 σ H1 vs us Q I1 r1 q1) he hpl
end
end L2
namespace HT
open PySem PyProof.Rows
section
open PySem.SeqAt
open PySem.AutoSeq1 (wpAny_loadPart')
open PySem.MeetsSeq PySem.MeetsSeq2 PySem.MeetsSeq3
end
section
variable {prog : Program} {w : World} {A : Around} {E : Value → Shared → Prop} {s : Shared}
theorem cat_tup {t b : Addr} {vs ws : List Value} {Q : Value → Shared → Prop} (ht : IsTup s.heap t vs.toArray) (hb : IsTup s.heap b ws.toArray) (hv : vs ≠ [])
    (h1 : ws = [] → Q (.ref t) s) (h2 : ws ≠ [] → Q (.ref s.heap.objs.size) { s with heap := s.heap.push { cls := .type "tuple", data := .seq (vs ++ ws).toArray } })
    (hsz : vs.length + ws.length ≤ sizeLine) : wpAny (model prog w) A (binaryOp .Add (.ref t) (.ref b)) Q E s := by
  obtain ⟨⟨cls, dd, data, sl⟩, ho, hc, n, hd⟩ := id ht
  obtain ⟨⟨cls2, dd2, data2, sl2⟩, ho2, hc2, n2, hd2⟩ := id hb
  simp only at hc hd hc2 hd2
  subst hc hd hc2 hd2
  have e : vs.toArray ++ ws.toArray = (vs ++ ws).toArray := by simp
  by_cases hw : ws = []
  · exact concat_meets ⟨_, ho, rfl⟩ ⟨_, ho2, rfl⟩ noFill_tuple_add seq_tuple_add PySem.F.slot_tuple_add PySem.F.entry_tuple_add (PySem.F.args_tuple_add_2 _ _)
      (tuple_addW1 t b vs.toArray ws.toArray n n2 dd dd2 sl sl2 (by simpa using hv) (by simp [hw])) ⟨ho, ho2, h1 hw⟩
  · refine concat_meets ⟨_, ho, rfl⟩ ⟨_, ho2, rfl⟩ noFill_tuple_add seq_tuple_add PySem.F.slot_tuple_add PySem.F.entry_tuple_add (PySem.F.args_tuple_add_2 _ _)
      (tuple_addW2 t b vs.toArray ws.toArray n n2 dd dd2 sl sl2 (by simpa using hv) (by simpa using hw) (by rw [List.size_toArray, List.size_toArray]; exact hsz)) ⟨ho, ho2, ?_⟩
    rw [e]
    exact h2 hw
def sIx (n d : Nat) : Option Int → Nat
  | none => d
  | some v => if v < 0 then (v + (n : Int)).toNat else min v.toNat n
theorem sIx_none (n d : Nat) : sIx n d none = d := rfl
theorem sIx_nat (n d k : Nat) : sIx n d (some (k : Int)) = min k n := by
  show (if (k : Int) < 0 then ((k : Int) + (n : Int)).toNat else min (k : Int).toNat n) = min k n
  rw [if_neg (by omega), Int.toNat_natCast]
theorem sIx_le (n d : Nat) (hd : d ≤ n) (o : Option Int) : sIx n d o ≤ n := by
  cases o with
  | none => exact hd
  | some v =>
    show (if v < 0 then (v + (n : Int)).toNat else min v.toNat n) ≤ n
    by_cases hv : v < 0
    · rw [if_pos hv]; omega
    · rw [if_neg hv]; exact Nat.min_le_right _ _
theorem clip_eq (v : Int) (n d : Nat) : (if v < 0 then max (v + (n : Int)) 0 else min v (n : Int)) = ((sIx n d (some v) : Nat) : Int) := by
  show (if v < 0 then max (v + (n : Int)) 0 else min v (n : Int)) = (((if v < 0 then (v + (n : Int)).toNat else min v.toNat n) : Nat) : Int)
  by_cases hv : v < 0
  · simp only [if_pos hv]; omega
  · simp only [if_neg hv]; omega
theorem adjust_gen (lo hi : Option Int) (n : Nat) : Builtin.Slice.sliceAdjust lo hi 1 (n : Int) = (((sIx n 0 lo : Nat) : Int), ((sIx n n hi : Nat) : Int)) := by
  have h1 : ¬ ((1 : Int) < 0) := by omega
  unfold Builtin.Slice.sliceAdjust
  simp only [h1, if_false]
  refine Prod.ext ?_ ?_
  · cases lo with
    | none => rfl
    | some v => exact clip_eq v n 0
  · cases hi with
    | none => rfl
    | some v => exact clip_eq v n n
theorem places_gen (i j : Nat) : Builtin.Slice.slicePlaces (i : Int) (j : Int) 1 = j - i := by
  unfold Builtin.Slice.slicePlaces
  have h1 : (1 : Int) > 0 := by omega
  simp only [h1, if_true, Int.ediv_one]
  split <;> omega
theorem slicePart_ {v : Value} {o : Option Int} {Q : Option Int → Shared → Prop} (p : IsPart v o) (h : Q o s) : wpAny (model prog w) A (Builtin.Slice.slicePartIndex v) Q E s := by
  cases p with
  | none => exact slicePart_none h
  | int i t => exact slicePart_int h
theorem sliceApplied_gen {sl : Addr} {vl vu : Value} {lo hi : Option Int} {n : Nat} {Q : Int × Int × Nat → Shared → Prop} (hs : s.heap.IsSliceOf sl vl vu .none) (pl : IsPart vl lo) (pu : IsPart vu hi)
    (h : Q (((sIx n 0 lo : Nat) : Int), 1, sIx n n hi - sIx n 0 lo) s) : wpAny (model prog w) A (Builtin.Slice.sliceApplied (.ref sl) (pure (n : Int))) Q E s := by
  obtain ⟨os, hos, hcs, hds⟩ := id hs
  unfold Builtin.Slice.sliceApplied Builtin.Slice.sliceFields
  refine wpAny_bind (wpAny_bind (wpAny_field hos hds (x := vl) rfl (wpAny_bind (wpAny_field hos hds (x := vu) rfl (wpAny_bind (wpAny_field hos hds (x := .none) rfl (wpAny_pure ?_)))))))
  refine wpAny_bind (slicePart_none ?_)
  show wpAny _ _ (if ((1 : Int) == 0) = true then _ else _) _ _ s
  rw [if_neg (by decide)]
  refine wpAny_bind (slicePart_ pl (wpAny_bind (slicePart_ pu (wpAny_bind (wpAny_pure ?_)))))
  show wpAny _ _ (match Builtin.Slice.sliceAdjust lo hi 1 (n : Int) with | (lo, hi) => pure (lo, (1 : Int), Builtin.Slice.slicePlaces lo hi 1)) _ _ s
  rw [adjust_gen lo hi n]
  show wpAny _ _ (pure (((sIx n 0 lo : Nat) : Int), (1 : Int), Builtin.Slice.slicePlaces ((sIx n 0 lo : Nat) : Int) ((sIx n n hi : Nat) : Int) 1)) _ _ s
  rw [places_gen]
  exact wpAny_pure h
theorem pick_gen (xs : Array Value) (i k : Nat) : ((List.range k).filterMap fun (m : Nat) => xs[((i : Int) + (m : Int) * 1).toNat]?).toArray = ((xs.toList.drop i).take k).toArray := by
  have e : (fun (m : Nat) => xs[((i : Int) + (m : Int) * 1).toNat]?) = fun m => xs[i + m]? := by
    funext m
    have : ((i : Int) + (m : Int) * 1).toNat = i + m := by omega
    rw [this]
  rw [e]
  have := pick_run xs i k
  rw [List.filterMap_map] at this
  have e2 : ((fun x => xs[x]?) ∘ fun x => i + x) = fun m => xs[i + m]? := rfl
  rw [e2] at this
  rw [this]
theorem getItem_tuple_cut {t sl : Addr} {items : Array Value} {vl vu : Value} {lo hi : Option Int} {Q : Value → Shared → Prop} (ht : IsTup s.heap t items) (hs : s.heap.IsSliceOf sl vl vu .none) (pl : IsPart vl lo) (pu : IsPart vu hi)
    (hw : ¬ (sIx items.size 0 lo = 0 ∧ sIx items.size items.size hi = items.size))
    (h : Q (.ref s.heap.objs.size) { s with heap := s.heap.push { cls := .type "tuple", data := .seq ((items.toList.drop (sIx items.size 0 lo)).take (sIx items.size items.size hi - sIx items.size 0 lo)).toArray } })
    (hsz : items.size ≤ sizeLine) : wpAny (model prog w) A (getItem (.ref t) (.ref sl)) Q E s := by
  have htake : sizeOk (.seq ((items.toList.drop (sIx items.size 0 lo)).take (sIx items.size items.size hi - sIx items.size 0 lo)).toArray) := by
    show ((items.toList.drop (sIx items.size 0 lo)).take (sIx items.size items.size hi - sIx items.size 0 lo)).toArray.size ≤ sizeLine
    rw [List.size_toArray, List.length_take, List.length_drop, Array.length_toList]
    omega
  have hj : sIx items.size items.size hi ≤ items.size := sIx_le _ _ (Nat.le_refl _) hi
  obtain ⟨os, hos, hcs, hds⟩ := id hs
  have hTs : s.TypeIs (.ref sl) "slice" := ⟨os, hos, hcs⟩
  unfold getItem
  try with_reducible refine wpAny_holding ?_
  first | refine wpAny_bind (wpAny_pure ?_) | skip
  refine wpAny_bind (wpAny_sequenceKey ht.typeIs (by decide) ?_)
  refine wpAny_bind (wpAny_callSpecial?_slot (name := Str.ofString "__getitem__") ht.typeIs PyProof.Rows.slot_tuple_getitem
    (wpAny_call_entry PyProof.Rows.slot_tuple_getitem ht.typeIs entry_tuple_getitem ?_ (args_tuple_getitem _ _)))
  show wpAny _ _ (Builtin.Tuple.tupleItemsOf (.ref t) >>= _) _ _ s
  refine wpAny_bind (tupleItemsOf_ ht ?_)
  refine wpAny_bind (wpAny_typeOf hTs ?_)
  rw [if_pos (by decide)]
  refine wpAny_bind (sliceApplied_gen hs pl pu ?_)
  have hno : ¬ ((((sIx items.size 0 lo : Nat) : Int) == 0 && (1 : Int) == 1 && (sIx items.size items.size hi - sIx items.size 0 lo) == items.size) = true) := by
    intro q
    rw [Bool.and_eq_true, Bool.and_eq_true] at q
    have q1 : ((sIx items.size 0 lo : Nat) : Int) = 0 := eq_of_beq q.1.1
    have q2 : sIx items.size items.size hi - sIx items.size 0 lo = items.size := eq_of_beq q.2
    exact hw ⟨by omega, by omega⟩
  show wpAny _ _ (if (((sIx items.size 0 lo : Nat) : Int) == 0 && (1 : Int) == 1 && (sIx items.size items.size hi - sIx items.size 0 lo) == items.size) = true then _ else _) _ _ s
  rw [if_neg hno, pick_gen]
  first
    | exact wpAny_bind (m := Builtin.Tuple.tupleExact _) (wpAny_newObj_type (wpAny_pure ⟨_, rfl, wpAny_pure h⟩) htake)
    | exact wpAny_bind (m := Builtin.Tuple.tupleExact _) (wpAny_newObj_type (wpAny_bind (wpAny_pure (wpAny_pure ⟨_, rfl, wpAny_pure h⟩))) htake)
    | exact wpAny_bind (wpAny_bind (m := Builtin.Tuple.tupleExact _) (wpAny_newObj_type (wpAny_pure (wpAny_pure ⟨_, rfl, wpAny_pure h⟩)) htake))
    | exact wpAny_bind (wpAny_bind (m := Builtin.Tuple.tupleExact _) (wpAny_newObj_type (wpAny_pure ⟨_, rfl, wpAny_pure h⟩) htake))
end
end HT
namespace L2
open PySem PySem.Spec PyProof.Rows
abbrev TO := St → Hp → (Option Int → Hp → Prop) → Prop
def PO (X : Cx) (e : Option Expr) (t : TO) : Prop :=
  ∀ (pins : List (Addr × Obj)) (s : Shared) (σ : St) (H : Hp) (Q : Option Int → Hp → Prop), Inv X pins σ H s → t σ H Q →
    wpAny (model X.prog X.w) X.A (evalPart e X.env) (fun u s' => ∃ o H', Inv X pins σ H' s' ∧ IsPart u o ∧ Q o H') X.xe s
def tNoPart : TO := fun _ H Q => Q none H
def tPart (t : TE) : TO := fun σ H Q => t σ H fun x H1 => ∃ i, x = .int i ∧ Q (some i) H1
section
variable {X : Cx} {e : Expr} {te : TE} {lo hi : Option Expr} {tl th : TO} {pos p2 : Pos}
theorem po_none : PO X none tNoPart := by
  intro pins s σ H Q I h
  rw [evalPart_none]
  exact wpAny_pure ⟨none, H, I, .none, h⟩
theorem po_some (h : PE X e te) : PO X (some e) (tPart te) := by
  intro pins s σ H Q I hw
  rw [evalPart_some]
  refine thn (h pins s σ H _ I hw) fun u s1 ⟨x, H1, I1, r1, q1⟩ => ?_
  obtain ⟨i, rfl, q⟩ := q1
  obtain ⟨t, rfl⟩ := r1
  exact ⟨some i, H1, I1, .int i t, q⟩
def SlR (X : Cx) (r : V → Option Int → Option Int → Hp → VK → Prop) : Prop :=
  ∀ (pins : List (Addr × Obj)) (s : Shared) (σ : St) (H : Hp) (x : V) (v vl vu : Value) (lo hi : Option Int) (sl : Addr) (Q : VK), Inv X pins σ H s → RelV x v → s.heap.IsSliceOf sl vl vu .none → IsPart vl lo → IsPart vu hi → r x lo hi H Q →
    ∃ T id, typeLookup (.type T) "__getitem__" = pure (some (.builtin id)) ∧ s.TypeIs v T ∧ wpAny (model X.prog X.w) X.A (getItem v (.ref sl)) (EP X pins σ Q) X.xe s
theorem SlR.or {r r' : V → Option Int → Option Int → Hp → VK → Prop} (h : SlR X r) (h' : SlR X r') : SlR X (fun x lo hi H Q => r x lo hi H Q ∨ r' x lo hi H Q) := by
  intro pins s σ H x v vl vu lo hi sl Q I rx hs pl pu q
  rcases q with q | q
  · exact h pins s σ H x v vl vu lo hi sl Q I rx hs pl pu q
  · exact h' pins s σ H x v vl vu lo hi sl Q I rx hs pl pu q
def tSl (r : V → Option Int → Option Int → Hp → VK → Prop) (te : TE) (tl th : TO) : TE := fun σ H Q => te σ H fun x H1 => tl σ H1 fun l H2 => th σ H2 fun u H3 => r x l u H3 Q
theorem pe_slice {r : V → Option Int → Option Int → Hp → VK → Prop} (hr : SlR X r) (he : PE X e te) (hl : PO X lo tl) (hu : PO X hi th) : PE X (.Subscript e (.Slice lo hi none p2) pos) (tSl r te tl th) := by
  intro pins s σ H Q I h
  refine Subscript_ (thn (he pins s σ H _ I h) fun v s1 ⟨x, H1, I1, r1, q1⟩ => ?_)
  refine wpAny_Slice (thn (hl pins s1 σ H1 _ I1 q1) fun vl s2 ⟨l, H2, I2, pl, q2⟩ => thn (hu pins s2 σ H2 _ I2 q2) fun vu s3 ⟨u, H3, I3, pu, q3⟩ => ?_)
  rw [evalPart_none]
  refine wpAny_pure ?_
  have I4 : Inv X pins σ H3 { s3 with heap := s3.heap.push { cls := .type "slice", data := .fields #[vl, vu, .none] } } := I3.kept (t' := s3.toks) fun b ob q => Heap.get?_push_of_some _ q
  obtain ⟨T, id, hT, ht, hg⟩ := hr pins { s3 with heap := s3.heap.push { cls := .type "slice", data := .fields #[vl, vu, .none] } } σ H3 x v vl vu l u s3.heap.objs.size Q I4 r1 (Heap.IsSliceOf.new ..) pl pu q3
  show wpAny (model X.prog X.w) X.A (subscriptTail e (.Slice lo hi none p2) v (.ref s3.heap.objs.size)) (EP X pins σ Q) X.xe { s3 with heap := s3.heap.push { cls := .type "slice", data := .fields #[vl, vu, .none] } }
  exact tail_any (ops := [.ref s3.heap.objs.size, v]) ht hT hg (by with_unfolding_all rfl)
def cutV (xs : List V) (lo hi : Option Int) : List V := (xs.drop (HT.sIx xs.length 0 lo)).take (HT.sIx xs.length xs.length hi - HT.sIx xs.length 0 lo)
theorem cutV_length (xs : List V) (lo hi : Option Int) : (cutV xs lo hi).length ≤ xs.length := by
  unfold cutV
  rw [List.length_take, List.length_drop]
  omega
def rSlT (K : PySem.W.Frag) : V → Option Int → Option Int → Hp → VK → Prop := fun x lo hi H Q => ∃ a xs, x = .ref a ∧ SqT K H a xs ∧
  ¬ (HT.sIx xs.length 0 lo = 0 ∧ HT.sIx xs.length xs.length hi = xs.length) ∧ ∀ p, H p = none → Q (.ref p) (upd H p (.tup (cutV xs lo hi)))
theorem sl_tup : SlR X (rSlT X.K) := by
  intro pins s σ H x v vl vu lo hi sl Q I rx hs pl pu h
  obtain ⟨a, xs, rfl, hx, hw, q⟩ := h
  cases rx
  obtain ⟨its, r, ht, hz⟩ := I.tuple hx
  have hlen : its.toArray.size = xs.length := by rw [List.size_toArray]; exact r.length.symm
  refine ⟨"tuple", _, PyProof.Rows.slot_tuple_getitem.lookup, ht.typeIs, ?_⟩
  refine HT.getItem_tuple_cut ht hs pl pu (by rw [hlen]; exact hw) ?_ (by rw [hlen]; exact hz)
  rw [hlen]
  refine ⟨.ref s.heap.objs.size, _, I.laid (t' := s.toks) (o := .tup (cutV xs lo hi)) (fun b ob q => Heap.get?_push_of_some _ q) (Nat.le_refl _) ?_, rfl, q _ (I.hok.fresh (Nat.le_refl _))⟩
  exact ⟨Nat.le_trans (cutV_length xs lo hi) hz, _, (r.drop (HT.sIx xs.length 0 lo)).take (HT.sIx xs.length xs.length hi - HT.sIx xs.length 0 lo), TupD.new _ _⟩
def rCatT (K : PySem.W.Frag) : R2 := fun x y H Q => ∃ a b xs ys, x = .ref a ∧ y = .ref b ∧ SqT K H a xs ∧ SqT K H b ys ∧ xs ≠ [] ∧ xs.length + ys.length ≤ sizeLine ∧
  (ys = [] → Q (.ref a) H) ∧ (ys ≠ [] → ∀ p, H p = none → Q (.ref p) (upd H p (.tup (xs ++ ys))))
theorem Vals.nil_iff {xs : List V} {us : List Value} (r : Vals xs us) : us = [] ↔ xs = [] := by
  cases r with
  | nil => simp
  | cons _ _ => simp
theorem op_catT : OpR X (binaryOp .Add) (rCatT X.K) := by
  intro pins s σ H x y v u Q I rx ry h
  obtain ⟨a, b, xs, ys, rfl, rfl, ha, hb, hx, hz, q1, q2⟩ := h
  cases rx
  cases ry
  obtain ⟨its, r1, p1, _⟩ := I.tuple ha
  obtain ⟨its2, r2, p2, _⟩ := I.tuple hb
  refine HT.cat_tup p1 p2 (fun z => hx (r1.nil_iff.mp z)) (fun z => ⟨.ref a, H, I, rfl, q1 (r2.nil_iff.mp z)⟩) (fun z => ?_) (by rw [← r1.length, ← r2.length]; exact hz)
  refine ⟨.ref s.heap.objs.size, _, I.laid (t' := s.toks) (o := .tup (xs ++ ys)) (fun b ob q => Heap.get?_push_of_some _ q) (Nat.le_refl _) ?_, rfl, q2 (fun w => z (r2.nil_iff.mpr w)) _ (I.hok.fresh (Nat.le_refl _))⟩
  exact ⟨by rw [List.length_append]; exact hz, _, r1.append r2, TupD.new _ _⟩
end
end L2
namespace L2
open PySem PySem.Spec PyProof.Rows
def ixN (n : Nat) (i : Int) : Option Nat := if 0 ≤ i then (if i < n then some i.toNat else none) else if -(n : Int) ≤ i then some (i + n).toNat else none
def atI {α : Type} (xs : List α) (i : Int) : Option α := (ixN xs.length i).bind fun j => xs[j]?
theorem ixN_seq {n : Nat} {i : Int} {j : Nat} (h : ixN n i = some j) : seqIndex? i n = some j ∧ j < n ∧ -(n : Int) ≤ i ∧ i < n := by
  unfold ixN at h
  by_cases h0 : 0 ≤ i
  · rw [if_pos h0] at h
    by_cases h1 : i < n
    · rw [if_pos h1] at h
      have e : i.toNat = j := Option.some.inj h
      exact ⟨by rw [seqIndex_of h0 h1, e], by omega, by omega, h1⟩
    · rw [if_neg h1] at h; cases h
  · rw [if_neg h0] at h
    by_cases h1 : -(n : Int) ≤ i
    · rw [if_pos h1] at h
      have e : (i + n).toNat = j := Option.some.inj h
      exact ⟨by rw [seqIndex_neg (by omega) h1, e], by omega, h1, by omega⟩
    · rw [if_neg h1] at h; cases h
theorem atI_get {α : Type} {xs : List α} {i : Int} {v : α} (h : atI xs i = some v) : ∃ j, seqIndex? i xs.length = some j ∧ xs[j]? = some v ∧ j < xs.length ∧ -(xs.length : Int) ≤ i ∧ i < xs.length := by
  unfold atI at h
  cases e : ixN xs.length i with
  | none => rw [e] at h; cases h
  | some j =>
    rw [e] at h
    obtain ⟨h1, h2, h3, h4⟩ := ixN_seq e
    exact ⟨j, h1, h, h2, h3, h4⟩
theorem atI_nat {α : Type} {xs : List α} {j : Nat} {v : α} (h : xs[j]? = some v) : atI xs (j : Int) = some v := by
  have hj : j < xs.length := (List.getElem?_eq_some_iff.mp h).1
  have e : ixN xs.length (j : Int) = some j := by
    unfold ixN
    rw [if_pos (by omega), if_pos (by omega)]; simp
  unfold atI; rw [e]; exact h
def PlainIx (b : Expr) : Prop := ∀ o i, subscripted b false o i = operate [o, i] (getItem o i)
def IxR (X : Cx) (r : R2) : Prop :=
  ∀ (value slice : Expr) (pins : List (Addr × Obj)) (s : Shared) (σ : St) (H : Hp) (x y : V) (v u : Value) (Q : VK), Inv X pins σ H s → RelV x v → RelV y u → r x y H Q →
    subscripted slice false v u = operate [v, u] (getItem v u) → wpAny (model X.prog X.w) X.A (subscriptTail value slice v u) (EP X pins σ Q) X.xe s
def MtR (X : Cx) (id : String) (r : V → List V → Hp → VK → Prop) : Prop :=
  ∀ (pins : List (Addr × Obj)) (s : Shared) (σ : St) (H : Hp) (x : V) (xs : List V) (v : Value) (us : List Value) (Q : VK), Inv X pins σ H s → RelV x v → Vals xs us → r x xs H Q →
    wpAny (model X.prog X.w) X.A (call (.builtin id) (v :: us)) (EP X pins σ Q) X.xe s
section
variable {X : Cx} {a b : Expr} {ta tb : TE} {pos : Pos}
theorem IxR.or {r r' : R2} (h : IxR X r) (h' : IxR X r') : IxR X (fun x y H Q => r x y H Q ∨ r' x y H Q) := by
  intro value slice pins s σ H x y v u Q I rx ry q hs
  rcases q with q | q
  · exact h value slice pins s σ H x y v u Q I rx ry q hs
  · exact h' value slice pins s σ H x y v u Q I rx ry q hs
theorem pe_ix {r : R2} (hr : IxR X r) (ha : PE X a ta) (hb : PE X b tb) (hs : PlainIx b) : PE X (.Subscript a b pos) (tOp r ta tb) := by
  intro pins s σ H Q I h
  exact Subscript_ (binT ha hb I h fun v u s2 x y H2 I2 rx ry q => hr a b pins s2 σ H2 x y v u Q I2 rx ry q (hs _ _))
def rIxL (K : PySem.W.Frag) : R2 := fun x y H Q => ∃ p xs i v, x = .ref p ∧ y = .int i ∧ SqL K H p xs ∧ atI xs i = some v ∧ Q v H
def rIxT (K : PySem.W.Frag) : R2 := fun x y H Q => ∃ p xs i v, x = .ref p ∧ y = .int i ∧ SqT K H p xs ∧ atI xs i = some v ∧ Q v H
def rIxS : R2 := fun x y H Q => ∃ z i c, x = .str z ∧ y = .int i ∧ z.length ≤ sizeLine ∧ atI z.cps.toList i = some c ∧ Q (.str ⟨#[c]⟩) H
theorem ix_list : IxR X (rIxL X.K) := by
  intro value slice pins s σ H x y v u Q I rx ry h hs
  obtain ⟨p, xs, i, z, rfl, rfl, hq, he, q⟩ := h
  cases rx
  obtain ⟨t, rfl⟩ := ry
  obtain ⟨its, r, pl, hz⟩ := I.list hq
  obtain ⟨j, h1, h2, h3, h4, h5⟩ := atI_get he
  obtain ⟨w, ew, rw'⟩ := r.get h2
  have hl := r.length
  have hn := line63
  have fin : EP X pins σ Q w s := ⟨z, H, I, rw', q⟩
  by_cases h0 : 0 ≤ i
  · have hj : i.toNat = j := by
      rw [seqIndex_of h0 h5] at h1
      exact Option.some.inj h1
    exact item_listR pl.isList h0 (by omega) (by rw [hj]; simpa using ew) fin hs
  · have hj : (i + (its.toArray.size : Int)).toNat = j := by
      rw [seqIndex_neg (by omega) h4] at h1
      rw [List.size_toArray, ← hl]
      exact Option.some.inj h1
    exact subscriptTail_builtinR (x := w) pl.isList.typeIs slot_list_getitem.lookup
      (wpAny_getItem_list_neg (Q := fun r s' => r = w ∧ EP X pins σ Q r s') pl.isList (by omega) (by rw [List.size_toArray] <;> omega) (by omega) (by rw [hj]; simpa using ew) ⟨rfl, fin⟩) hs
theorem ix_tup : IxR X (rIxT X.K) := by
  intro value slice pins s σ H x y v u Q I rx ry h hs
  obtain ⟨p, xs, i, z, rfl, rfl, hq, he, q⟩ := h
  cases rx
  obtain ⟨t, rfl⟩ := ry
  obtain ⟨its, r, pl, hz⟩ := I.tuple hq
  obtain ⟨j, h1, h2, h3, h4, h5⟩ := atI_get he
  obtain ⟨w, ew, rw'⟩ := r.get h2
  have hl := r.length
  have hn := line63
  have fin : EP X pins σ Q w s := ⟨z, H, I, rw', q⟩
  exact subscriptTail_builtinR (x := w) pl.typeIs slot_tuple_getitem.lookup
    (getItem_tuple (j := j) (Q := fun r s' => r = w ∧ EP X pins σ Q r s') pl (by omega) (by omega) (by rw [List.size_toArray, ← hl]; exact h1) (by simpa using ew) ⟨rfl, fin⟩) hs
theorem ix_str : IxR X rIxS := by
  intro value slice pins s σ H x y v u Q I rx ry h hs
  obtain ⟨z, i, c, rfl, rfl, hz, he, q⟩ := h
  obtain ⟨t, rfl⟩ := rx
  obtain ⟨t', rfl⟩ := ry
  obtain ⟨j, h1, h2, h3, h4, h5⟩ := atI_get he
  have hl : z.cps.toList.length = z.length := by simp [Str.length]
  rw [hl] at h1 h4 h5
  have hn := line63
  exact tail_any (typeIs_str s z t) slot_str_getitem.lookup (getItem_str (c := c) (by
    have e1 : decide (i < -(2 ^ 63 : Int)) = false := decide_eq_false (by omega)
    have e2 : decide (i ≥ 2 ^ 63) = false := decide_eq_false (by omega)
    rw [e1, e2, Bool.or_false]) (by rw [h1]; simpa using h2) ⟨.str ⟨#[c]⟩, H, I.tok _, ⟨_, rfl⟩, q⟩) hs
theorem mapSeq_set (its : List Value) (n j : Nat) (u : Value) : Obj.mapSeq (·.setIfInBounds j u) { cls := .type "list", data := .seq its.toArray n } = { cls := .type "list", data := .seq (its.set j u).toArray n } := by
  simp [Obj.mapSeq]
theorem Inv.lst {pins : List (Addr × Obj)} {σ : St} {H : Hp} {s : Shared} {p : Addr} {xs : List V} (I : Inv X pins σ H s) (h : H p = some (.lst xs)) :
    ∃ (its : List Value) (n : Nat), Vals xs its ∧ s.heap.get? p = some { cls := .type "list", data := .seq its.toArray n } ∧ xs.length ≤ sizeLine := by
  obtain ⟨z, its, n, r, e⟩ := I.hok p _ h
  exact ⟨its, n, r, e, z⟩
theorem Inv.lstUpd {pins : List (Addr × Obj)} {σ : St} {H : Hp} {s : Shared} {p : Addr} {xs ys : List V} {its its' : List Value} {n n' : Nat} {f : Obj → Obj} (I : Inv X pins σ H s) (h : H p = some (.lst xs))
    (ho : s.heap.get? p = some { cls := .type "list", data := .seq its.toArray n }) (hf : f { cls := .type "list", data := .seq its.toArray n } = { cls := .type "list", data := .seq its'.toArray n' }) (r : Vals ys its') (hz : ys.length ≤ sizeLine) (t : Nat) :
    Inv X pins σ (upd H p (.lst ys)) { s with heap := s.heap.update p f, toks := t } := by
  have e : (s.heap.update p f).get? p = some { cls := .type "list", data := .seq its'.toArray n' } := by
    rw [Heap.get?_update_self f ho (by rw [hf] <;> rfl), hf]
  refine I.write (x := p) (e := p) (by rw [h]; trivial) (.inl rfl) (fun b u hb q => (Heap.get?_update_other _ _ (Ne.symm hb)).trans q) ⟨_, e⟩ ?_
  exact ⟨hz, its', n', r, e⟩
def rSetL : V → V → V → Hp → (Hp → Prop) → Prop := fun o i v H Q => ∃ p xs k j, o = .ref p ∧ i = .int k ∧ H p = some (.lst xs) ∧ ixN xs.length k = some j ∧ Q (upd H p (.lst (xs.set j v)))
theorem set_list : PSet X rSetL := by
  intro pins s σ H o i v ov iv u Q I ro ri rv h
  obtain ⟨p, xs, k, j, rfl, rfl, hp, hj, q⟩ := h
  cases ro
  obtain ⟨t, rfl⟩ := ri
  obtain ⟨its, n, r, ho, hz⟩ := I.lst hp
  obtain ⟨h1, h2, h3, h4⟩ := ixN_seq hj
  have hl := r.length
  have hn := line63
  have I' : Inv X pins σ (upd H p (.lst (xs.set j v))) { s with heap := s.heap.update p (Obj.mapSeq (·.setIfInBounds j u)) } :=
    I.lstUpd hp ho (mapSeq_set its n j u) (r.set rv j) (by rw [List.length_set]; exact hz) s.toks
  by_cases h0 : 0 ≤ k
  · have hk : k.toNat = j := by
      rw [seqIndex_of h0 h4] at h1
      exact Option.some.inj h1
    exact PySem.W.ki_setAt ho h0 (by omega) (by rw [List.size_toArray, ← hl]; exact h4) (by rw [hk]; exact ⟨_, I', q⟩)
  · have hk : (k + (its.toArray.size : Int)).toNat = j := by
      rw [seqIndex_neg (by omega) h3] at h1
      rw [List.size_toArray, ← hl]
      exact Option.some.inj h1
    exact PySem.W.ki_setBack ho (by omega) (by rw [List.size_toArray, ← hl]; exact h3) (by omega) (by rw [hk]; exact ⟨_, I', q⟩)
theorem slice_bounds (lo hi : Option Int) (n : Nat) : (sliceBounds lo hi none n).1 = ((HT.sIx n 0 lo : Nat) : Int) ∧ (sliceBounds lo hi none n).2.1 = ((HT.sIx n n hi : Nat) : Int) ∧ (sliceBounds lo hi none n).2.2 = 1 := by
  refine ⟨?_, ?_, rfl⟩
  · cases lo with
    | none => simp [sliceBounds, HT.sIx]
    | some i =>
      simp only [sliceBounds, HT.sIx, Option.getD_none, show (1 : Int) > 0 by decide, if_true]
      by_cases h : i < 0
      · simp only [h, if_true] <;> omega
      · simp only [h, if_false] <;> omega
  · cases hi with
    | none => simp [sliceBounds, HT.sIx]
    | some i =>
      simp only [sliceBounds, HT.sIx, Option.getD_none, show (1 : Int) > 0 by decide, if_true]
      by_cases h : i < 0
      · simp only [h, if_true] <;> omega
      · simp only [h, if_false] <;> omega
theorem slicePick_cut (its : List Value) (lo hi : Option Int) : slicePick its.toArray lo hi none = ((its.drop (HT.sIx its.length 0 lo)).take (HT.sIx its.length its.length hi - HT.sIx its.length 0 lo)).toArray := by
  obtain ⟨h1, h2, h3⟩ := slice_bounds lo hi its.toArray.size
  unfold slicePick
  rw [h1, h2, h3]
  simp only [sliceRange_one, pick_run, List.size_toArray] <;> rfl
def rSlL (K : PySem.W.Frag) : V → Option Int → Option Int → Hp → VK → Prop := fun x lo hi H Q => ∃ a xs, x = .ref a ∧ SqL K H a xs ∧ ∀ p, H p = none → Q (.ref p) (upd H p (.lst (cutV xs lo hi)))
theorem sl_list : SlR X (rSlL X.K) := by
  intro pins s σ H x v vl vu lo hi sl Q I rx hs pl pu h
  obtain ⟨a, xs, rfl, hx, q⟩ := h
  cases rx
  obtain ⟨its, r, ht, hz⟩ := I.list hx
  have hlen := r.length
  refine ⟨"list", _, slot_list_getitem.lookup, ht.isList.typeIs, ?_⟩
  refine wpAny_getItem_list_slice ht.isList hs pl pu .none (by simp) ?_ (by rw [List.size_toArray] <;> omega)
  rw [slicePick_cut, ← hlen]
  refine ⟨.ref s.heap.objs.size, _, I.laid (t' := s.toks) (o := .lst (cutV xs lo hi)) (fun b ob q => Heap.get?_push_of_some _ q) (Nat.le_refl _) ?_, rfl, q _ (I.hok.fresh (Nat.le_refl _))⟩
  exact ⟨Nat.le_trans (cutV_length xs lo hi) hz, _, 0, (r.drop (HT.sIx xs.length 0 lo)).take (HT.sIx xs.length xs.length hi - HT.sIx xs.length 0 lo), Heap.get?_push_size _ rfl⟩
def flatV : V → Bool
  | .non => true
  | .bl _ => true
  | .int _ => true
  | .str _ => true
  | _ => false
def eqV : V → V → Bool
  | .non, .non => true
  | .bl a, .bl b => a == b
  | .bl a, .int b => (if a then 1 else 0) == b
  | .int a, .bl b => a == (if b then 1 else 0)
  | .int a, .int b => a == b
  | .str a, .str b => a == b
  | _, _ => false
theorem eqAt_V {A : Around} {s : Shared} {y x : V} {u v : Value} (ry : RelV y u) (rx : RelV x v) (fy : flatV y = true) (fx : flatV x = true) : SeqAt.EqAt A s u v (eqV y x) := by
  cases y with
  | non =>
    cases ry
    cases x with
    | non => cases rx; exact SeqAt.EqAt.same _
    | bl b => cases rx; exact SeqAt.EqAt.none_bool b
    | int b => obtain ⟨t, rfl⟩ := rx; exact SeqAt.EqAt.none_int b t
    | str b => obtain ⟨t, rfl⟩ := rx; exact SeqAt.EqAt.none_str b t
    | _ => exact absurd (show false = true from fx) Bool.false_ne_true
  | bl a =>
    cases ry
    cases x with
    | non => cases rx; exact SeqAt.EqAt.bool_none a
    | bl b => cases rx; exact SeqAt.EqAt.bool_bool a b
    | int b => obtain ⟨t, rfl⟩ := rx; exact SeqAt.EqAt.bool_int a b t
    | str b => obtain ⟨t, rfl⟩ := rx; exact SeqAt.EqAt.bool_str a b t
    | _ => exact absurd (show false = true from fx) Bool.false_ne_true
  | int a =>
    obtain ⟨t', rfl⟩ := ry
    cases x with
    | non => cases rx; exact SeqAt.EqAt.int_none a t'
    | bl b => cases rx; exact SeqAt.EqAt.int_bool a t' b
    | int b => obtain ⟨t, rfl⟩ := rx; exact SeqAt.EqAt.int_int a t' b t
    | str b => obtain ⟨t, rfl⟩ := rx; exact SeqAt.EqAt.int_str a t' b t
    | _ => exact absurd (show false = true from fx) Bool.false_ne_true
  | str a =>
    obtain ⟨t', rfl⟩ := ry
    cases x with
    | non => cases rx; exact SeqAt.EqAt.str_none a t'
    | bl b => cases rx; exact SeqAt.EqAt.str_bool a t' b
    | int b => obtain ⟨t, rfl⟩ := rx; exact SeqAt.EqAt.str_int a t' b t
    | str b => obtain ⟨t, rfl⟩ := rx; exact SeqAt.EqAt.str_str a t' b t
    | _ => exact absurd (show false = true from fx) Bool.false_ne_true
  | _ => exact absurd (show false = true from fy) Bool.false_ne_true
def eqU (x : V) (u : Value) : Bool := match u with
  | .none => eqV .non x
  | .bool b => eqV (.bl b) x
  | .int i _ => eqV (.int i) x
  | .str z _ => eqV (.str z) x
  | _ => false
theorem eqU_of {x y : V} {u : Value} (r : RelV y u) (f : flatV y = true) : eqU x u = eqV y x := by
  cases y with
  | non => cases r; rfl
  | bl b => cases r; rfl
  | int i => obtain ⟨t, rfl⟩ := r; rfl
  | str z => obtain ⟨t, rfl⟩ := r; rfl
  | _ => exact absurd (show false = true from f) Bool.false_ne_true
theorem any_eqU {x : V} : ∀ {xs : List V} {us : List Value}, Vals xs us → xs.all flatV = true → us.any (eqU x) = xs.any fun y => eqV y x
  | _, _, .nil, _ => rfl
  | y :: xs, u :: us, .cons r t, f => by
    rw [List.all_cons, Bool.and_eq_true] at f
    rw [List.any_cons, List.any_cons, eqU_of r f.1, any_eqU t f.2]
theorem mem_eqAt {A : Around} {s : Shared} {x : V} {v : Value} (rx : RelV x v) (fx : flatV x = true) : ∀ {xs : List V} {us : List Value}, Vals xs us → xs.all flatV = true → ∀ u ∈ us, SeqAt.EqAt A s u v (eqU x u)
  | _, _, .nil, _ => fun u hu => by cases hu
  | y :: xs, u :: us, .cons r t, f => fun u' hu => by
    rw [List.all_cons, Bool.and_eq_true] at f
    rcases List.mem_cons.mp hu with rfl | hu
    · rw [eqU_of r f.1]; exact eqAt_V r rx f.1 fx
    · exact mem_eqAt rx fx t f.2 u' hu
def inV (x : V) (xs : List V) : Bool := xs.any fun y => eqV y x
def rIn (K : PySem.W.Frag) (neg : Bool) : R2 := fun x y H Q => ∃ p xs, y = .ref p ∧ (SqL K H p xs ∨ SqT K H p xs) ∧ flatV x = true ∧ xs.all flatV = true ∧ Q (.bl (if neg then !inV x xs else inV x xs)) H
theorem op_in_seq : OpR X (compareOp .In) (rIn X.K false) := by
  intro pins s σ H x y v u Q I rx ry h
  obtain ⟨p, xs, rfl, hq, fx, fs, q⟩ := h
  cases ry
  rcases hq with hq | hq
  · obtain ⟨its, r, pl, hz⟩ := I.list hq
    refine SeqAt.in_listAt (eqU x) pl.isList (fun w hw => mem_eqAt rx fx r fs w (by simpa using hw)) ⟨.bl _, H, I, rfl, ?_⟩
    rw [show its.toArray.any (eqU x) = its.any (eqU x) by simp, any_eqU r fs]
    exact q
  · obtain ⟨its, r, pl, hz⟩ := I.tuple hq
    refine SeqAt.in_tupleAt (eqU x) pl (fun w hw => mem_eqAt rx fx r fs w (by simpa using hw)) ⟨.bl _, H, I, rfl, ?_⟩
    rw [show its.toArray.any (eqU x) = its.any (eqU x) by simp, any_eqU r fs]
    exact q
theorem call_len_seq : CallR X (.builtin "len") (fun xs H Q => ∃ p ys, xs = [.ref p] ∧ (SqL X.K H p ys ∨ SqT X.K H p ys) ∧ Q (.int ys.length) H) := by
  intro pins s σ H xs us Q I r h
  obtain ⟨p, ys, rfl, hq, q⟩ := h
  obtain ⟨u, rfl, rx⟩ := vals1 r
  cases rx
  have hn := line63
  rcases hq with hq | hq
  · obtain ⟨its, r', pl, hz⟩ := I.list hq
    have hlen := r'.length
    exact Calls.call_len_list pl.isList (by simp only [List.size_toArray] <;> omega) ⟨.int ys.length, H, I.tok _, ⟨s.toks + 1, by rw [List.size_toArray, hlen]⟩, q⟩
  · obtain ⟨its, r', pl, hz⟩ := I.tuple hq
    have hlen := r'.length
    exact len_tuple pl (by simp only [List.size_toArray] <;> omega) ⟨.int ys.length, H, I.tok _, ⟨s.toks + 1, by rw [List.size_toArray, hlen]⟩, q⟩
theorem call_len_str : CallR X (.builtin "len") (fun xs H Q => ∃ z, xs = [.str z] ∧ z.length ≤ sizeLine ∧ Q (.int z.length) H) := by
  intro pins s σ H xs us Q I r h
  obtain ⟨z, rfl, hz, q⟩ := h
  obtain ⟨u, rfl, t, rfl⟩ := vals1 r
  have hn := line63
  exact len_str (by omega) ⟨.int z.length, H, I.tok _, ⟨_, rfl⟩, q⟩
theorem call_list_of : CallR X (.type "list") (fun xs H Q => ∃ p ys, xs = [.ref p] ∧ (SqL X.K H p ys ∨ SqT X.K H p ys) ∧ ∀ l, H l = none → Q (.ref l) (upd H l (.lst ys))) := by
  intro pins s σ H xs us Q I r h
  obtain ⟨p, ys, rfl, hq, q⟩ := h
  obtain ⟨u, rfl, rx⟩ := vals1 r
  cases rx
  have fin : ∀ (its : List Value), Vals ys its → ys.length ≤ sizeLine → ∀ (h' : Heap) (c' : Nat), (∀ b o', s.heap.get? b = some o' → h'.get? b = some o') →
      h'.get? s.heap.objs.size = some { cls := .type "list", dict := none, data := .seq its.toArray c', slots := #[] } → EP X pins σ Q (.ref s.heap.objs.size) { s with heap := h' } := fun its r' hz h' c' kp e =>
    ⟨.ref s.heap.objs.size, _, I.laid (t' := s.toks) kp (Nat.le_refl _) (show ObjOk X.prog X.w _ h' _ (.lst ys) from ⟨hz, its, c', r', e⟩), rfl, q _ (I.hok.fresh (Nat.le_refl _))⟩
  rcases hq with hq | hq
  · obtain ⟨its, r', pl, hz⟩ := I.list hq
    have hlen := r'.length
    obtain ⟨o, ho, hc, n, hd⟩ := pl.isList
    exact call_list_seq p (.inl rfl) ho hc hd (fun h' c' kp e => fin its r' hz h' c' kp e) (by simp only [List.size_toArray] <;> omega)
  · obtain ⟨its, r', pl, hz⟩ := I.tuple hq
    have hlen := r'.length
    obtain ⟨o, ho, hc, n, hd⟩ := pl
    exact call_list_seq p (.inr rfl) ho hc hd (fun h' c' kp e => fin its r' hz h' c' kp e) (by simp only [List.size_toArray] <;> omega)
theorem call_tuple_of : CallR X (.type "tuple") (fun xs H Q => ∃ p ys, xs = [.ref p] ∧ ((SqL X.K H p ys ∧ ∀ l, H l = none → Q (.ref l) (upd H l (.tup ys))) ∨ (SqT X.K H p ys ∧ Q (.ref p) H))) := by
  intro pins s σ H xs us Q I r h
  obtain ⟨p, ys, rfl, h⟩ := h
  obtain ⟨u, rfl, rx⟩ := vals1 r
  cases rx
  rcases h with ⟨hq, q⟩ | ⟨hq, q⟩
  · obtain ⟨its, r', pl, hz⟩ := I.list hq
    have hlen := r'.length
    refine call_tuple_list pl.isList (fun h' kp => ?_) (by simp only [List.size_toArray] <;> omega)
    have I1 : Inv X pins σ H { s with heap := h' } := I.kept (t' := s.toks) kp
    have I2 : Inv X pins σ (upd H h'.objs.size (.tup ys)) { s with heap := h'.push { cls := .type "tuple", data := .seq its.toArray } } :=
      I1.laid (t' := s.toks) (fun b o e => Heap.get?_push_of_some _ e) (Nat.le_refl _) (show ObjOk X.prog X.w _ _ _ (.tup ys) from ⟨hz, its, r', TupD.new _ _⟩)
    exact ⟨.ref h'.objs.size, _, I2, rfl, q _ (I1.hok.fresh (Nat.le_refl _))⟩
  · obtain ⟨its, r', pl, hz⟩ := I.tuple hq
    exact call_tuple_same pl ⟨.ref p, H, I, rfl, q⟩
def tyV (K : PySem.W.Frag) (T : String) (x : V) (H : Hp) : Prop := match x with
  | .str _ => T = "str"
  | .int _ => T = "int"
  | .ref p => (T = "list" ∧ ∃ xs, SqL K H p xs) ∨ (T = "tuple" ∧ ∃ o, K.lookup p = some o ∧ o.cls = .type "tuple" ∧ o.dict = none) ∨
      (T = "dict" ∧ ((∃ kvs, H p = some (.dK kvs)) ∨ ∃ kvs, H p = some (.dT kvs))) ∨ (T = "set" ∧ ∃ S n, H p = some (.set S n))
  | _ => False
theorem tyV_is {pins : List (Addr × Obj)} {σ : St} {H : Hp} {s : Shared} {T : String} {x : V} {v : Value} (I : Inv X pins σ H s) (r : RelV x v) (ty : tyV X.K T x H) :
    s.TypeIs v T ∧ ∀ a, v = .ref a → ∃ ob, s.heap.get? a = some ob ∧ ob.dict = none := by
  cases x with
  | str z =>
    obtain ⟨t, rfl⟩ := r
    cases (show T = "str" from ty)
    exact ⟨typeIs_str s z t, fun _ e => nomatch e⟩
  | int i =>
    obtain ⟨t, rfl⟩ := r
    cases (show T = "int" from ty)
    exact ⟨typeIs_int s i t, fun _ e => nomatch e⟩
  | ref p =>
    cases r
    rcases ty with ⟨rfl, xs, hq⟩ | ⟨rfl, o, hk, hc, hd⟩ | ⟨rfl, hk⟩ | ⟨rfl, S, n, hk⟩
    · obtain ⟨its, _, pl, _⟩ := I.list hq
      refine ⟨pl.isList.typeIs, fun a e => ?_⟩
      cases e
      obtain ⟨o, n, e, c, hd, _⟩ := pl
      exact ⟨o, e, hd⟩
    · refine ⟨⟨o, I.kIn p o hk, hc⟩, fun a e => ?_⟩
      cases e
      exact ⟨o, I.kIn _ o hk, hd⟩
    · have z : ∃ o, s.heap.get? p = some o ∧ o.ExactDict := by
        rcases hk with ⟨kvs, hk⟩ | ⟨kvs, hk⟩
        · obtain ⟨_, _, _, _, o, _, _, e, ex, _⟩ := I.hok p _ hk
          exact ⟨o, e, ex⟩
        · obtain ⟨_, _, _, _, o, _, _, e, ex, _⟩ := I.hok p _ hk
          exact ⟨o, e, ex⟩
      obtain ⟨o, e, ex⟩ := z
      refine ⟨⟨o, e, ex.1⟩, fun a e2 => ?_⟩
      cases e2
      exact ⟨o, e, ex.2.1⟩
    · obtain ⟨o, _, _, _, e, ex, _⟩ := I.hok p _ hk
      refine ⟨⟨o, e, ex.1⟩, fun a e2 => ?_⟩
      cases e2
      exact ⟨o, e, ex.2.1⟩
  | _ => exact False.elim ty
def tBM0 (K : PySem.W.Frag) (T : String) (r : V → List V → Hp → VK → Prop) (to : TE) : TE := fun σ H Q => to σ H fun x H1 => tyV K T x H1 ∧ r x [] H1 Q
def tBM (K : PySem.W.Frag) (T : String) (r : V → List V → Hp → VK → Prop) (to : TE) (t : TA) : TE := fun σ H Q => to σ H fun x H1 => tyV K T x H1 ∧ t σ H1 fun xs H2 => r x xs H2 Q
variable {o e : Expr} {es : List Expr} {to : TE} {t : TA} {name : Str} {apos cpos : Pos} {T id : String} {r : V → List V → Hp → VK → Prop}
theorem pe_bm0 (pa : PlainAttrs T) (slot : Slot T name id) (hty : typeOf (.builtin id) = pure (.type "method_descriptor")) (hm : MtR X id r) (ho : PE X o to)
    (hbase : attributeBase o name X.env (eval o X.env) = eval o X.env := by rfl) (hline : (apos.endLine == cpos.line) = true := by rfl) : PE X (.Call (.Attribute o name apos) [] [] cpos) (tBM0 X.K T r to) := by
  intro pins s σ H Q I h
  refine wpAny_Call_method0_late hbase hline (thn (ho pins s σ H _ I h) fun v s1 ⟨x, H1, I1, r1, ty, q1⟩ => ?_)
  obtain ⟨h1, h2⟩ := tyV_is I1 r1 ty
  exact ⟨T, id, pa, slot, hty, h1, h2, Calls.callWith_builtin rfl (PySem.evalArgs_none (hm pins s1 σ H1 x [] v [] Q I1 r1 .nil q1))⟩
theorem pe_bm (pa : PlainAttrs T) (slot : Slot T name id) (hty : typeOf (.builtin id) = pure (.type "method_descriptor")) (hm : MtR X id r) (ho : PE X o to) (ha : PA X (e :: es) t)
    (hbase : attributeBase o name X.env (eval o X.env) = eval o X.env := by rfl)
    (hfew : ((backTo cpos (starEach (e :: es) X.env)).all (fun x => !x.1) && (backToKw cpos (keywordEach [] X.env)).all (fun x => x.1.isSome)
      && decide ((e :: es).length + ([] : List Keyword).length + (if ([] : List Keyword).isEmpty then 0 else 1) < 30)) = true := by rfl)
    (hline : (apos.endLine == cpos.line) = true := by rfl) (hs : starEach (e :: es) X.env = (false, eval e X.env) :: starEach es X.env := by rfl) (hplain : (backTo cpos (starEach es X.env)).any (·.1) = false := by rfl) :
    PE X (.Call (.Attribute o name apos) (e :: es) [] cpos) (tBM X.K T r to t) := by
  intro pins s σ H Q I h
  refine wpAny_Call_method_late hbase hfew hline rfl (thn (ho pins s σ H _ I h) fun v s1 ⟨x, H1, I1, r1, ty, q1⟩ => ?_)
  obtain ⟨h1, h2⟩ := tyV_is I1 r1 ty
  refine ⟨T, id, pa, slot, hty, h1, h2, ?_⟩
  have hA := ha cpos pins s1 σ H1 _ I1 q1
  rw [hs] at hA ⊢
  refine Calls.callWith_builtin (by show (false || (backTo cpos (starEach es X.env)).any (·.1)) = false; rw [hplain] <;> rfl) (Calls.evalArgs_plain ?_)
  exact thn hA fun us s2 ⟨vs, H2, I2, r2, q2⟩ => hm pins s2 σ H2 x vs v us Q I2 r1 r2 q2
end
end L2
namespace L2
open PySem PySem.Spec PyProof.Rows
def MtM (X : Cx) (id : String) (r : V → List V → Hp → VK → Prop) : Prop :=
  ∀ (pins : List (Addr × Obj)) (s : Shared) (σ : St) (H : Hp) (x : V) (xs : List V) (v : Value) (us : List Value) (Q : VK), Inv X pins σ H s → RelV x v → Vals xs us → r x xs H Q →
    wpAny (model X.prog X.w) X.A (call (.builtin id) (v :: us)) (EP X pins σ Q) X.xe s
theorem Vals.one : ∀ {x : V} {us : List Value}, Vals [x] us → ∃ u, us = [u] ∧ RelV x u
  | _, _, .cons r .nil => ⟨_, rfl, r⟩
section
variable {X : Cx} {pins : List (Addr × Obj)} {σ : St} {H : Hp} {s : Shared} {l b : Addr} {xs ys zs : List V}
theorem Inv.lset {its its' : List Value} {n : Nat} {f : Array Value → Array Value} {t' : Nat} (I : Inv X pins σ H s) (hH : H l = some (.lst xs))
    (e : s.heap.get? l = some { cls := .type "list", data := .seq its.toArray n }) (hf : f its.toArray = its'.toArray) (hv : Vals ys its') (hz : ys.length ≤ sizeLine) :
    Inv X pins σ (upd H l (.lst ys)) { s with heap := s.heap.update l (Obj.mapSeq f), toks := t' } := by
  have q := PySem.IsL.update e f
  rw [hf] at q
  refine I.write (x := l) (e := l) (by rw [hH]; exact trivial) (.inl rfl) (fun b' u hb hu => (Heap.get?_update_other s.heap (Obj.mapSeq f) (Ne.symm hb)).trans hu) ⟨_, q⟩ ?_
  exact ⟨hz, its', _, hv, q⟩
theorem Inv.lnew {its : List Value} {t' : Nat} (I : Inv X pins σ H s) (hv : Vals ys its) (hz : ys.length ≤ sizeLine) :
    Inv X pins σ (upd H s.heap.objs.size (.lst ys)) { s with heap := s.heap.push { cls := .type "list", data := .seq its.toArray }, toks := t' } :=
  I.laid (fun _ _ q => Heap.get?_push_of_some _ q) (Nat.le_refl _) ⟨hz, its, 0, hv, Heap.get?_push_size _ rfl⟩
theorem Inv.fresh (I : Inv X pins σ H s) : H s.heap.objs.size = none := I.hok.fresh (Nat.le_refl _)
theorem Inv.lstM (I : Inv X pins σ H s) (hH : H l = some (.lst xs)) : xs.length ≤ sizeLine ∧ ∃ (its : List Value) (n : Nat), Vals xs its ∧ xs.length = its.length ∧ s.heap.get? l = some { cls := .type "list", data := .seq its.toArray n } := by
  obtain ⟨z, its, n, r, e⟩ := I.hok l _ hH
  exact ⟨z, its, n, r, r.length, e⟩
end
section
variable {X : Cx}
def rAppend : V → List V → Hp → VK → Prop := fun x vs H Q => ∃ l xs y, x = .ref l ∧ vs = [y] ∧ H l = some (.lst xs) ∧ xs.length < sizeLine ∧ Q .non (upd H l (.lst (xs ++ [y])))
theorem mt_append : MtM X "list.append" rAppend := by
  intro pins s σ H x vs v us Q I rx rv h
  obtain ⟨l, xs, y, rfl, rfl, hH, hz, q⟩ := h
  cases rx
  obtain ⟨u, rfl, ru⟩ := rv.one
  obtain ⟨z, its, n, r, hl, e⟩ := I.lstM hH
  refine call_meets F.slot_list_append ⟨_, e, rfl⟩ F.entry_list_append (F.args_list_append_2 _ _) (PySem.list_append l its.toArray n u (by rw [List.size_toArray]; omega)) ⟨e, ?_⟩
  refine ⟨.non, _, I.lset (its' := its ++ [u]) hH e (by simp) (r.append (.cons ru .nil)) ?_, rfl, q⟩
  rw [List.length_append, List.length_singleton]
  omega
def rCat : R2 := fun x y H Q => ∃ l b xs zs, x = .ref l ∧ y = .ref b ∧ H l = some (.lst xs) ∧ H b = some (.lst zs) ∧ xs.length + zs.length ≤ sizeLine ∧ ∀ p, H p = none → Q (.ref p) (upd H p (.lst (xs ++ zs)))
theorem op_cat : OpR X (binaryOp .Add) rCat := by
  intro pins s σ H x y v u Q I rx ry h
  obtain ⟨l, b, xs, zs, rfl, rfl, hH, hB, hz, q⟩ := h
  cases rx
  cases ry
  obtain ⟨z, its, n, r, hl, e⟩ := I.lstM hH
  obtain ⟨z2, its2, n2, r2, hl2, e2⟩ := I.lstM hB
  refine PySem.P.add_list e e2 ?_ (by rw [List.size_toArray, List.size_toArray]; omega)
  have ea : its.toArray ++ its2.toArray = (its ++ its2).toArray := by simp
  rw [ea]
  exact ⟨.ref _, _, I.lnew (t' := s.toks) (r.append r2) (by rw [List.length_append]; omega), rfl, q _ I.fresh⟩
theorem len_rep {α : Type} (xs : List α) (k : Nat) : (List.replicate k xs).flatten.length = k * xs.length := by
  induction k with
  | zero => simp
  | succ k ih => rw [List.replicate_succ, List.flatten_cons, List.length_append, ih, Nat.succ_mul, Nat.add_comm]
end
section
variable {prog : Program} {w : World} {A : Around} {E : Value → Shared → Prop} {s : Shared}
set_option maxRecDepth 100000 in
end
section
variable {X : Cx}
end
end L2
namespace L2
open PySem PySem.Spec PyProof.Rows
section
variable {κ : Type} [DecidableEq κ]
def valV (kvs : List (κ × V)) (k : κ) : Option V := (kvs.find? fun kv => decide (kv.1 = k)).map (·.2)
def putK (kvs : List (κ × V)) (k : κ) (v : V) : List (κ × V) :=
  if (kvs.any fun kv => decide (kv.1 = k)) = true then kvs.map (fun kv => if kv.1 = k then (kv.1, v) else kv) else kvs ++ [(k, v)]
theorem valV_pos {p : κ × V} {r : List (κ × V)} {k : κ} (e : p.1 = k) : valV (p :: r) k = some p.2 := by simp [valV, List.find?_cons, e]
theorem valV_neg {p : κ × V} {r : List (κ × V)} {k : κ} (e : ¬ p.1 = k) : valV (p :: r) k = valV r k := by simp [valV, List.find?_cons, e]
theorem valV_any (k : κ) : ∀ kvs : List (κ × V), (kvs.any fun kv => decide (kv.1 = k)) = (valV kvs k).isSome
  | [] => rfl
  | p :: r => by
    rw [List.any_cons]
    by_cases e : p.1 = k
    · simp only [valV_pos e, decide_eq_true e, Bool.true_or, Option.isSome_some]
    · rw [valV_neg e, decide_eq_false e, Bool.false_or]; exact valV_any k r
theorem valV_map (k j : κ) (y : V) : ∀ kvs : List (κ × V), valV (kvs.map fun kv => if kv.1 = k then (kv.1, y) else kv) j = (valV kvs j).map fun x => if j = k then y else x
  | [] => rfl
  | p :: r => by
    have ih := valV_map k j y r
    rw [List.map_cons]
    by_cases h : p.1 = k
    · rw [if_pos h]
      by_cases e : p.1 = j
      · rw [valV_pos (p := (p.1, y)) e, valV_pos e, Option.map_some, if_pos (e.symm.trans h)]
      · rw [valV_neg (p := (p.1, y)) e, valV_neg e, ih]
    · rw [if_neg h]
      by_cases e : p.1 = j
      · rw [valV_pos (p := p) e, valV_pos e, Option.map_some, if_neg (fun z => h (e.trans z))]
      · rw [valV_neg (p := p) e, valV_neg e, ih]
theorem valV_snoc (k j : κ) (y : V) : ∀ kvs : List (κ × V), valV kvs k = none → valV (kvs ++ [(k, y)]) j = if j = k then some y else valV kvs j
  | [], _ => by
    by_cases e : k = j
    · rw [if_pos e.symm]; exact valV_pos (p := (k, y)) e
    · rw [if_neg (fun z => e z.symm)]; exact valV_neg (p := (k, y)) e
  | p :: r, hn => by
    rw [List.cons_append]
    have hk : ¬ p.1 = k := fun z => by rw [valV_pos z] at hn; cases hn
    rw [valV_neg hk] at hn
    have ih := valV_snoc k j y r hn
    by_cases e : p.1 = j
    · rw [valV_pos e, valV_pos e, if_neg (fun z => hk (e.trans z))]
    · rw [valV_neg e, valV_neg e, ih]
theorem valV_put (kvs : List (κ × V)) (k j : κ) (y : V) : valV (putK kvs k y) j = if j = k then some y else valV kvs j := by
  unfold putK
  by_cases a : (kvs.any fun kv => decide (kv.1 = k)) = true
  · rw [if_pos a, valV_map]
    rw [valV_any] at a
    by_cases e : j = k
    · obtain ⟨x, hx⟩ := Option.isSome_iff_exists.mp a
      rw [if_pos e, e, hx, Option.map_some, if_pos rfl]
    · rw [if_neg e]
      cases valV kvs j with
      | none => rfl
      | some x => rw [Option.map_some, if_neg e]
  · rw [if_neg a]
    refine valV_snoc k j y kvs ?_
    rw [valV_any] at a
    cases q : valV kvs k with
    | none => rfl
    | some x => rw [q] at a; exact (a rfl).elim
theorem length_putK (kvs : List (κ × V)) (k : κ) (v : V) : (putK kvs k v).length ≤ kvs.length + 1 := by
  unfold putK
  split
  · rw [List.length_map]; omega
  · rw [List.length_append, List.length_cons, List.length_nil]; omega
theorem putK_new {kvs : List (κ × V)} {k : κ} (v : V) (h : valV kvs k = none) : putK kvs k v = kvs ++ [(k, v)] := by
  unfold putK
  rw [valV_any, h]
  exact if_neg (by decide)
theorem RelO.isSome_eq {o : Option V} {u : Option Value} (r : RelO o u) : o.isSome = u.isSome := by
  cases o with
  | none => cases u with
    | none => rfl
    | some _ => exact (show False from r).elim
  | some _ => cases u with
    | none => exact (show False from r).elim
    | some _ => rfl
theorem KV.val {kvs : List (κ × V)} {vs : List (κ × Value)} (r : KV kvs vs) (k : κ) : RelO (valV kvs k) (valueAt vs k) := by
  unfold KV at r
  induction r with
  | nil => exact True.intro
  | @cons p q ps qs h t ih =>
    obtain ⟨h1, h2⟩ := h
    by_cases e : p.1 = k
    · have e' : q.1 = k := h1.symm.trans e
      have b : valueAt (q :: qs) k = some q.2 := by simp [valueAt, List.find?_cons, e']
      rw [valV_pos e, b]; exact h2
    · have e' : ¬ q.1 = k := fun z => e (h1.trans z)
      have b : valueAt (q :: qs) k = valueAt qs k := by simp [valueAt, List.find?_cons, e']
      rw [valV_neg e, b]; exact ih
theorem KV.any {kvs : List (κ × V)} {vs : List (κ × Value)} (r : KV kvs vs) (k : κ) : (kvs.any fun kv => decide (kv.1 = k)) = vs.any fun kv => decide (kv.1 = k) := by
  unfold KV at r
  induction r with
  | nil => rfl
  | cons h t ih => rw [List.any_cons, List.any_cons, ih, h.1]
theorem KV.repl {kvs : List (κ × V)} {vs : List (κ × Value)} (r : KV kvs vs) (k : κ) {y : V} {u : Value} (ry : RelV y u) :
    KV (kvs.map fun kv => if kv.1 = k then (kv.1, y) else kv) (vs.map fun kv => if kv.1 = k then (kv.1, u) else kv) := by
  unfold KV at r ⊢
  induction r with
  | nil => exact .nil
  | @cons p q ps qs h t ih =>
    rw [List.map_cons, List.map_cons]
    refine .cons ?_ ih
    obtain ⟨h1, h2⟩ := h
    by_cases e : p.1 = k
    · rw [if_pos e, if_pos (h1.symm.trans e)]; exact ⟨h1, ry⟩
    · rw [if_neg e, if_neg (fun z => e (h1.trans z))]; exact ⟨h1, h2⟩
theorem KV.put {kvs : List (κ × V)} {vs : List (κ × Value)} (r : KV kvs vs) (k : κ) {y : V} {u : Value} (ry : RelV y u) : KV (putK kvs k y) (stored vs k u) := by
  unfold putK stored
  rw [r.any k]
  by_cases e : (vs.any fun kv => decide (kv.1 = k)) = true
  · rw [if_pos e, if_pos e]; exact r.repl k ry
  · rw [if_neg e, if_neg e]; exact Paired.snoc r ⟨rfl, ry⟩
theorem KV.keys {kvs : List (κ × V)} {vs : List (κ × Value)} (r : KV kvs vs) : kvs.map (·.1) = vs.map (·.1) := by
  unfold KV at r
  induction r with
  | nil => rfl
  | cons h t ih => rw [List.map_cons, List.map_cons, ih, h.1]
theorem KV.length {kvs : List (κ × V)} {vs : List (κ × Value)} (r : KV kvs vs) : kvs.length = vs.length := Paired.length r
end
theorem kV_is {P : Program} {w : World} {k : Key} {u : Value} (r : RelV (kV k) u) : (mixKind P w).is k u = true := by
  cases k with
  | inl i => obtain ⟨t, e⟩ := (show ∃ t, u = Value.int i t from r); subst e; exact mixKind_int P w i t
  | inr x => obtain ⟨t, e⟩ := (show ∃ t, u = Value.str x t from r); subst e; exact mixKind_str P w x t
theorem items_are {P : Program} {w : World} : ∀ {ks : List Key} {us : List Value}, Vals (ks.map kV) us → ItemsAre (mixKind P w) ks us
  | [], _, r => by rw [List.map_nil] at r; cases r; exact .nil
  | k :: ks, _, r => by
    rw [List.map_cons] at r
    cases r with
    | cons h t => exact .cons (kV_is h) (items_are t)
abbrev KT (H : Hp) : List (List Key × V) → List (List Key × Addr × Value) → Prop := Paired fun p q => p.1 = q.1 ∧ H q.2.1 = some (.tup (p.1.map kV)) ∧ RelV p.2 q.2.2
theorem KT.val {H : Hp} {kvs : List (List Key × V)} {xs : List (List Key × Addr × Value)} (r : KT H kvs xs) (k : List Key) : RelO (valV kvs k) ((atKey xs k).map (·.2)) := by
  induction r with
  | nil => exact True.intro
  | @cons p q ps qs h t ih =>
    obtain ⟨h1, _, h2⟩ := h
    by_cases e : p.1 = k
    · have e' : q.1 = k := h1.symm.trans e
      have b : atKey (q :: qs) k = some q.2 := by simp [atKey, List.find?_cons, e']
      rw [valV_pos e, b]; exact h2
    · have e' : ¬ q.1 = k := fun z => e (h1.trans z)
      have b : atKey (q :: qs) k = atKey qs k := by simp [atKey, List.find?_cons, e']
      rw [valV_neg e, b]; exact ih
theorem KT.repl {H : Hp} {kvs : List (List Key × V)} {xs : List (List Key × Addr × Value)} (r : KT H kvs xs) (k : List Key) {y : V} {u : Value} (ry : RelV y u) :
    KT H (kvs.map fun kv => if kv.1 = k then (kv.1, y) else kv) (xs.map (putAt k u)) := by
  induction r with
  | nil => exact .nil
  | @cons p q ps qs h t ih =>
    rw [List.map_cons, List.map_cons]
    refine .cons ?_ ih
    obtain ⟨h1, h2, h3⟩ := h
    unfold putAt
    by_cases e : p.1 = k
    · rw [if_pos e, if_pos (h1.symm.trans e)]; exact ⟨h1, h2, ry⟩
    · rw [if_neg e, if_neg (fun z => e (h1.trans z))]; exact ⟨h1, h2, h3⟩
theorem KT.put {H : Hp} {kvs : List (List Key × V)} {xs : List (List Key × Addr × Value)} (r : KT H kvs xs) (k : List Key) {b : Addr} {y : V} {u : Value} (hb : H b = some (.tup (k.map kV))) (ry : RelV y u) :
    KT H (putK kvs k y) (storedH xs k b u) := by
  have e : (kvs.any fun kv => decide (kv.1 = k)) = (atKey xs k).isSome := by
    rw [valV_any, (r.val k).isSome_eq, Option.isSome_map]
  unfold putK storedH
  rw [e]
  by_cases q : (atKey xs k).isSome = true
  · rw [if_pos q, if_pos q]; exact r.repl k ry
  · rw [if_neg q, if_neg q]; exact Paired.snoc r ⟨rfl, hb, ry⟩
theorem KT.keeps {H H' : Hp} {kvs : List (List Key × V)} {xs : List (List Key × Addr × Value)} (r : KT H kvs xs) (ht : ∀ b ys, H b = some (.tup ys) → H' b = some (.tup ys)) : KT H' kvs xs :=
  Paired.mapP r fun _ _ z => ⟨z.1, ht _ _ z.2.1, z.2.2⟩
section
variable {P : Program} {w : World} {H : Hp} {h : Heap} {a : Addr}
theorem rd_of {u : HO} (ok : HOk P w H h) (e : Rd H a u) : ObjOk P w H h a u := e.ok ok
theorem dk_rd {kvs : List (Key × V)} (ok : HOk P w H h) (e : Rd H a (.dK kvs)) : kvs.length ≤ sizeLine ∧ (a == sysModules) = false ∧ ∃ vs, KV kvs vs ∧ h.DictOf (mixKind P w) a vs :=
  show ObjOk P w H h a (.dK kvs) from rd_of ok e
theorem dk_of {kvs : List (Key × V)} (ok : HOk P w H h) (e : H a = some (.dK kvs)) : kvs.length ≤ sizeLine ∧ (a == sysModules) = false ∧ ∃ vs, KV kvs vs ∧ h.DictOf (mixKind P w) a vs := dk_rd ok (.inl e)
theorem key_of {ks : List Key} (ok : HOk P w H h) (e : H a = some (.tup (ks.map kV))) : (tupleKind (mixKind P w)).is h ks a := by
  obtain ⟨_, its, r, o, h1, _, h2, n, h3⟩ := (show ObjOk P w H h a (.tup (ks.map kV)) from ok a _ e)
  exact ⟨o, its.toArray, n, h1, h2, h3, by simpa using items_are r⟩
theorem dt_rd {kvs : List (List Key × V)} (ok : HOk P w H h) (e : Rd H a (.dT kvs)) : kvs.length ≤ sizeLine ∧ (a == sysModules) = false ∧
    ∃ xs, KT H kvs xs ∧ h.DictOfH (tupleKind (mixKind P w)) a xs := by
  obtain ⟨z, y, xs, r, o, es, ep, h1, h2, h3, h4, h5⟩ := (show ObjOk P w H h a (.dT kvs) from rd_of ok e)
  refine ⟨z, y, xs, r, o, es, ep, h1, h2, h3, h4, fun x hx => ?_, h5⟩
  have all : ∀ {l : List (List Key × V)} {m : List (List Key × Addr × Value)}, KT H l m → ∀ x ∈ m, (tupleKind (mixKind P w)).is h x.1 x.2.1 := by
    intro l m q
    induction q with
    | nil => intro x hx; exact nomatch hx
    | @cons p q ps qs hq t ih =>
      intro x hx
      rcases List.mem_cons.mp hx with e | hx
      · subst e
        exact key_of ok (by rw [← hq.1]; exact hq.2.1)
      · exact ih x hx
  exact all r x hx
theorem dt_of {kvs : List (List Key × V)} (ok : HOk P w H h) (e : H a = some (.dT kvs)) : kvs.length ≤ sizeLine ∧ (a == sysModules) = false ∧
    ∃ xs, KT H kvs xs ∧ h.DictOfH (tupleKind (mixKind P w)) a xs := dt_rd ok (.inl e)
end
def DGet (H : Hp) (a : Addr) (y : V) (r : Option V) : Prop :=
  (∃ kvs k, Rd H a (.dK kvs) ∧ y = kV k ∧ r = valV kvs k) ∨ ∃ kvs k b, Rd H a (.dT kvs) ∧ y = .ref b ∧ H b = some (.tup (k.map kV)) ∧ r = valV kvs k
def DPut (H : Hp) (a : Addr) (y v : V) (H' : Hp) : Prop :=
  (∃ kvs k, H a = some (.dK kvs) ∧ y = kV k ∧ kvs.length < sizeLine ∧ H' = upd H a (.dK (putK kvs k v))) ∨
  ∃ kvs k b, H a = some (.dT kvs) ∧ y = .ref b ∧ H b = some (.tup (k.map kV)) ∧ kvs.length < sizeLine ∧ H' = upd H a (.dT (putK kvs k v))
theorem DGet.k {H : Hp} {a : Addr} {kvs : List (Key × V)} {k : Key} (e : H a = some (.dK kvs)) : DGet H a (kV k) (valV kvs k) := .inl ⟨kvs, k, .inl e, rfl, rfl⟩
theorem DGet.t {H : Hp} {a b : Addr} {kvs : List (List Key × V)} {k : List Key} (e : H a = some (.dT kvs)) (eb : H b = some (.tup (k.map kV))) : DGet H a (.ref b) (valV kvs k) := .inr ⟨kvs, k, b, .inl e, rfl, eb, rfl⟩
theorem DPut.k {H : Hp} {a : Addr} {kvs : List (Key × V)} {k : Key} {v : V} (e : H a = some (.dK kvs)) (hl : kvs.length < sizeLine) : DPut H a (kV k) v (upd H a (.dK (putK kvs k v))) := .inl ⟨kvs, k, e, rfl, hl, rfl⟩
theorem DPut.t {H : Hp} {a b : Addr} {kvs : List (List Key × V)} {k : List Key} {v : V} (e : H a = some (.dT kvs)) (eb : H b = some (.tup (k.map kV))) (hl : kvs.length < sizeLine) :
    DPut H a (.ref b) v (upd H a (.dT (putK kvs k v))) := .inr ⟨kvs, k, b, e, rfl, eb, hl, rfl⟩
section
variable {X : Cx} {pins : List (Addr × Obj)} {σ : St} {H : Hp} {s : Shared} {a : Addr} {y v : V} {u r : Value} {o : Option V} {A : Around} {E : Value → Shared → Prop}
theorem Inv.big (I : Inv X pins σ H s) : sysModules < s.heap.objs.size := by
  have h : mainGlobals < s.heap.objs.size := (I.mod.glob.keeps I.bk).lt
  exact Nat.lt_trans (by decide) h
theorem d_getItem {Q : Value → Shared → Prop} (hu : A.units + 1 < cLine) (I : Inv X pins σ H s) (g : DGet H a y (some v)) (ry : RelV y u) (h : ∀ w' s', Inv X pins σ H s' → RelV v w' → Q w' s') :
    wpAny (model X.prog X.w) A (getItem (.ref a) u) Q E s := by
  rcases g with ⟨kvs, k, e, ey, l⟩ | ⟨kvs, k, b, e, ey, eb, l⟩
  · subst ey
    obtain ⟨z, hd, vs, rel, dd⟩ := dk_rd I.hok e
    obtain ⟨w', hw, rw'⟩ := RelO.some_of (v := v) (o := valueAt vs k) (by rw [l]; exact rel.val k)
    exact wpAny_getItem_of (kV_is ry) dd.mapOf hw (h w' _ (I.tok _) rw')
  · subst ey
    cases (show u = Value.ref b from ry)
    obtain ⟨z, hd, xs, rel, dd⟩ := dt_rd I.hok e
    obtain ⟨w', hw, rw'⟩ := RelO.some_of (v := v) (o := (atKey xs k).map (·.2)) (by rw [l]; exact rel.val k)
    obtain ⟨p, hp, hp2⟩ := Option.map_eq_some_iff.mp hw
    refine wpAny_getItem_heap (tupleKind_room_in1 hu) (key_of I.hok eb) dd hp ?_
    rw [hp2]
    exact h w' _ (I.tok _) rw'
theorem d_in {Q : Value → Shared → Prop} (hu : A.units + 1 < cLine) (I : Inv X pins σ H s) (g : DGet H a y o) (ry : RelV y u) (h : ∀ s', Inv X pins σ H s' → Q (.bool o.isSome) s') :
    wpAny (model X.prog X.w) A (compareOp .In u (.ref a)) Q E s := by
  rcases g with ⟨kvs, k, e, ey, l⟩ | ⟨kvs, k, b, e, ey, eb, l⟩
  · subst ey
    obtain ⟨z, hd, vs, rel, dd⟩ := dk_rd I.hok e
    refine wpAny_in_of (kV_is ry) hd dd.mapOf ?_
    rw [← (rel.val k).isSome_eq, ← l]
    exact h _ (I.tok _)
  · subst ey
    cases (show u = Value.ref b from ry)
    obtain ⟨z, hd, xs, rel, dd⟩ := dt_rd I.hok e
    refine wpAny_in_heap (tupleKind_room_in1 hu) (key_of I.hok eb) hd dd ?_
    have q := (rel.val k).isSome_eq
    rw [Option.isSome_map] at q
    rw [← q, ← l]
    exact h _ (I.tok _)
theorem d_notIn {Q : Value → Shared → Prop} (hu : A.units + 1 < cLine) (I : Inv X pins σ H s) (g : DGet H a y o) (ry : RelV y u) (h : ∀ s', Inv X pins σ H s' → Q (.bool (!o.isSome)) s') :
    wpAny (model X.prog X.w) A (compareOp .NotIn u (.ref a)) Q E s := by
  rcases g with ⟨kvs, k, e, ey, l⟩ | ⟨kvs, k, b, e, ey, eb, l⟩
  · subst ey
    obtain ⟨z, hd, vs, rel, dd⟩ := dk_rd I.hok e
    refine wpAny_notIn_of (kV_is ry) hd dd.mapOf ?_
    rw [← (rel.val k).isSome_eq, ← l]
    exact h _ (I.tok _)
  · subst ey
    cases (show u = Value.ref b from ry)
    obtain ⟨z, hd, xs, rel, dd⟩ := dt_rd I.hok e
    refine wpAny_notIn_heap (tupleKind_room_in1 hu) (key_of I.hok eb) hd dd ?_
    have q := (rel.val k).isSome_eq
    rw [Option.isSome_map] at q
    rw [← q, ← l]
    exact h _ (I.tok _)
theorem d_write {h' : Heap} {t' : Nat} {ob : HO} (I : Inv X pins σ H s) (mu : Mut (H a)) (hs : Heap.SameBut a s.heap h') (he : ∃ q, h'.get? a = some q) (new : ObjOk X.prog X.w (upd H a ob) h' a ob) :
    Inv X pins σ (upd H a ob) { s with heap := h', toks := t' } :=
  I.write (x := a) (e := a) mu (.inl rfl) (fun b q hb z => (hs.2 b hb).trans z) he new
theorem dk_new {P : Program} {w : World} {H' : Hp} {h' : Heap} {kvs : List (Key × V)} {vs : List (Key × Value)} (z : kvs.length ≤ sizeLine) (hd : (a == sysModules) = false) (rel : KV kvs vs) (dd : h'.DictOf (mixKind P w) a vs) :
    ObjOk P w H' h' a (.dK kvs) := ⟨z, hd, vs, rel, dd⟩
theorem d_setItem {H' : Hp} {Q : Unit → Shared → Prop} (hu : A.units + 1 < cLine) (I : Inv X pins σ H s) (g : DPut H a y v H') (ry : RelV y u) (rv : RelV v r) (h : ∀ s', Inv X pins σ H' s' → Q () s') :
    wpAny (model X.prog X.w) A (setItem (.ref a) u r) Q E s := by
  rcases g with ⟨kvs, k, e, ey, l, eH⟩ | ⟨kvs, k, b, e, ey, eb, l, eH⟩
  · subst ey eH
    obtain ⟨z, hd, vs, rel, dd⟩ := dk_of I.hok e
    have hz : vs.length ≤ sizeLine := by rw [← rel.length]; exact z
    have hl : (putK kvs k v).length ≤ sizeLine := by have := length_putK kvs k v; omega
    refine wpAny_setItem_pairs (hsz := hz) (kV_is ry) dd fun h' dd' hs => h _ ?_
    have he : ∃ q, h'.get? a = some q := let ⟨q, _, _, hq, _⟩ := dd'; ⟨q, hq⟩
    exact d_write I (by rw [e]; exact True.intro) hs he (dk_new hl hd (rel.put k rv) dd')
  · subst ey eH
    cases (show u = Value.ref b from ry)
    obtain ⟨z, hd, xs, rel, dd⟩ := dt_of I.hok e
    have hz : xs.length ≤ sizeLine := by rw [← Paired.length rel]; exact z
    have hl : (putK kvs k v).length ≤ sizeLine := by have := length_putK kvs k v; omega
    refine wpAny_setItem_heap (hsz := hz) (tupleKind_room_in1 hu) (key_of I.hok eb) dd fun h' dd' hs => h _ ?_
    obtain ⟨q, es, ep, hq, h2, h3, h4, _, h5⟩ := dd'
    refine d_write I (by rw [e]; exact True.intro) hs ⟨q, hq⟩ ⟨hl, hd, _, (rel.put k eb rv).keeps fun c ys ec => ?_, q, es, ep, hq, h2, h3, h4, h5⟩
    rw [upd_ne (ne_of ec e (fun z => nomatch z))]
    exact ec
end
section
variable {X : Cx} {pins : List (Addr × Obj)} {σ : St} {H : Hp} {s : Shared} {a : Addr} {kvs : List (Key × V)} {k : Key} {u : Value} {A : Around} {E : Value → Shared → Prop}
end
def NoSl (i : Expr) : Prop := ∀ ov iv, subscripted i false ov iv = operate [ov, iv] (getItem ov iv)
theorem subD_of {prog : Program} {w : World} {A : Around} {E : Value → Shared → Prop} {s : Shared} {env : Env} {value slice : Expr} {pos : Pos} {T id : String} {Q : Value → Shared → Prop}
    (hl : typeLookup (.type T) "__getitem__" = pure (some (.builtin id))) (hs : NoSl slice)
    (h : wpAny (model prog w) A (eval value env) (fun o s₁ => wpAny (model prog w) A (eval slice env) (fun i s₂ => s₂.TypeIs o T ∧ wpAny (model prog w) A (getItem o i) Q E s₂) E s₁) E s) :
    wpAny (model prog w) A (eval (.Subscript value slice pos) env) Q E s := by
  refine Subscript_ (wpAny_mono h (fun o s₁ h₁ => wpAny_mono h₁ (fun i s₂ h₂ => ?_) fun _ _ x => x) fun _ _ x => x)
  obtain ⟨hT, h₂⟩ := h₂
  unfold subscriptTail
  refine wpAny_bind ?_
  rw [getitemInPython_of_ne hT.not_modules]
  refine wpAny_bind (wpAny_specialOf hT hl ?_)
  have fin : wpAny (model prog w) A (subscripted slice false o i) (fun r s₃ => wpAny (model prog w) A (letTemporaryGo value o r >>= fun _ => pure r) Q E s₃) E s₂ := by
    rw [hs o i]
    exact wpAny_operating (wpAny_mono h₂ (fun r s₃ h₃ => wpAny_bind (wpAny_letTemporaryGo (wpAny_pure h₃))) fun _ _ x => x)
  first
    | exact wpAny_pure (wpAny_bind fin)
    | exact wpAny_bind (wpAny_pure (wpAny_bind fin))
    | exact wpAny_bind fin
theorem dict_typeIs {X : Cx} {pins : List (Addr × Obj)} {σ : St} {H : Hp} {s : Shared} {a : Addr} {y : V} {o : Option V} (I : Inv X pins σ H s) (g : DGet H a y o) : s.TypeIs (.ref a) "dict" := by
  rcases g with ⟨kvs, k, e, _, _⟩ | ⟨kvs, k, b, e, _, _, _⟩
  · obtain ⟨_, _, vs, _, dd⟩ := dk_rd I.hok e
    exact dd.typeIs
  · obtain ⟨_, _, xs, _, dd⟩ := dt_rd I.hok e
    exact dd.typeIs
def tDGet (td ty : TE) : TE := fun σ H Q => td σ H fun x H1 => ty σ H1 fun y H2 => ∃ a v, x = .ref a ∧ DGet H2 a y (some v) ∧ Q v H2
def tDIn (ty td : TE) : TE := fun σ H Q => ty σ H fun y H1 => td σ H1 fun x H2 => ∃ a o, x = .ref a ∧ DGet H2 a y o ∧ Q (.bl o.isSome) H2
def tDNotIn (ty td : TE) : TE := fun σ H Q => ty σ H fun y H1 => td σ H1 fun x H2 => ∃ a o, x = .ref a ∧ DGet H2 a y o ∧ Q (.bl (!o.isSome)) H2
def sDPut (td ty tv : TE) : TS := fun D σ H => tv σ H fun v H1 => td σ H1 fun x H2 => ty σ H2 fun y H3 => ∃ a H4, x = .ref a ∧ DPut H3 a y v H4 ∧ D.nx σ H4
section
variable {X : Cx} {o i e value : Expr} {pos pos' tpos : Pos} {td ty tv : TE}
theorem pe_dget (hu : X.A.units + 1 < cLine) (ho : PE X o td) (hi : PE X i ty) (hs : NoSl i) : PE X (.Subscript o i pos) (tDGet td ty) := by
  intro pins s σ H Q I h
  refine subD_of PySem.F.slot_dict_getitem.lookup hs (thn (ho pins s σ H _ I h) fun u s1 ⟨x, H1, I1, rx, q1⟩ => thn (hi pins s1 σ H1 _ I1 q1) fun iv s2 ⟨y, H2, I2, ry, a, v, ex, g, q2⟩ => ?_)
  subst ex
  obtain rfl : u = Value.ref a := rx
  exact ⟨dict_typeIs I2 g, d_getItem hu I2 g ry fun w' s3 I3 rw' => ⟨v, H2, I3, rw', q2⟩⟩
theorem pc_din (hu : X.A.units + 1 < cLine) (hi : PE X i ty) (ho : PE X o td) : PC X .In i o (tDIn ty td) := by
  intro pins s σ H Q I h
  refine thn (hi pins s σ H _ I h) fun iv s1 ⟨y, H1, I1, ry, q1⟩ => thn (ho pins s1 σ H1 _ I1 q1) fun u s2 ⟨x, H2, I2, rx, a, ov, ex, g, q2⟩ => ?_
  subst ex
  obtain rfl : u = Value.ref a := rx
  exact d_in hu I2 g ry fun s3 I3 => ⟨.bl ov.isSome, H2, I3, rfl, q2⟩
theorem pc_dnotin (hu : X.A.units + 1 < cLine) (hi : PE X i ty) (ho : PE X o td) : PC X .NotIn i o (tDNotIn ty td) := by
  intro pins s σ H Q I h
  refine thn (hi pins s σ H _ I h) fun iv s1 ⟨y, H1, I1, ry, q1⟩ => thn (ho pins s1 σ H1 _ I1 q1) fun u s2 ⟨x, H2, I2, rx, a, ov, ex, g, q2⟩ => ?_
  subst ex
  obtain rfl : u = Value.ref a := rx
  exact d_notIn hu I2 g ry fun s3 I3 => ⟨.bl (!ov.isSome), H2, I3, rfl, q2⟩
theorem ps_dput (hu : X.A.units + 1 < cLine) (ho : PE X o td) (hi : PE X i ty) (hv : PE X value tv) (hs : swapsWith value (some (.Subscript o i pos')) pos.line X.env = pure false) :
    PS X (.Assign [.Subscript o i pos'] value pos) (sDPut td ty tv) := by
  intro pins s σ H D I h
  refine wpAny_Assign_Subscript (thn (hv pins s σ H _ I h) fun r s1 ⟨v, H1, I1, rv, q1⟩ => thn (ho pins s1 σ H1 _ I1 q1) fun u s2 ⟨x, H2, I2, rx, q2⟩ => thn (hi pins s2 σ H2 _ I2 q2) fun iv s3 ⟨y, H3, I3, ry, a, H4, ex, g, q3⟩ => ?_) hs
  subst ex
  obtain rfl : u = Value.ref a := rx
  exact d_setItem hu I3 g ry rv fun s4 I4 => ⟨σ, H4, I4, q3⟩
end
theorem dk_empty {P : Program} {w : World} {H : Hp} (h : Heap) (hb : sysModules < h.objs.size) : ObjOk P w H (h.push { cls := .type "dict", data := .dict #[] }) h.objs.size (.dK []) :=
  ⟨Nat.zero_le _, beq_eq_false_iff_ne.mpr (Ne.symm (Nat.ne_of_lt hb)), [], .nil, Heap.DictOf.new h⟩
theorem dt_empty {P : Program} {w : World} {H : Hp} (h : Heap) (hb : sysModules < h.objs.size) : ObjOk P w H (h.push { cls := .type "dict", data := .dict #[] }) h.objs.size (.dT []) :=
  ⟨Nat.zero_le _, beq_eq_false_iff_ne.mpr (Ne.symm (Nat.ne_of_lt hb)), [], .nil, _, #[], 0, Heap.get?_push_size _ rfl, ⟨rfl, rfl, rfl⟩, rfl, rfl, List.nodup_nil⟩
def tDNewK : TE := fun _ H Q => ∀ p, H p = none → Q (.ref p) (upd H p (.dK []))
def tDNewT : TE := fun _ H Q => ∀ p, H p = none → Q (.ref p) (upd H p (.dT []))
section
variable {X : Cx} {pos : Pos}
theorem pe_dnewK : PE X (.Dict [] [] pos) tDNewK := fun pins s σ H Q I h =>
  wpAny_Dict_empty ⟨.ref s.heap.objs.size, _, I.laid (a := s.heap.objs.size) (o := .dK []) (t' := s.toks) (fun _ _ q => Heap.get?_push_of_some _ q) (Nat.le_refl _) (dk_empty s.heap I.big), rfl, h _ (I.hok.fresh (Nat.le_refl _))⟩
theorem pe_dnewT : PE X (.Dict [] [] pos) tDNewT := fun pins s σ H Q I h =>
  wpAny_Dict_empty ⟨.ref s.heap.objs.size, _, I.laid (a := s.heap.objs.size) (o := .dT []) (t' := s.toks) (fun _ _ q => Heap.get?_push_of_some _ q) (Nat.le_refl _) (dt_empty s.heap I.big), rfl, h _ (I.hok.fresh (Nat.le_refl _))⟩
end
structure M1 (X : Cx) (o : Expr) (m : Str) (apos : Pos) (e : Expr) (cpos : Pos) : Prop where
  base : attributeBase o m X.env (eval o X.env) = eval o X.env
  few : ((backTo cpos (starEach [e] X.env)).all (fun x => !x.1) && (backToKw cpos (keywordEach [] X.env)).all (fun x => x.1.isSome)
    && decide (([e] : List Expr).length + ([] : List Keyword).length + (if ([] : List Keyword).isEmpty then 0 else 1) < 30)) = true
  line : (apos.endLine == cpos.line) = true
  trees : backTo cpos (starEach [e] X.env) = [(false, eval e X.env)]
structure M2 (X : Cx) (o : Expr) (m : Str) (apos : Pos) (e f : Expr) (cpos : Pos) : Prop where
  base : attributeBase o m X.env (eval o X.env) = eval o X.env
  few : ((backTo cpos (starEach [e, f] X.env)).all (fun x => !x.1) && (backToKw cpos (keywordEach [] X.env)).all (fun x => x.1.isSome)
    && decide (([e, f] : List Expr).length + ([] : List Keyword).length + (if ([] : List Keyword).isEmpty then 0 else 1) < 30)) = true
  line : (apos.endLine == cpos.line) = true
  trees : backTo cpos (starEach [e, f] X.env) = [(false, eval e X.env), (false, eval f X.env)]
section
variable {X : Cx} {pins : List (Addr × Obj)} {σ : St} {H : Hp} {s : Shared} {a : Addr} {y d : V} {u r : Value} {o : Option V} {A : Around} {E : Value → Shared → Prop}
end
section
variable {X : Cx} {o e f : Expr} {apos cpos : Pos} {td ty tx : TE}
end
section
variable {X : Cx} {pins : List (Addr × Obj)} {σ : St} {H : Hp} {s : Shared} {a : Addr} {kvs : List (Key × V)} {A : Around} {E : Value → Shared → Prop}
end
section
variable {X : Cx} {pins : List (Addr × Obj)} {σ : St} {H : Hp} {s : Shared} {a : Addr} {y : V} {u : Value} {A : Around} {E : Value → Shared → Prop}
end
end L2
namespace Att
open PySem PySem.W PySem.Calls PyProof.Rows
theorem ints_of_wellAll {P : Params} {h : Heap} : ∀ (ns : List Int) (vs : List Value), WellAll P h vs (ns.map WData.int) → IntsAre vs ns := by
  intro ns
  induction ns with
  | nil =>
    intro vs w
    rw [List.map_nil] at w
    cases w
    exact .nil
  | cons n ns ih =>
    intro vs w
    rw [List.map_cons] at w
    cases w with
    | cons a b =>
      cases a
      exact .cons _ _ (ih _ b)
theorem script_of {l : OpenLaw} {n : Nat} (hn : l.most = some n) {P : Params} {h : Heap} {args : List WData} {vals : List Value}
    (hpre : l.row.toRowW.claim.pre args = true) (hwl : WellAll P h vals args) :
    ∃ a vs ns, vals = [Value.ref a] ∧ args = [WData.list (ns.map WData.int)] ∧ h.get? a = some { cls := .type "list", data := .seq vs.toArray } ∧ IntsAre vs ns ∧ ns.length ≤ n := by
  have hsh : WShape.hasAll [] args [.list .int] = true := (pre_splitW hpre).1
  have hc : l.pre.holds [] { args := args } = true := (pre_splitW hpre).2
  obtain ⟨d, r, rfl, h1, h2⟩ := hasAllW_cons hsh
  obtain rfl := hasAllW_nil h2
  obtain ⟨xs, rfl, h3⟩ := hasW_list h1
  obtain ⟨ns, rfl⟩ := items_int h3
  have hlen : ns.length ≤ n := by
    unfold OpenLaw.pre at hc
    have h4 : (WTm.not (.lt (.lit (.int (n : Int))) (.len (.arg 0)))).holds [] { args := [.list (ns.map .int)] } = true := by
      have h4 := (holds_andW hc).1
      rw [hn] at h4
      exact h4
    have h5 := condW_of h4 (w_not (w_lt w_lit (w_len_list (w_arg rfl))))
    rw [List.length_map] at h5
    refine Nat.le_of_not_lt fun q => ?_
    have q' : (n : Int) < ((ns.length : Nat) : Int) := by omega
    first
      | (rw [decide_eq_true q'] at h5; exact absurd h5 (by decide))
      | (simp at h5; omega)
  cases hwl with
  | cons w1 w2 =>
    cases w2
    cases w1 with
    | list ho hall => exact ⟨_, _, ns, rfl, rfl, ho, ints_of_wellAll ns _ hall, hlen⟩
theorem post_true (l : OpenLaw) (args : List WData) : l.row.toRowW.claim.post args (.bool true) args = true :=
  postW_of (r := l.row.toRowW) (X := (true == true))
    (show WShape.has [] (.bool true) .bool = true by first | rfl | decide | simp [WShape.has, WShape.arms, WShape.armsAll])
    (show (WTm.eq .res (.lit (.bool true))).value [] { args := args, res := some (.bool true), after := args } = some (.bool (true == true)) from w_eq_bool (w_res rfl) w_lit) rfl
theorem attach_call {l : OpenLaw} {n : Nat} {q : Program} {loose : List Str} {XP : (Str → Option Value) → Heap → Prop} {YP : World → Heap → Prop} {d : DefRec}
    (hn : l.most = some n) (hdf : d.params.defaults = [])
    (call : ∀ (w : World) (s₀ s₁ : Shared) (mg mb : Str → Option Value) (fa : Addr) (o : Obj) (pm cd doc : Value) (a : Addr) (vs : List Value) (ns : List Int),
      Ground q loose [] XP w s₀ mg mb s₁.heap → YP w s₁.heap →
      s₁.heap.get? fa = some o → o.data = .func (docDef d.name d.params d.body d.scope pm cd doc) → s₁.heap.CodeRec cd d.name → mg d.name = some (.ref fa) →
      s₁.heap.get? a = some { cls := .type "list", data := .seq vs.toArray } → IntsAre vs ns → ns.length ≤ n → s₁.gens = #[] →
      codeAny (model l.prog w) callerA (.call (.ref fa) ⟨[.ref a], []⟩) (fun r s' => r = .ok (.ret (.bool true)) ∧ OldK s₁.heap s'.heap ∧ s'.os = s₁.os ∧ AllBare s'.gens) s₁) :
    WalkO q loose XP YP l.row.toRowW d [] (fun f vs => PySem.call f vs) := by
  intro w s₀ s₁ mg mb G Y fa o pm cd doc dV kV ho hd hcd hD hmg hg args vals as hpre hlay hrd hwl hlo
  obtain rfl : dV = .none := Dflts.none hD hdf
  obtain rfl : kV = .none := Dflts.noKw hD
  obtain ⟨a, vs, ns, rfl, rfl, hobj, hints, hlen⟩ := script_of hn hpre hwl
  refine enter_call (codeAny_mono (call w s₀ s₁ mg mb fa o pm cd doc a vs ns G Y ho (fd_plain hd) hcd hmg hobj hints hlen hg) fun r s' hq => ?_)
  obtain ⟨rfl, h2, h3, h4⟩ := hq
  exact ⟨.inl ⟨.bool true, .bool true, [], rfl, fun _ => rfl, .bool true, post_true l _, fun _ => ⟨List.Pairwise.nil, fun _ hm => (nomatch hm)⟩⟩, h2, h3, h4⟩
section
variable {prog : Program} {w : World} {A : Around} {E : Value → Shared → Prop} {s : Shared} {K : Frag}
end
end Att
namespace L2
open PySem PySem.Spec PyProof.Rows
theorem vals_ints : ∀ {vs : List Value} {ns : List Int}, IntsAre vs ns → Vals (ns.map V.int) vs
  | _, _, .nil => .nil
  | _, _, .cons n t h => .cons ⟨t, rfl⟩ (vals_ints h)
def Only (H : Hp) : Prop := ∀ b, H b = none ∨ ∃ o xs, H b = some (.frz o (.lst xs))
theorem law_call {P : Program} {w : World} {K : PySem.W.Frag} {mg mb : Str → Option Value} {CX : CXT} {k : Nat} {fa a : Addr} {fd : FuncData} {x : Str} {sp : Sp} {s₁ : Shared} {vs : List Value} {ns : List Int}
    (KX : K.In s₁.heap) (hns : s₁.heap.Ns mainGlobals mg) (hb : s₁.heap.Ns builtinsNs mb) (hbb : ∀ x : Str, x ≠ "__name__" → mb x = bootBuiltins x) (hlim : s₁.heap.NoLimit) (hg : s₁.gens = #[])
    (ha : s₁.heap.get? a = some { cls := .type "list", data := .seq vs.toArray }) (hi : IntsAre vs ns) (hl : ns.length ≤ sizeLine) (hr : Room k callerA)
    (F : ∀ base : Heap, K.In base → base.Ns mainGlobals mg → FnOk P w K mg base CX k fa fd [x] sp) (hbind : ∀ (s : Shared) (u : Value), BindsTo s fd ⟨[u], []⟩ [(x, u)])
    (hsp : ∀ H : Hp, Only H → SqL K H a (ns.map V.int) → sp [.ref a] H (fun v _ => v = .bl true) fun _ _ _ => False)
    (hCX : ∀ H e s', CX [] H s₁ (fun _ _ _ => False) e s' → False) :
    codeAny (model P w) callerA (.call (.ref fa) ⟨[.ref a], []⟩) (fun r s' => r = .ok (.ret (.bool true)) ∧ OldK s₁.heap s'.heap ∧ s'.os = s₁.os ∧ AllBare s'.gens) s₁ := by
  have rv := vals_ints hi
  have lenV := hi.length
  -- from an abstract heap in which nothing but the script may be tracked
  have core : ∀ H : Hp, Only H → SqL K H a (ns.map V.int) → HOk P w H s₁.heap → (∀ b, H b ≠ none → b = a) → (H a ≠ none → K.lookup a = none) →
      codeAny (model P w) callerA (.call (.ref fa) ⟨[.ref a], []⟩) (fun r s' => r = .ok (.ret (.bool true)) ∧ OldK s₁.heap s'.heap ∧ s'.os = s₁.os ∧ AllBare s'.gens) s₁ := by
    intro H hO hS hok hA hK
    have base_of : ∀ {b : Addr} {o : Obj}, s₁.heap.get? b = some o → H b = none → (hidT s₁.heap H).get? b = some o := fun e n => hidT_get e n
    have noA : ∀ {b : Addr} {o : Obj} {es : Array DictEntry} {ep : Nat}, s₁.heap.get? b = some o → o.data = .dict es ep → H b = none := fun {b o es ep} e d => by
      cases q : H b with
      | none => rfl
      | some u =>
        have e' : b = a := hA b (by rw [q]; simp)
        subst e'
        rw [ha] at e; cases e
        have d' : Data.seq vs.toArray _ = Data.dict es ep := d
        cases d'
    have nsK : ∀ {b : Addr} {m : Str → Option Value}, s₁.heap.Ns b m → (hidT s₁.heap H).Ns b m := fun {b m} ⟨o, es, ep, e, d, r⟩ => ⟨o, es, ep, base_of e (noA e d), d, r⟩
    have hKb : K.In (hidT s₁.heap H) := fun b o e => base_of (KX b o e) (by
      cases q : H b with
      | none => rfl
      | some u =>
        have e' : b = a := hA b (by rw [q]; simp)
        subst e'
        rw [hK (by rw [q]; simp)] at e; cases e)
    have hM : Mod K mg (hidT s₁.heap H) := ⟨hKb, nsK hns, ⟨mb, nsK hb, hbb⟩, let ⟨mc, h1, h2⟩ := hlim; ⟨mc, nsK h1, h2⟩⟩
    have e0 : Env0 P w K mg (hidT s₁.heap H) callerA [] s₁ H := ⟨rfl, hM, fun b o e => of_hidT e, Nat.le_of_eq (hidT_size _ _), trivial, fun b hb => absurd (show b ∈ ([] : List Addr) from hb) (by simp), hok, .of_eq hg⟩
    refine codeAny_mono ((F _ hKb (nsK hns)).run callerA [] s₁ H ⟨[.ref a], []⟩ [.ref a] [.ref a] _ _ hr e0 (hbind s₁ (.ref a)) (.cons rfl .nil) (hsp H hO hS)) fun r s' h => ?_
    cases r with
    | error e => exact (hCX H e s' h).elim
    | ok fl =>
      cases fl with
      | next => exact False.elim h
      | brk => exact False.elim h
      | cont => exact False.elim h
      | ret u =>
        obtain ⟨v, H', os, bare, un, hok', r', q⟩ := h
        have q' : v = .bl true := q
        subst q'
        obtain rfl : u = Value.bool true := r'
        refine ⟨rfl, OldK.of_keep fun b o e => ?_, os, bare⟩
        cases q : H b with
        | none => exact un.keep b o e q (by intro z; exact absurd (show b ∈ ([] : List Addr) from z) (by simp)) (by simp)
        | some u =>
          rcases hO b with z | ⟨ob, xs, z⟩
          · rw [q] at z; cases z
          · have z2 := un.frzs b ob _ z
            obtain ⟨e1, _⟩ := hok b _ z
            obtain ⟨e2, _⟩ := hok' b _ z2
            rw [e] at e1; cases e1
            exact e2
  cases hk : K.lookup a with
  | some o =>
    -- the script is one of the module's own objects
    have e := KX a o hk
    rw [ha] at e
    cases e
    refine core (fun _ => none) (fun _ => .inl rfl) (.inr ⟨_, vs.toArray, _, hk, rfl, rfl, rfl, by rw [List.size_toArray, lenV]; exact hl, by simpa using rv⟩) (fun b u z => by have z' : (none : Option HO) = some u := z; cases z') (fun b z => absurd rfl z) fun z => absurd rfl z
  | none =>
    refine core (fun b => if b = a then some (.frz { cls := .type "list", data := .seq vs.toArray } (.lst (ns.map V.int))) else none) (fun b => ?_) (.inl (.inr ⟨{ cls := .type "list", data := .seq vs.toArray }, if_pos rfl⟩)) (fun b u z => ?_) (fun b z => ?_) fun _ => hk
    · by_cases hb : b = a
      · exact .inr ⟨_, _, if_pos hb⟩
      · exact .inl (if_neg hb)
    · by_cases hb : b = a
      · have z' := (if_pos hb).symm.trans z
        cases z'
        subst hb
        exact ⟨ha, by rw [List.length_map]; exact hl, vs, _, rv, ha⟩
      · have z' := (if_neg hb).symm.trans z
        cases z'
    · by_cases hb : b = a
      · exact hb
      · exact absurd (if_neg hb) z
end L2
namespace L2
open PySem PySem.Spec PyProof.Rows
theorem walk_of {l : PySem.W.OpenLaw} {n k : Nat} {q : Program} {loose : List Str} {XP : (Str → Option Value) → Heap → Prop} {YP : World → Heap → Prop} {d : DefRec} {K : Params → PySem.W.Frag} {CX : World → CXT} {sp : World → Sp} {x : Str}
    (hn : l.most = some n) (hn2 : n ≤ sizeLine) (hdf : d.params.defaults = []) (hr : Room k callerA)
    (hY : ∀ (w : World) (h : Heap), YP w h → (K w.params).In h)
    (F : ∀ (w : World) (mg : Str → Option Value) (fa : Addr) (h : Heap), (K w.params).In h → h.Ns mainGlobals mg → mg d.name = some (.ref fa) →
      ∃ fd : FuncData, (∀ (s : Shared) (u : Value), BindsTo s fd ⟨[u], []⟩ [(x, u)]) ∧
        ∀ base : Heap, (K w.params).In base → base.Ns mainGlobals mg → FnOk l.prog w (K w.params) mg base (CX w) k fa fd [x] (sp w))
    (hsp : ∀ (w : World) (H : Hp) (a : Addr) (ns : List Int), ns.length ≤ n → Only H → SqL (K w.params) H a (ns.map V.int) → sp w [.ref a] H (fun v _ => v = .bl true) fun _ _ _ => False)
    (hCX : ∀ (w : World) (H : Hp) (s : Shared) (e : Value) (s' : Shared), CX w [] H s (fun _ _ _ => False) e s' → False) :
    PySem.W.WalkO q loose XP YP l.row.toRowW d [] (fun f vs => PySem.call f vs) := by
  refine Att.attach_call hn hdf fun w s₀ s₁ mg mb fa o pm cd doc a vs ns G Y ho hd hcd hmg hobj hints hlen hg => ?_
  have KX := hY w _ Y
  obtain ⟨fd, hb, hF⟩ := F w mg fa _ KX G.T.g hmg
  exact law_call KX G.T.g G.T.b G.T.builtins G.T.nolimit hg hobj hints (Nat.le_trans hlen hn2) hr hF hb (fun H hO hS => hsp w H a ns hlen hO hS) fun H e s' => hCX w H s₁ e s'
end L2
namespace L2
open PySem PySem.Spec PyProof.Rows
def inClass (s : Stmt) (j : Nat) : Stmt := match s with
  | .ClassDef _ _ _ body _ _ _ _ _ _ _ => body.getD j (.Pass ⟨0, 0, 0, 0⟩)
  | _ => .Pass ⟨0, 0, 0, 0⟩
def defArgs (s : Stmt) : Arguments := match s with
  | .FunctionDef _ a _ _ _ _ _ _ _ _ => a
  | _ => { posonlyargs := [], args := [], vararg := none, kwonlyargs := [], kw_defaults := [], kwarg := none, defaults := [] }
def defBody (s : Stmt) : List Stmt := match s with
  | .FunctionDef _ _ b _ _ _ _ _ _ _ => b
  | _ => []
def defScope (s : Stmt) : Scope := match s with
  | .FunctionDef _ _ _ _ _ _ sc _ _ _ => sc
  | _ => { kind := .function, names := [], isGenerator := false, isCoroutine := false }
abbrev CX0 : CXT := fun _ _ _ _ _ _ => False
abbrev E0 : XK := fun _ _ _ => False
theorem pass0 {X : Cx} : Passes CX0 X E0 := fun _ _ _ _ _ _ _ h => h.elim
structure Fun (K : PySem.W.Frag) (x qual : Str) (st : Stmt) (f : Addr) (fd : FuncData) : Prop where
  ex : ∃ (oc : Value) (od : Option Addr) (kV doc pm : Value) (an : Option Addr) (cdv ct : Value) (osl : Array (Option Value)),
    fd = PySem.W.fnOf x qual (defArgs st) (defBody st) (defScope st) .none kV doc pm an cdv ct ∧ K.lookup f = some ⟨oc, od, .func fd, osl⟩ ∧ PySem.W.codeIn K cdv qual = true
  kp : PySem.W.keepIn K (.ref f) = true
section
variable {P : Program} {w : World} {K : PySem.W.Frag} {mg : Str → Option Value} {base : Heap}
theorem Fun.ok {x qual : Str} {st : Stmt} {f : Addr} {fd : FuncData} {N ps : List Str} {k : Nat} {sp : Sp} (F : Fun K x qual st f fd) (S : FnScope N ps (defScope st)) (len : ∀ vs H Q E, sp vs H Q E → vs.length = ps.length)
    (hbody : ∀ (cdv : Value) (A : Around) (outer : List Env) (s : Shared) (H : Hp) (vs : List V) (Q : VK) (E : XK), Room k (A.deeper (envOfC qual (defScope st) s.heap.objs.size f cdv)) → sp vs H Q E →
      ∃ t, PSs (cxOf CX0 P w K mg base N qual (defScope st) f cdv A outer s H E).nox (defBody st) t ∧ t { nx := fun _ H' => Q .non H', rt := Q } (start N vs) H) : FnOk P w K mg base CX0 (k + 1) f fd ps sp := by
  obtain ⟨oc, od, kV, doc, pm, an, cdv, ct, osl, rfl, lk, hcd⟩ := F.ex
  refine fn_of lk hcd S len fun A outer s H vs Q E hr hsp => ?_
  obtain ⟨t, h, q⟩ := hbody cdv A outer s H vs Q E hr hsp
  exact ⟨t, h.nox, q⟩
theorem Fun.binds {x qual : Str} {st : Stmt} {f : Addr} {fd : FuncData} {ps : List Str} (F : Fun K x qual st f fd)
    (h : ∀ (kV doc pm : Value) (an : Option Addr) (cdv ct : Value) (us : List Value), us.length = ps.length → bindArgs (PySem.W.fnOf x qual (defArgs st) (defBody st) (defScope st) .none kV doc pm an cdv ct) ⟨us, []⟩ = pure (ps.zip us)) : Binds K fd ps [] := by
  obtain ⟨oc, od, kV, doc, pm, an, cdv, ct, osl, rfl, lk, hcd⟩ := F.ex
  exact .all (h kV doc pm an cdv ct)
theorem fun_mk {x qual : Str} {st : Stmt} {f : Addr} {oc : Value} {od an : Option Addr} {osl : Array (Option Value)} {kV doc pm cdv ct : Value} (l : K.lookup f = some ⟨oc, od, .func (PySem.W.fnOf x qual (defArgs st) (defBody st) (defScope st) .none kV doc pm an cdv ct), osl⟩)
    (c : PySem.W.codeIn K cdv qual = true) (k : PySem.W.keepIn K (.ref f) = true) : Fun K x qual st f (PySem.W.fnOf x qual (defArgs st) (defBody st) (defScope st) .none kV doc pm an cdv ct) := ⟨⟨oc, od, kV, doc, pm, an, cdv, ct, osl, rfl, l, c⟩, k⟩
end
theorem hu_of {A : Around} {k : Nat} (hr : Room k A) : A.units + 1 < cLine := Nat.lt_of_le_of_lt (Nat.add_le_add_left (by decide : 1 ≤ 64) _) hr.units
theorem small1000 {n : Nat} (h : n ≤ 1000) : n < sizeLine := Nat.lt_of_le_of_lt h (by decide)
section
variable {X : Cx}
theorem pv (i : Nat) {x : Str} {pos : Pos} (hN : X.N[i]? = some x := by rfl) (hv : Vis X.env.scope x := by first | exact Or.inl rfl | exact Or.inr (Or.inl rfl) | exact Or.inr (Or.inr rfl)) (hd : (x == ("__debug__" : Str)) = false := by decide)
    (hcd : (x == ("__classdict__" : Str)) = false := by decide) : PE X (.Name x pos) (tVar i) := pe_var hN hv hd hcd
end
theorem ite2 {c A B : Prop} [Decidable c] (h1 : c → A) (h2 : ¬ c → B) : if c then A else B := by
  by_cases h : c
  · rw [if_pos h]
    exact h1 h
  · rw [if_neg h]
    exact h2 h
def Same (H H' : Hp) : Prop := ∀ b o, H b = some o → H' b = some o
theorem Same.refl (H : Hp) : Same H H := fun _ _ h => h
theorem Same.trans {H H1 H2 : Hp} (a : Same H H1) (b : Same H1 H2) : Same H H2 := fun c o h => b c o (a c o h)
theorem Same.free {H H' : Hp} (e : Same H H') {l : Addr} (h : H' l = Option.none) : H l = Option.none := by
  cases q : H l with
  | none => rfl
  | some o =>
    rw [e l o q] at h
    cases h
theorem Same.seq {K : PySem.W.Frag} {H H' : Hp} {a : Addr} {xs : List V} (e : Same H H') (h : SqL K H a xs) : SqL K H' a xs := by
  rcases h with (h | ⟨o, h⟩) | h
  · exact .inl (.inl (e _ _ h))
  · exact .inl (.inr ⟨o, e _ _ h⟩)
  · exact .inr h
section
variable {X : Cx}
end
section
variable {κ : Type} [DecidableEq κ]
end
end L2
namespace L2
open PySem PySem.Spec PyProof.Rows
theorem closure_go {env : Env} (cs : List (Str × NameKind)) : ∀ (acc : List (Str × Addr)), (∀ x ∈ cs, x.2 = .free → ∃ c, env.cells.lookup x.1 = some c) →
    ∃ cl, (forIn cs acc (fun (x : Str × NameKind) (r : List (Str × Addr)) => (if (x.2 == NameKind.free) = true then do let c ← cellOf env x.1; pure (ForInStep.yield ((x.1, c) :: r)) else pure (ForInStep.yield r) : Sem (ForInStep (List (Str × Addr))))) = pure cl) ∧
      (∀ x c, cl.lookup x = some c → env.cells.lookup x = some c ∨ acc.lookup x = some c) ∧ (∀ x, (x, NameKind.free) ∈ cs → ∃ c, cl.lookup x = some c) ∧ (∀ x c, acc.lookup x = some c → ∃ c', cl.lookup x = some c') := by
  induction cs with
  | nil => intro acc _; exact ⟨acc, rfl, fun x c h => .inr h, fun x h => (nomatch h), fun x c h => ⟨c, h⟩⟩
  | cons y r ih =>
    intro acc h
    obtain ⟨n, k⟩ := y
    by_cases hk : k = .free
    · subst hk
      obtain ⟨c, hc⟩ := h (n, .free) List.mem_cons_self rfl
      obtain ⟨cl, e1, e2, e3, e4⟩ := ih ((n, c) :: acc) fun x hx => h x (List.mem_cons_of_mem _ hx)
      refine ⟨cl, ?_, fun x c' hx => ?_, fun x hx => ?_, fun x c' hx => ?_⟩
      · rw [← e1]
        simp only [List.forIn_cons, beq_self_eq_true, if_true, cellOf, hc]
        rfl
      · rcases e2 x c' hx with q | q
        · exact .inl q
        · rw [List.lookup_cons] at q
          cases hb : x == n with
          | true =>
            rw [hb] at q
            have : x = n := by simpa using hb
            subst this
            cases q
            exact .inl hc
          | false => rw [hb] at q; exact .inr q
      · rcases List.mem_cons.mp hx with q | q
        · cases q
          exact e4 n c (by simp [List.lookup_cons])
        · exact e3 x q
      · cases hb : x == n with
        | true => exact e4 x c (by simp [List.lookup_cons, hb])
        | false => exact e4 x c' (by simp [List.lookup_cons, hb, hx])
    · obtain ⟨cl, e1, e2, e3, e4⟩ := ih acc fun x hx => h x (List.mem_cons_of_mem _ hx)
      have hb : (k == NameKind.free) = false := by simpa using hk
      refine ⟨cl, ?_, e2, fun x hx => ?_, e4⟩
      · rw [← e1]
        simp only [List.forIn_cons, hb, Bool.false_eq_true, if_false]
        rfl
      · rcases List.mem_cons.mp hx with q | q
        · cases q; exact absurd rfl hk
        · exact e3 x q
theorem closure_of {scope : Scope} {env : Env} (h : ∀ x ∈ scope.names, x.2 = .free → ∃ c, env.cells.lookup x.1 = some c) :
    ∃ cl, closureFor scope env = pure cl ∧ (∀ x c, cl.lookup x = some c → env.cells.lookup x = some c) ∧ (∀ x, (x, NameKind.free) ∈ scope.names → ∃ c, cl.lookup x = some c) := by
  obtain ⟨cl, e1, e2, e3, _⟩ := closure_go scope.names [] h
  refine ⟨cl, ?_, fun x c hx => (e2 x c hx).resolve_right (by simp), e3⟩
  rw [← bind_pure (pure cl : Sem (List (Str × Addr))), ← e1]
  rfl
theorem relabel_back {scope : Scope} {env : Env} {x : Str} : ∀ {names : List (Str × NameKind)}, (names.map fun (n, k) => if (k == NameKind.free && env.scope.kind == .function && env.kindOf n == some .cell) then (n, NameKind.cell) else (n, k)).lookup x = some .cell ∨
    (names.map fun (n, k) => if (k == NameKind.free && env.scope.kind == .function && env.kindOf n == some .cell) then (n, NameKind.cell) else (n, k)).lookup x = some .free → (∀ y ∈ names, y.2 ≠ .cell) → (x, NameKind.free) ∈ names
  | [], h, _ => by simp at h
  | (n, k) :: r, h, hc => by
    have ih := @relabel_back scope env x r
    rw [List.map_cons] at h
    have key : ∀ k' : NameKind, (∀ k₂, ((n, k') :: (r.map fun (n, k) => if (k == NameKind.free && env.scope.kind == .function && env.kindOf n == some .cell) then (n, NameKind.cell) else (n, k))).lookup x = some k₂ → (x = n ∧ k' = k₂) ∨ (r.map fun (n, k) => if (k == NameKind.free && env.scope.kind == .function && env.kindOf n == some .cell) then (n, NameKind.cell) else (n, k)).lookup x = some k₂) := fun k' k₂ q => by
      rw [List.lookup_cons] at q
      cases hb : x == n with
      | true => rw [hb] at q; exact .inl ⟨by simpa using hb, Option.some.inj q⟩
      | false => rw [hb] at q; exact .inr q
    dsimp only at h
    split at h
    · rename_i hk
      have kf : k = .free := by
        cases k <;> simp at hk
        rfl
      subst kf
      rcases h with h | h
      · rcases key _ _ h with ⟨e, _⟩ | q
        · subst e; exact List.mem_cons_self
        · exact List.mem_cons_of_mem _ (ih (.inl q) fun y hy => hc y (List.mem_cons_of_mem _ hy))
      · rcases key _ _ h with ⟨e, _⟩ | q
        · subst e; exact List.mem_cons_self
        · exact List.mem_cons_of_mem _ (ih (.inr q) fun y hy => hc y (List.mem_cons_of_mem _ hy))
    · rcases h with h | h
      · rcases key _ _ h with ⟨e, e2⟩ | q
        · exact absurd e2 (hc (n, k) List.mem_cons_self)
        · exact List.mem_cons_of_mem _ (ih (.inl q) fun y hy => hc y (List.mem_cons_of_mem _ hy))
      · rcases key _ _ h with ⟨e, e2⟩ | q
        · subst e; subst e2; exact List.mem_cons_self
        · exact List.mem_cons_of_mem _ (ih (.inr q) fun y hy => hc y (List.mem_cons_of_mem _ hy))
theorem compLoop_go {prog : Program} {w : World} {A : Around} {R : Result → Shared → Prop} {s : Shared} {elt target iter : Expr} {scope : Scope} {pos : Pos} {it acc : Value} {env : Env} (I : Nat → Shared → Prop)
    (turn : ∀ n s, I n s → wpAny (model prog w) A (pyNext it) (fun r s1 => match r with
      | none => R (.ok .next) s1
      | some v => wpAny (model prog w) A (letOwnedTupleGo target it v) (fun _ s1' => wpAny (model prog w) A (assign target env v) (fun _ s2 => wpAny (model prog w) A (eval elt env) (fun x s3 =>
          wpAny (model prog w) A (call (.builtin "list.append") [acc, x]) (fun _ s4 => ∃ m, m < n ∧ I m s4) (fun _ _ => False) s3)
          (fun _ _ => False) s2) (fun _ _ => False) s1') (fun _ _ => False) s1) (fun _ _ => False) s)
    (n : Nat) (h : I n s) : codeAny (model prog w) A
      (.compLoop (.ListComp elt [⟨target, iter, [], 0⟩] scope pos) 0 it acc env) R s := by
  refine codeAny_loop rfl I (fun n s hI => wpAny_noted (m := compTurn (.ListComp elt [⟨target, iter, [], 0⟩] scope pos) 0 it acc env) ?_) n h
  rw [compTurn_list1]
  refine wpAny_bind (wpAny_standAt (wpAny_bind (wpAny_mono (turn n s hI) (fun r s1 h1 => ?_) fun _ _ h' => h'.elim)))
  cases r with
  | none => exact wpAny_pure h1
  | some v =>
    exact wpAny_bind (wpAny_mono h1 (fun _ s1' h1' => wpAny_bind (wpAny_mono h1' (fun _ s2 h2 => wpAny_bind (wpAny_bind (wpAny_mono h2 (fun x s3 h3 => wpAny_bind (wpAny_mono h3
      (fun _ s4 h4 => wpAny_pure (wpAny_pure ⟨rfl, h4⟩)) fun _ _ h' => h'.elim)) fun _ _ h' => h'.elim))) fun _ _ h' => h'.elim)) fun _ _ h' => h'.elim)
end L2
namespace L2
open PySem PySem.Spec PyProof.Rows
theorem relabel_fwd {env : Env} {x : Str} : ∀ {names : List (Str × NameKind)}, names.lookup x = some .free →
    (names.map fun (n, k) => if (k == NameKind.free && env.scope.kind == .function && env.kindOf n == some .cell) then (n, NameKind.cell) else (n, k)).lookup x ≠ some .local
  | [], h => by simp at h
  | (n, k) :: r, h => by
    have ih := @relabel_fwd env x r
    rw [List.map_cons]
    dsimp only
    rw [List.lookup_cons] at h
    cases hb : x == n with
    | true =>
      rw [hb] at h
      have kf : k = .free := Option.some.inj h
      subst kf
      split <;> simp [List.lookup_cons, hb]
    | false =>
      rw [hb] at h
      split <;> (simp only [List.lookup_cons, hb]; exact ih h)
def cxComp (X : Cx) (N' : List Str) (scope : Scope) (cl : List (Str × Addr)) (C : Addr) (fp : List Addr) (s : Shared) (H : Hp) : Cx :=
  { X with N := N', s₀ := s, H₀ := H, env := compEnvC scope cl C X.env, outer := X.stack, stack := X.stack, ex := fp, fn := fun _ => false, pn := [], xe := fun _ _ => False }
def compN (X : Cx) (own : List Str) (ix : List Nat) : List Str := own ++ ix.map fun j => X.N.getD j ("" : Str)
def compS (k : Nat) (ix : List Nat) (σ : St) : St := List.replicate k none ++ ix.map fun j => σ.getD j none
def GK (k : Nat) (g : TG) : Prop := ∀ x σ H Q, g x σ H Q → g x σ H fun σ2 H2 => Q σ2 H2 ∧ σ2.length = σ.length ∧ σ2.drop k = σ.drop k
theorem gk_name {k i : Nat} (h : i < k) : GK k (gName i) := fun x σ H Q q => ⟨q, by simp, by rw [List.drop_set, if_pos h]⟩
def GKs (k : Nat) (g : TGs) : Prop := ∀ x σ H Q, g x σ H Q → g x σ H fun σ2 H2 => Q σ2 H2 ∧ σ2.length = σ.length ∧ σ2.drop k = σ.drop k
theorem gk_nil {k : Nat} : GKs k gNil := fun x σ H Q q => ⟨q.1, q.2, rfl, rfl⟩
theorem gk_cons {k : Nat} {g : TG} {gs : TGs} (h1 : GK k g) (h2 : GKs k gs) (m1 : ∀ x σ H (Q Q' : St → Hp → Prop), (∀ a b, Q a b → Q' a b) → g x σ H Q → g x σ H Q') (m2 : ∀ x σ H (Q Q' : St → Hp → Prop), (∀ a b, Q a b → Q' a b) → gs x σ H Q → gs x σ H Q') : GKs k (gCons g gs) := fun x σ H Q q => by
  obtain ⟨v, r, e, q⟩ := q
  refine ⟨v, r, e, m1 _ _ _ _ _ (fun a b z => ?_) (h1 _ _ _ _ q)⟩
  obtain ⟨z1, z2, z3⟩ := z
  refine m2 _ _ _ _ _ (fun c d y => ?_) (h2 _ _ _ _ z1)
  exact ⟨y.1, y.2.1.trans z2, y.2.2.trans z3⟩
theorem gk_tup {K : PySem.W.Frag} {k n : Nat} {gs : TGs} (h : GKs k gs) : GK k (gTup K n gs) := fun x σ H Q q => by
  obtain ⟨a, xs, e, h1, h2, q⟩ := q
  exact ⟨a, xs, e, h1, h2, h _ _ _ _ q⟩
def CompW (J : It) (g : TG) (te : TE) (s0 : St) (Q : VK) (H1 : Hp) : Prop := ∃ W : Nat → Nat → List V → Hp → Prop, (∃ m, W 0 m [] H1) ∧ ∀ i m ys H, W i m ys H →
  ys.length < sizeLine ∧ ((J.stop i H ∧ ∀ p, H p = none → Q (.ref p) (upd H p (.lst ys))) ∨
    (J.go i H ∧ ∀ x H', J.yld i H x H' → g x s0 H' fun σ2 H2 => te σ2 H2 fun y H3 => ∃ m', m' < m ∧ W (i + 1) m' (ys ++ [y]) H3))
def tComp (k : Nat) (ix : List Nat) (wi : TI) (g : TG) (te : TE) : TE := fun σ H Q => wi σ H fun J H1 => CompW J g te (compS k ix σ) Q H1
theorem Inv.retrack {X : Cx} {pins : List (Addr × Obj)} {σ : St} {H : Hp} {s : Shared} {D : Addr} {o : HO} (I : Inv X pins σ H s) (hD : H D = none) (f : FpOk X pins H D) (new : ObjOk X.prog X.w (upd H D o) s.heap D o) : Inv X pins σ (upd H D o) s := by
  have ne : ∀ b u, H b = some u → b ≠ D := fun b u e => ne_of_none e hD
  have r := I.step (h' := s.heap) (H' := upd H D o) (g' := s.gens) (d' := s.drawn) (t' := s.toks) (ch := [D])
    (fun b hb => by
      have e : b = D := by simpa using hb
      subst e
      exact ⟨f.2.2.2.1, f.2.1, f.2.2.2.2.1, f.2.2.2.2.2⟩)
    (fun b o _ _ _ e _ => e) (fun b o _ _ _ e _ => ⟨o.slots, e⟩) (fun b o hb e n => by rw [upd_ne (fun z => hb (by simp [z]))]; exact n) (fun b o _ e => ⟨o, e⟩)
    (fun b xs e => by rw [upd_ne (ne _ _ e)]; exact e) (fun b o u e => by rw [upd_ne (ne _ _ e)]; exact e) (fun b ps e => ⟨#[], by rw [upd_ne (ne _ _ e), e]; simp⟩) (fun m hm => hm)
    (fun b u e => by
      by_cases hb : b = D
      · subst hb; rw [upd_same] at e; cases e; exact new
      · rw [upd_ne hb] at e
        exact (I.hok b u e).stay (fun c v _ q => q) (fun c q => by rw [upd_ne (ne _ _ q)]; exact q) fun c xs q => by rw [upd_ne (ne _ _ q)]; exact q) I.bare
  exact r
section
variable {X : Cx}
theorem pe_comp {elt tg iter : Expr} {scope : Scope} {pos : Pos} {wi : TI} {g : TG} {te : TE} (own : List Str) (ix : List Nat) (hc : X.calm = true) (hi : PI X tg iter wi)
    (hkind : scope.kind = .function) (hnames : ∀ x ∈ scope.names, x.2 = .local → scope.names.lookup x.1 = some .local) (hcell : ∀ x ∈ scope.names, x.2 ≠ .cell)
    (hcap : ∀ x ∈ scope.names, x.2 = .free → X.env.scope.names.lookup x.1 = some .cell ∨ X.env.scope.names.lookup x.1 = some .free)
    (hix : ∀ j ∈ ix, ∃ y, X.N[j]? = some y ∧ scope.names.lookup y = some .free) (hgk : GK own.length g)
    (hg : ∀ cl C fp s H, PG (cxComp X (compN X own ix) scope cl C fp s H) tg g) (he : ∀ cl C fp s H, PE (cxComp X (compN X own ix) scope cl C fp s H) elt te)
    (hs : ∀ x, foldedSetIterable iter X.env x = pure x := by intro _; rfl) :
    PE X (.ListComp elt [⟨tg, iter, [], 0⟩] scope pos) (tComp own.length ix wi g te) := by
  intro pins s σ H Q I h
  have hcells : ∀ x ∈ scope.names, x.2 = .free → ∃ c, X.env.cells.lookup x.1 = some c := fun x hx hf => I.ok.has x.1 (hcap x hx hf)
  obtain ⟨cl, hcl, hcl1, hcl2⟩ := closure_of hcells
  rw [eval_ListComp]
  refine wpAny_comprehension_free (use := none) rfl hs hcl hkind hnames ?_
  refine thn (hi pins s σ H _ I h) fun v s1 h1 => thn h1 fun itv s2 h2 => ?_
  obtain ⟨it, fp, tn, J, H2, e, I2, T, st2, f2, W, ⟨m0, w0⟩, turn⟩ := h2
  subst e
  refine wpAny_newObj_type (wpAny_newFunctionEnv hcell (by intro y hy; simp at hy) (fun h4 hns hsb => ?_) hkind)
  dsimp only at hns hsb ⊢
  -- the list
  generalize hh3 : s2.heap.push { cls := .type "list", dict := none, data := .seq ([] : List Value).toArray } = h3 at hns hsb ⊢
  have sz3 : h3.objs.size = s2.heap.objs.size + 1 := by rw [← hh3, Heap.size_push]
  have k23 : ∀ b u, s2.heap.get? b = some u → h3.get? b = some u := fun b u q => by rw [← hh3]; exact Heap.get?_push_of_some _ q
  have D3 : h3.get? s2.heap.objs.size = some { cls := .type "list", data := .seq #[] } := by rw [← hh3]; exact Heap.get?_push_size _ rfl
  obtain ⟨D, hD⟩ : ∃ D, D = s2.heap.objs.size := ⟨_, rfl⟩
  obtain ⟨C, hC⟩ : ∃ C, C = h3.objs.size := ⟨_, rfl⟩
  rw [← hC] at hns hsb
  rw [← hD] at D3 sz3
  have hCD : C = D + 1 := hC.trans sz3
  let s3 : Shared := { s2 with heap := h3 }
  have I3 : Inv X pins σ H2 s3 := I2.kept (t' := s2.toks) k23
  have lt3 : ∀ b u, h3.get? b = some u → b < C := fun b u q => by rw [hC]; exact Heap.lt_size q
  have k34 : ∀ b u, h3.get? b = some u → h4.get? b = some u := fun b u q => hsb.extBut b u (Nat.ne_of_lt (lt3 b u q)) (Heap.get?_push_of_some _ q)
  have H2D : H2 D = none := I2.hok.fresh (by rw [hD]; exact Nat.le_refl _)
  have H2C : H2 C = none := I2.hok.fresh (by rw [hCD, hD]; exact Nat.le_succ _)
  have fD : FpOk X pins H2 D := I2.fpOk (by rw [hD]; exact Nat.le_refl _) H2D
  have cellsLt : ∀ x c, X.env.cells.lookup x = some c → c < D := fun x c e => by
    obtain ⟨v, z⟩ := I2.cell x c e
    rw [hD]; exact z.lt
  -- the iterator's own objects stand below the list
  have fpLt : ∀ b ∈ fp, b < D := fun b hb => by
    obtain ⟨o, e, _⟩ := T.obj 0 _ st2 b hb
    rw [hD]; exact Heap.lt_size e
  let X' : Cx := cxComp X (compN X own ix) scope cl C (D :: fp) s3 H2
  have stkLt : ∀ b ∈ frs X.stack, b ∉ D :: fp := fun b hb z => by
    rcases List.mem_cons.mp z with z | z
    · have q := I2.stack
      obtain ⟨_, o, e, _⟩ := q.mem hb
      have := Heap.lt_size e
      rw [z, hD] at this
      exact Nat.lt_irrefl _ this
    · rcases List.mem_cons.mp (I2.stkSub b hb) with q | q
      · exact (f2 b z).2.1 q
      · exact (f2 b z).2.2.1 q
  have ok' : X'.Ok := by
    refine ⟨I.ok.mod, hkind, I.ok.glob, I.ok.blt, ?_, fun x y c h1 h2 => I.ok.inj x y c (hcl1 x c h1) (hcl1 y c h2), fun x hx => hcl2 x (relabel_back (scope := scope) hx hcell), (fun x c z => Bool.noConfusion (show false = true from z)), I.ok.hd, I.ok.frames, .inl rfl, fun b hb => ⟨?_, fun x c h1 => ?_⟩, fun b o e => ?_, ?_, fun b o e hb => ?_, fun b hb z => stkLt b z hb, ?_, fun b hb => I2.stkFree b hb⟩
    · show h3.objs.size ≤ C
      rw [hC]; exact Nat.le_refl _
    · show b ≠ C
      rcases List.mem_cons.mp hb with z | z
      · rw [z, hCD]; exact Nat.ne_of_lt (Nat.lt_succ_self _)
      · rw [hCD]; exact Nat.ne_of_lt (Nat.lt_succ_of_lt (fpLt b z))
    · rcases List.mem_cons.mp hb with z | z
      · rw [z]; exact Nat.ne_of_lt (cellsLt x c (hcl1 x c h1))
      · exact (f2 b z).2.2.2.2.1 x c (hcl1 x c h1)
    · exact I3.bs b o e
    · show X.base.objs.size ≤ h3.objs.size
      have := Nat.le_trans I.ok.bsz I2.sz
      rw [← hD] at this
      rw [← hC, hCD]
      exact Nat.le_succ_of_le this
    · rcases List.mem_cons.mp hb with z | z
      · have := Heap.lt_size (I2.bk b o e)
        rw [z, hD] at this
        exact Nat.lt_irrefl _ this
      · rcases (f2 b z).2.2.2.1 with q | q
        · exact I.ok.noex b o e q
        · have := Nat.lt_of_lt_of_le (Heap.lt_size (I.ok.bs b o e).1) q
          exact Nat.lt_irrefl _ this
    · exact I3.stack
  have lenN : (compS own.length ix σ).length = (compN X own ix).length := by simp [compS, compN]
  have I4 : ∀ t, Inv X' [] (compS own.length ix σ) H2 { s2 with heap := h4, toks := t } := fun t => by
    refine ⟨ok', rfl, I2.bare, Un.kept k34, ⟨_, hns, fun i x v e1 e2 e3 => ?_⟩, fun x c e => ?_, H2C, fun x c e => I2.freeC x c (hcl1 x c e), fun p hp => absurd (show p ∈ ([] : List (Addr × Obj)) from hp) (by simp), (I3.hok).kept k34, lenN⟩
    · -- a name of the def that the block reads
      have hi' : own.length ≤ i := by
        apply Nat.le_of_not_lt
        intro hlt
        unfold compS at e2
        rw [List.getElem?_append_left (by simpa using hlt), List.getElem?_replicate, if_pos hlt] at e2
        cases e2
      have e1' : (ix.map fun j => X.N.getD j ("" : Str))[i - own.length]? = some x := by
        have z : (own ++ ix.map fun j => X.N.getD j ("" : Str))[i]? = some x := e1
        rwa [List.getElem?_append_right hi'] at z
      have e2' : (ix.map fun j => σ.getD j none)[i - own.length]? = some (some v) := by
        unfold compS at e2
        rw [List.getElem?_append_right (by simpa using hi')] at e2
        simpa using e2
      rw [List.getElem?_map] at e1' e2'
      cases hj : ix[i - own.length]? with
      | none => rw [hj] at e1'; cases e1'
      | some j =>
        rw [hj] at e1' e2'
        obtain ⟨y, hy, hfree⟩ := hix j (List.mem_of_getElem? hj)
        have ex : x = y := by
          have z : X.N.getD j ("" : Str) = x := Option.some.inj e1'
          rw [← z, List.getD_eq_getElem?_getD, hy]; rfl
        subst ex
        have ev : σ[j]? = some (some v) := by
          have z : σ.getD j none = some v := Option.some.inj e2'
          rw [List.getD_eq_getElem?_getD] at z
          cases q : σ[j]? with
          | none => rw [q] at z; cases z
          | some a => rw [q] at z; exact congrArg some z
        have hxm := PySem.mem_of_lookup hfree
        have hvis := hcap _ hxm rfl
        obtain ⟨m, hn, hl⟩ := I2.loc
        obtain ⟨u, r, lk⟩ := hl j x v hy ev (.inr hvis)
        refine ⟨u, r, .inr ⟨?_, ?_⟩⟩
        · rcases e3 with z | z
          · exact absurd z (relabel_fwd hfree)
          · exact z
        · rcases lk with ⟨k, _⟩ | ⟨_, c, hc1, z⟩
          · rcases hvis with q | q
            · exact absurd (k.symm.trans q) (by simp)
            · exact absurd (k.symm.trans q) (by simp)
          · obtain ⟨c', hc'⟩ := hcl2 x hxm
            have := hcl1 x c' hc'
            rw [hc1] at this
            cases this
            obtain ⟨o, ho, hd⟩ := z
            exact ⟨c, hc', o, k34 _ _ (k23 _ _ ho), hd⟩
    · obtain ⟨v, z⟩ := I3.cell x c (hcl1 x c e)
      obtain ⟨o, ho, hd⟩ := z
      exact ⟨v, o, k34 _ _ ho, hd⟩
  have nfp : ∀ b ∈ fp, b ≠ D := fun b hb => Nat.ne_of_lt (fpLt b hb)
  have fp' : ∀ {H' : Hp} {pl : List (Addr × Obj)}, (∀ p ∈ pl, p.1 = D) → (∀ b ∈ fp, H' b = none) → ∀ b ∈ fp, FpOk X' pl H' b := fun {H' pl} hp hn b hb =>
    ⟨hn b hb, (ok'.exf b (List.mem_cons_of_mem _ hb)).1, ok'.exfs b (List.mem_cons_of_mem _ hb), .inl (List.mem_cons_of_mem _ hb), (ok'.exf b (List.mem_cons_of_mem _ hb)).2, fun p hp' z => nfp b hb (z ▸ hp p (by
      have q : p ∈ ([] : List (Addr × Obj)) ++ pl := hp'
      simpa using q))⟩
  have dX : D ≠ X'.env.locals := (ok'.exf D List.mem_cons_self).1
  have dF : D ∉ X'.fs := ok'.exfs D List.mem_cons_self
  have loop : ∀ t, codeAny (model X.prog X.w) X.A (.compLoop (.ListComp elt [⟨tg, iter, [], 0⟩] scope pos) 0 (.ref it) (.ref D) (compEnvC scope cl C X.env))
      (compPost (model X.prog X.w) X.A X.xe none (EP X pins σ Q) (.ref D) C) { s2 with heap := h4, toks := t } := fun t => by
    have st4 : tn 0 h4 := T.keep 0 _ _ st2 fun b _ o e => k34 _ _ (k23 _ _ e)
    refine compLoop_go (fun n s' => ∃ i ys its H', Inv X' [] (compS own.length ix σ) H' s' ∧ tn i s'.heap ∧ (∀ b ∈ fp, H' b = none) ∧ H' D = none ∧ s'.heap.PlainList D (List.toArray its) ∧ Vals ys its ∧ W i n ys H') ?_ m0
      ⟨0, [], [], H2, I4 t, st4, fun b hb => (f2 b hb).1, H2D, ⟨_, k34 _ _ D3⟩, .nil, w0⟩
    rintro n s5 ⟨i, ys, its, H5, I5, st5, fr5, d5, ⟨nn, l5⟩, v5, w5⟩
    obtain ⟨hz, hcase⟩ := turn i n ys H5 w5
    let oD : Obj := { cls := .type "list", data := .seq its.toArray nn }
    have onlyD : ∀ p ∈ [((D, oD) : Addr × Obj)], p.1 = D := fun p hp => by
      have e : p = (D, oD) := by simpa using hp
      rw [e]
    have I5' : Inv X' [(D, oD)] (compS own.length ix σ) H5 s5 := I5.pins_of fun p hp => by
      have e : p = (D, oD) := by simpa using hp
      subst e
      exact ⟨l5, d5, dX, dF, fun v z => nomatch z⟩
    rcases hcase with ⟨stop, qn⟩ | ⟨go, step⟩
    · refine thn (T.done X' rfl rfl rfl hc i _ s5 _ H5 _ I5' (fp' onlyD fr5) st5 stop) fun r s6 ⟨hr, I6⟩ => ?_
      subst hr
      obtain ⟨m, hn6, _⟩ := id I6.loc
      refine ⟨m, hn6, fun h' hs' => ?_⟩
      have ne : ∀ b u, h3.get? b = some u → h'.get? b = s6.heap.get? b := fun b u q => hs'.2 b (Nat.ne_of_lt (lt3 b u q))
      have b6 : Un (frs X.stack) (D :: fp) H2 H5 h3 s6.heap := I6.base
      have u6 : Un (frs X.stack) (D :: fp) H2 H5 h3 h' := ⟨fun b o q n hb hx => (ne b o q).trans (b6.keep b o q n hb hx), fun b o q n hb hx => by
          obtain ⟨sl, z⟩ := b6.slot b o q n hb hx
          exact ⟨sl, (ne b o q).trans z⟩, b6.free, fun b o q hx => by
          obtain ⟨o', z⟩ := b6.there b o q hx
          exact ⟨o', (ne b o q).trans z⟩, b6.tups, b6.frzs, b6.tbls⟩
      have hC6 : H5 C = none := I6.free
      have hok6 : HOk X.prog X.w H5 h' := fun b ob e => (I6.hok b ob e).stay (fun c w' hc q => (hs'.2 c (by
          rintro rfl
          rcases hc with rfl | hc
          · rw [hC6] at e; cases e
          · rw [hC6] at hc; cases hc)).trans q) (fun _ q => q) fun _ _ q => q
      have I7 : Inv X pins σ H5 { s6 with heap := h' } := I3.call' (s' := { s6 with heap := h' }) (ch := D :: fp) I6.os u6 hok6 I6.bare fun b hb => by
        rcases List.mem_cons.mp hb with z | z
        · subst z
          exact ⟨fD.2.2.2.1, fD.2.1, fD.2.2.2.2.1, fD.2.2.2.2.2⟩
        · have f := f2 b z
          exact ⟨f.2.2.2.1, f.2.1, f.2.2.2.2.1, f.2.2.2.2.2⟩
      obtain ⟨gD, nD, _⟩ := I6.pin (D, oD) (by simp)
      have gD' : h'.get? D = some oD := (hs'.2 D (by rw [hCD]; exact Nat.ne_of_lt (Nat.lt_succ_self _))).trans gD
      exact ⟨.ref D, _, I7.retrack (o := .lst ys) nD ⟨nD, fD.2⟩ ⟨Nat.le_of_lt hz, its, nn, v5, gD'⟩, rfl, qn D nD⟩
    · refine thn (T.item X' rfl rfl rfl hc i _ s5 _ H5 _ I5' (fp' onlyD fr5) st5 go) fun r s6 ⟨u, hr, h6⟩ => ?_
      subst hr
      refine thn h6 fun _ s7 ⟨x, H7, I7, r7, y7, st7, fr7⟩ => ?_
      have I7' := I7.pinned (fp' onlyD fr7) (T.obj _ _ st7)
      refine thn (hg cl C (D :: fp) s3 H2 _ s7 _ H7 x u _ I7' r7 (hgk _ _ _ _ (step x H7 y7))) fun _ s8 ⟨σ8, H8, I8, q8, l8, k8⟩ => ?_
      refine thn (he cl C (D :: fp) s3 H2 _ s8 σ8 H8 _ I8 q8) fun yv s9 ⟨y, H9, I9, r9, m', hm', w9⟩ => ?_
      obtain ⟨gD, nD, _⟩ := I9.pin (D, oD) (by simp)
      have hlen : its.length = ys.length := v5.length.symm
      refine wpAny_list_append_plain (l := D) (items := its.toArray) ⟨nn, gD⟩ (fun h' hl' hs' => ?_) (by rw [List.size_toArray, hlen]; exact Nat.le_of_lt hz)
      have kp : ∀ b o, b ≠ D → s9.heap.get? b = some o → h'.get? b = some o := fun b o hb q => (hs'.2 b hb).trans q
      have I9' : Inv X' (pinsAt fp s7.heap) σ8 H9 s9 := I9.pins_of fun p hp => I9.pin p (by
        refine List.mem_append_right _ (List.mem_append_right _ hp))
      have pinNe : ∀ p ∈ X'.pn ++ pinsAt fp s7.heap, p.1 ≠ D := fun p hp => by
        have q : p ∈ ([] : List (Addr × Obj)) ++ pinsAt fp s7.heap := hp
        exact nfp _ (of_pinsAt (by simpa using q)).1
      have I10 : Inv X' (pinsAt fp s7.heap) σ8 H9 { s9 with heap := h', toks := s9.toks } := I9'.turned (it := D) kp nD dX (.inl List.mem_cons_self) (ok'.exf D List.mem_cons_self).2 pinNe
      refine ⟨m', hm', i + 1, ys ++ [y], its ++ [yv], H9, ?_, ?_, ?_, nD, ?_, v5.append (.cons r9 .nil), w9⟩
      · refine Inv.weak (I10.pins_of (pins' := []) fun p hp => nomatch hp) (by rw [l8]) fun j v hj => ?_
        by_cases hlt : j < own.length
        · unfold compS at hj
          rw [List.getElem?_append_left (by simpa using hlt), List.getElem?_replicate, if_pos hlt] at hj
          cases hj
        · have e : σ8[j]? = (compS own.length ix σ)[j]? := by
            have q := congrArg (fun l : List (Option V) => l[j - own.length]?) k8
            simp only [List.getElem?_drop] at q
            rwa [Nat.add_sub_cancel' (Nat.le_of_not_lt hlt)] at q
          rw [e]; exact hj
      · exact T.keep _ _ _ st7 fun b hb o e => (I10.pin (b, o) (List.mem_append_right _ (mem_pinsAt hb e))).1
      · intro b hb
        obtain ⟨o, e, d⟩ := T.obj _ _ st7 b hb
        exact (I10.pin (b, o) (List.mem_append_right _ (mem_pinsAt hb e))).2.1
      · have e : (its ++ [yv]).toArray = its.toArray.push yv := by simp
        rw [e]; exact hl'
  rw [← hC, ← hD]
  exact codeAny_compStart_list (loop _) (T.self _ 0 _ _ _ (T.keep 0 _ _ st2 fun b _ o e => k34 _ _ (k23 _ _ e)) (loop _))
def compOk (sc : Scope) (outer : List (Str × NameKind)) (N : List Str) (ix : List Nat) : Bool :=
  sc.names.all (fun x => (decide (x.2 ≠ .local) || decide (sc.names.lookup x.1 = some .local)) && decide (x.2 ≠ .cell) && (decide (x.2 ≠ .free) || decide (outer.lookup x.1 = some .cell) || decide (outer.lookup x.1 = some .free))) &&
    ix.all fun j => match N[j]? with
      | some y => decide (sc.names.lookup y = some .free)
      | none => false
theorem pe_cmpr {elt tg iter : Expr} {scope : Scope} {pos : Pos} {wi : TI} {g : TG} {te : TE} (own : List Str) (ix : List Nat) (hi : PI X tg iter wi) (hgk : GK own.length g)
    (hg : ∀ cl C fp s H, PG (cxComp X (compN X own ix) scope cl C fp s H) tg g) (he : ∀ cl C fp s H, PE (cxComp X (compN X own ix) scope cl C fp s H) elt te)
    (hc : X.calm = true := by rfl) (hkind : scope.kind = .function := by rfl) (hok : compOk scope X.env.scope.names X.N ix = true := by rfl)
    (hs : ∀ x, foldedSetIterable iter X.env x = pure x := by intro _; rfl) :
    PE X (.ListComp elt [⟨tg, iter, [], 0⟩] scope pos) (tComp own.length ix wi g te) := by
  unfold compOk at hok
  rw [Bool.and_eq_true, List.all_eq_true, List.all_eq_true] at hok
  obtain ⟨h1, h2⟩ := hok
  refine pe_comp own ix hc hi hkind (fun x hx hl => ?_) (fun x hx => ?_) (fun x hx hf => ?_) (fun j hj => ?_) hgk hg he hs
  · have q := h1 x hx
    simp only [Bool.and_eq_true, Bool.or_eq_true, decide_eq_true_eq] at q
    exact q.1.1.resolve_left fun z => z hl
  · have q := h1 x hx
    simp only [Bool.and_eq_true, Bool.or_eq_true, decide_eq_true_eq] at q
    exact q.1.2
  · have q := h1 x hx
    simp only [Bool.and_eq_true, Bool.or_eq_true, decide_eq_true_eq] at q
    rcases q.2 with (z | z) | z
    · exact absurd hf z
    · exact .inl z
    · exact .inr z
  · have q := h2 j hj
    cases e : X.N[j]? with
    | none => rw [e] at q; cases q
    | some y => rw [e] at q; exact ⟨y, rfl, of_decide_eq_true q⟩
end
end L2
namespace L2
open PySem PySem.Spec PyProof.Rows
section
variable {X : Cx}
def rIsi (K : PySem.W.Frag) : List V → Hp → VK → Prop := fun xs H Q => ∃ x T t b, xs = [x, .ty T] ∧ TyOf K H x t ∧ PySem.W.kitOne K t (.type T) = some b ∧ Q (.bl b) H
theorem call_isi : CallR X (.builtin "isinstance") (rIsi X.K) := by
  intro pins s σ H xs us Q I r h
  obtain ⟨x, T, t, b, rfl, ty, e, q⟩ := h
  obtain ⟨u, w', rfl, ru, rw'⟩ := vals2 r
  cases rw'
  exact isinst_ok I ru ty e fun tk => ⟨.bl b, H, I.tok _, rfl, q⟩
theorem vals_strs : ∀ {ys : List Str} {us : List Value}, Vals (ys.map V.str) us → StrsAre us ys
  | [], _, r => by cases r; exact .nil
  | y :: ys, _, r => by
    cases r with
    | cons h t =>
      obtain ⟨tk, e⟩ := h
      subst e
      exact .cons _ _ (vals_strs t)
def rJoin (K : PySem.W.Frag) : V → List V → Hp → VK → Prop := fun x vs H Q => ∃ z p ys, x = .str z ∧ vs = [.ref p] ∧ SqL K H p (ys.map V.str) ∧ (ys.map (·.length)).sum + ys.length * z.length ≤ 16777216 ∧ Q (.str (Txt.join z ys)) H
theorem mt_join : MtR X "str.join" (rJoin X.K) := by
  intro pins s σ H x vs v us Q I rx rv h
  obtain ⟨z, p, ys, rfl, rfl, hq, hz, q⟩ := h
  obtain ⟨t, rfl⟩ := rx
  obtain ⟨u, rfl, ru⟩ := vals1 rv
  cases ru
  obtain ⟨its, r, pl, hl⟩ := I.list hq
  exact join_list pl.isList (by simpa using vals_strs r) hz fun t' k => ⟨.str _, H, I.tok _, ⟨_, rfl⟩, q⟩
def rIndex : V → List V → Hp → VK → Prop := fun x vs H Q => ∃ z y i rest, x = .str z ∧ vs = [.str y] ∧ Builtin.Str.occurrences z y 0 z.length 1 = i :: rest ∧ Q (.int (i : Nat)) H
theorem mt_index : MtR X "str.index" rIndex := by
  intro pins s σ H x vs v us Q I rx rv h
  obtain ⟨z, y, i, rest, rfl, rfl, ho, q⟩ := h
  obtain ⟨t, rfl⟩ := rx
  obtain ⟨u, rfl, t', rfl⟩ := vals1 rv
  exact SC.index ho ⟨.int _, H, I.tok _, ⟨_, rfl⟩, q⟩
def rSlS : V → Option Int → Option Int → Hp → VK → Prop := fun x lo hi H Q => ∃ z, x = .str z ∧ z.length ≤ sizeLine ∧ Q (.str (Txt.slice z lo hi)) H
theorem sl_str : SlR X rSlS := by
  intro pins s σ H x v vl vu lo hi sl Q I rx hs pl pu h
  obtain ⟨z, rfl, hz, q⟩ := h
  obtain ⟨t, rfl⟩ := rx
  refine ⟨"str", _, F.slot_str_getitem.lookup, typeIs_str _ _ _, ?_⟩
  have fin : ∀ (l u : Option (Int × Tok)), l.map (·.1) = lo → u.map (·.1) = hi → s.heap.IsSlice sl l u none → wpAny (model X.prog X.w) X.A (getItem (.str z t) (.ref sl)) (EP X pins σ Q) X.xe s := fun l u el eu hsl => by
    subst el; subst eu
    exact wpAny_getItem_str_slice hsl rfl (post_val_or_str ⟨Nat.le_trans (Txt.slice_le z (l.map (·.1)) (u.map (·.1))) hz, fun t' k => ⟨.str _, H, I.tok _, ⟨_, rfl⟩, q⟩⟩)
  obtain ⟨o, h1, h2, h3⟩ := hs
  cases pl with
  | none =>
    cases pu with
    | none => exact fin none none rfl rfl ⟨o, h1, h2, h3⟩
    | int j tj => exact fin none (some (j, tj)) rfl rfl ⟨o, h1, h2, h3⟩
  | int i ti =>
    cases pu with
    | none => exact fin (some (i, ti)) none rfl rfl ⟨o, h1, h2, h3⟩
    | int j tj => exact fin (some (i, ti)) (some (j, tj)) rfl rfl ⟨o, h1, h2, h3⟩
theorem bools_get : ∀ {bs : List Bool} {us : List Value}, Vals (bs.map V.bl) us → ∀ (i : Nat) (v : Value), us[i]? = some v → ∃ b, bs[i]? = some b ∧ v = .bool b
  | [], _, r, i, v, e => by cases r; simp at e
  | b :: bs, _, r, i, v, e => by
    cases r with
    | cons h t =>
      cases i with
      | zero =>
        have e' : some _ = some v := e
        cases e'
        exact ⟨b, rfl, h⟩
      | succ j => exact bools_get t j v e
theorem all_range : ∀ (bs : List Bool), ((List.range bs.length).all fun i => (bs[i]?).getD true) = bs.all id := fun bs => by
  have e : ((List.range bs.length).map fun i => (bs[i]?).getD true) = bs := List.ext_getElem (by simp) fun i h1 h2 => by simp [h2]
  have z := List.all_map (l := List.range bs.length) (f := fun i => (bs[i]?).getD true) (p := id)
  rw [e] at z
  exact z.symm
theorem call_all (hc : X.calm = true) : CallR X (.builtin "all") (fun xs H Q => ∃ (p : Addr) (bs : List Bool), xs = [.ref p] ∧ SqL X.K H p (bs.map V.bl) ∧ Q (.bl (bs.all id)) H) := by
  intro pins s σ H xs us Q I r h
  obtain ⟨p, bs, rfl, hq, q⟩ := h
  obtain ⟨u, rfl, ru⟩ := vals1 r
  cases ru
  obtain ⟨its, r', pl, hz⟩ := I.list hq
  have hp : p < s.heap.objs.size := by
    obtain ⟨o, n, e, _⟩ := pl
    exact Heap.lt_size e
  have hlen : its.length = bs.length := by
    have := r'.length
    rw [List.length_map] at this
    exact this.symm
  refine call_all_walk (wpAny_pyIter_list pl.isList ?_)
  refine ⟨s.heap.objs.size, _, _, its.toArray.size, _, _, fun i => (bs[i]?).getD true, rfl, Walks.list (A := X.A.in1) (I.ok.hd hc) _ p (Nat.ne_of_lt hp) its.toArray, ?_, ?_, ?_⟩
  · exact ⟨⟨_, Heap.get?_push_size _ rfl, rfl, rfl⟩, pl.isList.push _⟩
  · intro i v s' Q' E' hP hQ
    obtain ⟨b, e, rfl⟩ := bools_get r' i v (by simpa using hP)
    have hb : (bs[i]?).getD true = b := by rw [e]; rfl
    exact wpAny_truthy_bool (hb ▸ hQ)
  · intro h' tk hk
    rw [List.size_toArray, hlen, all_range]
    refine ⟨.bl (bs.all id), H, I.kept fun b o e => hk b o (fun hm => ?_) (Heap.get?_push_of_some _ e), rfl, q⟩
    have e' : b = s.heap.objs.size := by simpa using hm
    rw [e'] at e
    exact Nat.lt_irrefl _ (Heap.lt_size e)
theorem vals_of_get : ∀ {xs : List V} {us : List Value}, xs.length = us.length → (∀ (j : Nat) (x : V) (u : Value), xs[j]? = some x → us[j]? = some u → RelV x u) → Vals xs us
  | [], [], _, _ => .nil
  | [], _ :: _, h, _ => absurd h (by simp)
  | _ :: _, [], h, _ => absurd h (by simp)
  | x :: xs, u :: us, h, hr => .cons (hr 0 x u rfl rfl) (vals_of_get (by simpa using h) fun j a b e1 e2 => hr (j + 1) a b e1 e2)
theorem call_list_dict (hc : X.calm = true) : CallR X (.type "list") (fun xs H Q => ∃ a kvs, xs = [.ref a] ∧ H a = some (.dK kvs) ∧ ∀ l, H l = none → Q (.ref l) (upd H l (.lst (kvs.map fun kv => kV kv.1)))) := by
  intro pins s σ H xs us Q I r h
  obtain ⟨a, kvs, rfl, ha, q⟩ := h
  obtain ⟨u, rfl, ru⟩ := vals1 r
  cases ru
  obtain ⟨hz, lo, vs, rv, hd⟩ := dk_of I.hok ha
  obtain ⟨ep, hat⟩ := hd.dictAt
  have hlen := rv.length
  refine PySem.W.kdl_call (PySem.W.kdl_dict (knd := mixKind X.prog X.w) (kvs := vs) (ep := ep) lo) (I.ok.hd hc) hat (by rw [← hlen]; exact hz) fun h' tk acc c hk hl hacc => ?_
  refine ⟨.ref s.heap.objs.size, _, I.laid (o := .lst (kvs.map fun kv => kV kv.1)) hk (Nat.le_refl _) ⟨by rw [List.length_map]; exact hz, acc.toList, c, ?_, by rw [Array.toArray_toList]; exact hl⟩, rfl, q _ (I.hok.fresh (Nat.le_refl _))⟩
  obtain ⟨hn, hp⟩ := hacc
  refine vals_of_get (by simp [hn, hlen]) fun j x u e1 e2 => ?_
  obtain ⟨k, y, hy, hk'⟩ := hp j u (by rw [← Array.getElem?_toList]; exact e2)
  rw [List.getElem?_map] at e1
  cases hkv : kvs[j]? with
  | none => rw [hkv] at e1; cases e1
  | some kv =>
    rw [hkv] at e1
    cases e1
    have hkeys := rv.keys
    have e3 : (kvs.map (·.1))[j]? = (vs.map (·.1))[j]? := by rw [hkeys]
    rw [List.getElem?_map, List.getElem?_map, hkv, hy] at e3
    have e4 : kv.1 = k := Option.some.inj e3
    have hk2 : keyIs kv.1 u = true := by rw [e4]; exact hk'
    rcases keyIs_shape hk2 with ⟨i, t, e5, e6⟩ | ⟨z, t, e5, e6⟩
    · show RelV (kV kv.1) u
      rw [e5, e6]; exact ⟨t, rfl⟩
    · show RelV (kV kv.1) u
      rw [e5, e6]; exact ⟨t, rfl⟩
end
end L2
namespace L2
open PySem PySem.Spec PyProof.Rows
def SI (tp : Bool) (h : Heap) (i l : Addr) (k : Nat) (xs : Array Value) : Prop := match tp with
  | false => h.IsListIter i l k ∧ h.IsList l xs
  | true => h.IsTupleIter i l k ∧ h.IsTuple l xs
theorem SI.to {tp : Bool} {h h' : Heap} {i l : Addr} {k : Nat} {xs : Array Value} (z : SI tp h i l k xs) (kp : ∀ b o, (b = i ∨ b = l) → h.get? b = some o → h'.get? b = some o) : SI tp h' i l k xs := by
  cases tp with
  | false => exact ⟨let ⟨o, e, r⟩ := z.1; ⟨o, kp _ _ (.inl rfl) e, r⟩, let ⟨o, e, r⟩ := z.2; ⟨o, kp _ _ (.inr rfl) e, r⟩⟩
  | true => exact ⟨let ⟨o, e, r⟩ := z.1; ⟨o, kp _ _ (.inl rfl) e, r⟩, let ⟨o, e, r⟩ := z.2; ⟨o, kp _ _ (.inr rfl) e, r⟩⟩
theorem SI.but {tp : Bool} {h h' : Heap} {i l b : Addr} {k : Nat} {xs : Array Value} (z : SI tp h i l k xs) (e : Heap.ExtBut b h h') (h1 : i ≠ b) (h2 : l ≠ b) : SI tp h' i l k xs :=
  z.to fun c o hc q => e c o (by rcases hc with hc | hc <;> rw [hc] <;> assumption) q
theorem wp_else {α : Type} {M : Model} {A : Around} {E : Value → Shared → Prop} {s : Shared} {c : Bool} {a b : Sem α} {Q : α → Shared → Prop} (hc : c = false) (h : wpAny M A b Q E s) : wpAny M A (if c = true then a else b) Q E s := by
  subst hc
  rwa [if_neg (by decide)]
section
variable {prog : Program} {w : World} {A : Around} {E : Value → Shared → Prop} {s : Shared}
theorem si_item {tp : Bool} {i l : Addr} {k : Nat} {xs : Array Value} {x : Value} {Q : Value → Shared → Prop} (z : SI tp s.heap i l k xs) (ne : l ≠ i) (hx : xs[k]? = some x)
    (hQ : ∀ g, SI tp g i l (k + 1) xs → Heap.SameBut i s.heap g → Q x { s with heap := g }) : wpAny (model prog w) A (Builtin.SmallTypes.nextOf (.ref i)) Q E s := by
  cases tp with
  | false => exact wpAny_nextOf_list_item z.1 z.2 hx fun g a sb => hQ g ⟨a, z.2.extBut sb.extBut ne⟩ sb
  | true =>
    obtain ⟨z1, z2⟩ := z
    obtain ⟨ob, hob, cob, dob⟩ := id z1
    obtain ⟨ot, hot, _, nt, dt⟩ := id z2
    have sn := F.slot_tuple_iterator_next
    simp only [Builtin.SmallTypes.nextOf]
    refine wpAny_bind (wpAny_callSpecial?_slot (name := Str.ofString "__next__") z1.typeIs sn (wpAny_call_entry sn z1.typeIs F.entry_tuple_iterator_next ?_ (F.args_tuple_iterator_next_1 _)))
    refine wpAny_bind (m := field (.ref i) 0) (wpAny_field hob dob (x := .ref l) rfl (wp_else (c := Value.ref l == .none) rfl ?_))
    refine wpAny_bind (m := field (.ref i) 1) (wpAny_field hob dob (x := .int k 0) rfl (wpAny_bind (m := seqItems? (.ref l)) (wpAny_seqItems hot dt ?_)))
    simp only [hx, Int.toNat_natCast]
    refine wpAny_bind (wpAny_setField hob dob (by simp) (wpAny_pure ⟨x, rfl, wpAny_pure (hQ _ ⟨?_, ?_⟩ (Heap.SameBut.update ..))⟩))
    · refine ⟨_, Heap.get?_update_self _ hob (Obj.isFreed_of_fields (Obj.data_mapFields dob _)), (Obj.cls_mapFields ..).trans cob, ?_⟩
      rw [Obj.data_mapFields dob]; simp [rawInt]
    · exact z2.extBut (Heap.SameBut.update ..).extBut ne
theorem si_end {tp : Bool} {i l : Addr} {k : Nat} {xs : Array Value} {Q : Value → Shared → Prop} (hh : A.handled = none) (z : SI tp s.heap i l k xs) (hx : xs[k]? = none)
    (hE : ∀ g e, Heap.ExtBut i s.heap g → (∃ o, g.get? e = some o ∧ o.cls = .type "StopIteration") → E (.ref e) { s with heap := g }) : wpAny (model prog w) A (Builtin.SmallTypes.nextOf (.ref i)) Q E s := by
  cases tp with
  | false => exact wpAny_nextOf_list_end hh z.1 z.2 hx hE
  | true =>
    obtain ⟨z1, z2⟩ := z
    obtain ⟨ob, hob, cob, dob⟩ := id z1
    obtain ⟨ot, hot, _, nt, dt⟩ := id z2
    have sn := F.slot_tuple_iterator_next
    simp only [Builtin.SmallTypes.nextOf]
    refine wpAny_bind (wpAny_callSpecial?_slot (name := Str.ofString "__next__") z1.typeIs sn (wpAny_call_entry sn z1.typeIs F.entry_tuple_iterator_next ?_ (F.args_tuple_iterator_next_1 _)))
    refine wpAny_bind (m := field (.ref i) 0) (wpAny_field hob dob (x := .ref l) rfl (wp_else (c := Value.ref l == .none) rfl ?_))
    refine wpAny_bind (m := field (.ref i) 1) (wpAny_field hob dob (x := .int k 0) rfl (wpAny_bind (m := seqItems? (.ref l)) (wpAny_seqItems hot dt ?_)))
    simp only [hx, Int.toNat_natCast]
    refine wpAny_bind (wpAny_rule (wpAny_bind (wpAny_setField hob dob (by simp) ?_)))
    refine wpAny_bind (m := newExc (.type "StopIteration") []) ?_
    simp only [newExc, newTuple]
    refine wpAny_bind (wpAny_newObj_type (wpAny_bind (m := firstArgMember _ _) (wpAny_of_eq (a := .none) (by simp only [firstArgMember]; rfl) (wpAny_newObj_type ?_ (by size_fits)))) (by size_fits))
    have nh : A.in1.handled = none := hh
    simp only [raiseNew]
    refine wpAny_bind (wpAny_handled (?_))
    rw [nh]
    exact wpAny_bind (wpAny_pure (wpAny_throw (hE _ _ (((Heap.SameBut.update ..).extBut.push _).push _) ⟨_, Heap.get?_push_size _ rfl, rfl⟩)))
structure ZS (h : Heap) (z TI TO : Addr) (f0 : Value) (t1 : Bool) (i1 l1 : Addr) (xs : Array Value) (t2 : Bool) (i2 l2 : Addr) (ys : Array Value) (k : Nat) : Prop where
  zip : IsZip h z TI TO f0
  its : IsPair h TI (.ref i1) (.ref i2)
  out : ∃ a b, IsPair h TO a b
  one : SI t1 h i1 l1 k xs
  two : SI t2 h i2 l2 k ys
theorem zs_item {z TI TO i1 i2 l1 l2 : Addr} {t1 t2 : Bool} {k : Nat} {xs ys : Array Value} {x y : Value} {Q : Option Value → Shared → Prop} (D : ZipApart z TI TO i1 i2 l1 l2)
    (S : ZS s.heap z TI TO .none t1 i1 l1 xs t2 i2 l2 ys k) (hx : xs[k]? = some x) (hy : ys[k]? = some y)
    (hQ : ∀ g, ZS g z TI TO (rawInt s.heap.objs.size) t1 i1 l1 xs t2 i2 l2 ys (k + 1) → IsPair g s.heap.objs.size x y → g.objs.size = s.heap.objs.size + 1 →
      (∀ c o, c ≠ z → c ≠ TO → c ≠ i1 → c ≠ i2 → s.heap.get? c = some o → g.get? c = some o) → Q (some (.ref s.heap.objs.size)) { s with heap := g }) : wpAny (model prog w) A (pyNext (.ref z)) Q E s := by
  have hT : s.TypeIs (.ref z) "zip" := ⟨_, S.zip, rfl⟩
  obtain ⟨a, b, So⟩ := S.out
  simp only [pyNext]
  refine wpAny_bind (wpAny_attempt (wpAny_callSpecial?_slot (name := Str.ofString "__next__") hT F.slot_zip_next (wpAny_call_entry F.slot_zip_next hT F.entry_zip_next ?_ (F.args_zip_next_1 _))))
  refine wpAny_bind (m := field (.ref z) 2) (wpAny_field S.zip rfl (x := .bool false) rfl (wpAny_bind (m := field (.ref z) 3) (wpAny_field S.zip rfl (x := .ref TI) rfl (wpAny_bind (wpAny_seqItems S.its rfl ?_)))))
  refine wpAny_bind (m := Builtin.SmallTypes.ownedTupleIsFree (.ref z)) (wpAny_bind (m := field (.ref z) 0) (wpAny_field S.zip rfl (x := .none) rfl (wpAny_pure ?_)))
  simp only [if_true]
  refine wpAny_bind (wpAny_rule (wpAny_bind (wpAny_field S.zip rfl (x := .ref TO) rfl (wpAny_bind (wpAny_setField_rec S.zip (by simp) fun g1 z1 s1 => wpAny_bind ?_)))))
  replace z1 : IsZip g1 z TI TO .ellipsis := z1
  simp only [List.forIn_cons, List.forIn_nil, List.zipIdx_cons, List.zipIdx_nil]
  refine wpAny_bind (wpAny_bind (wpAny_onRaise (?_ : wpAny _ _ (Builtin.SmallTypes.nextOf (.ref i1) >>= _) _ _ _)))
  refine wpAny_bind (si_item (S.one.but s1.extBut D.i1z D.l1z) D.l1i1 hx fun g2 a2 s2 => wpAny_pure ?_)
  have o2 : IsPair g2 TO a b := s2.extBut _ _ D.TOi1 (s1.extBut _ _ D.TOz So)
  refine wpAny_bind (wpAny_seqItems o2 rfl ?_)
  refine wpAny_bind (wpAny_updateSeq_pair o2 fun g3 o3 s3 => ?_)
  replace o3 : IsPair g3 TO x b := o3
  refine wpAny_bind (wpAny_letGo (wpAny_pure (wpAny_bind (wpAny_bind (wpAny_onRaise (?_ : wpAny _ _ (Builtin.SmallTypes.nextOf (.ref i2) >>= _) _ _ _))))))
  have b3 : SI t2 g3 i2 l2 k ys := ((S.two.but s1.extBut D.i2z D.l2z).but s2.extBut D.i12.symm D.l2i1).but s3.extBut D.TOi2.symm D.l2TO
  refine wpAny_bind (si_item b3 D.l2i2 hy fun g4 b4 s4 => wpAny_pure ?_)
  have o4 : IsPair g4 TO x b := s4.extBut _ _ D.TOi2 o3
  refine wpAny_bind (wpAny_seqItems o4 rfl ?_)
  refine wpAny_bind (wpAny_updateSeq_pair o4 fun g5 o5 s5 => ?_)
  replace o5 : IsPair g5 TO x y := o5
  refine wpAny_bind (wpAny_letGo (wpAny_pure (wpAny_pure (wpAny_bind (wpAny_seqItems o5 rfl (wpAny_bind (wpAny_newTuple ?_)))))))
  have sz : g5.objs.size = s.heap.objs.size := by rw [s5.1, s4.1, s3.1, s2.1, s1.1]
  have z5 : IsZip g5 z TI TO .ellipsis := s5.extBut _ _ D.TOz.symm (s4.extBut _ _ D.i2z.symm (s3.extBut _ _ D.TOz.symm (s2.extBut _ _ D.i1z.symm z1)))
  have k5 : ∀ c o, c ≠ z → c ≠ TO → c ≠ i1 → c ≠ i2 → s.heap.get? c = some o → g5.get? c = some o := fun c o c1 c2 c3 c4 e =>
    s5.extBut _ _ c2 (s4.extBut _ _ c4 (s3.extBut _ _ c2 (s2.extBut _ _ c3 (s1.extBut _ _ c1 e))))
  have a5 : SI t1 g5 i1 l1 (k + 1) xs := ((a2.but s3.extBut D.TOi1.symm D.l1TO).but s4.extBut D.i12 D.l1i2).but s5.extBut D.TOi1.symm D.l1TO
  have b5 : SI t2 g5 i2 l2 (k + 1) ys := b4.but s5.extBut D.TOi2.symm D.l2TO
  have zlt : z < g5.objs.size := Heap.lt_size z5
  show wpAny _ _ (Builtin.SmallTypes.ownedTupleHandOut (.ref z) (.ref g5.objs.size) >>= _) _ _ _
  refine wpAny_bind ?_
  simp only [Builtin.SmallTypes.ownedTupleHandOut]
  have z6 : IsZip (g5.push { cls := .type "tuple", data := .seq #[x, y] }) z TI TO .ellipsis := Heap.get?_push_of_some _ z5
  refine wpAny_bind (wpAny_setField_rec z6 (by simp) fun g7 z7 s7 => ?_)
  replace z7 : IsZip g7 z TI TO (rawInt g5.objs.size) := z7
  refine wpAny_setField_rec z7 (by simp) fun g8 z8 s8 => ?_
  replace z8 : IsZip g8 z TI TO (rawInt g5.objs.size) := z8
  have up : ∀ c o, c ≠ z → g5.get? c = some o → g8.get? c = some o := fun c o c1 e => s8.extBut _ _ c1 (s7.extBut _ _ c1 (Heap.get?_push_of_some _ e))
  have t8 : IsPair g8 g5.objs.size x y := s8.extBut _ _ (Nat.ne_of_gt zlt) (s7.extBut _ _ (Nat.ne_of_gt zlt) (Heap.get?_push_size _ rfl))
  have sz8 : g8.objs.size = g5.objs.size + 1 := by rw [s8.1, s7.1, Heap.size_push]
  rw [sz] at z8 t8 sz8
  refine wpAny_pure ⟨_, rfl, wpAny_pure ?_⟩
  show Q (some (.ref g5.objs.size)) _
  rw [sz]
  refine hQ g8 ⟨z8, up _ _ D.TIz (k5 _ _ D.TIz D.TITO D.TIi1 D.TIi2 S.its), ⟨_, _, up _ _ D.TOz o5⟩, ?_, ?_⟩ t8 sz8 fun c o c1 c2 c3 c4 e => up c o c1 (k5 c o c1 c2 c3 c4 e)
  · exact a5.to fun c o hc e => up c o (hc.elim (fun q => q ▸ D.i1z) fun q => q ▸ D.l1z) e
  · exact b5.to fun c o hc e => up c o (hc.elim (fun q => q ▸ D.i2z) fun q => q ▸ D.l2z) e
theorem zs_end {z TI TO i1 i2 l1 l2 : Addr} {t1 t2 : Bool} {k : Nat} {xs ys : Array Value} {Q : Option Value → Shared → Prop} (hh : A.handled = none) (D : ZipApart z TI TO i1 i2 l1 l2)
    (S : ZS s.heap z TI TO .none t1 i1 l1 xs t2 i2 l2 ys k) (hend : xs[k]? = none ∨ ys[k]? = none)
    (hQ : ∀ g, (∀ c o, c ≠ z → c ≠ TO → c ≠ i1 → c ≠ i2 → s.heap.get? c = some o → g.get? c = some o) → Q none { s with heap := g }) : wpAny (model prog w) A (pyNext (.ref z)) Q E s := by
  have hT : s.TypeIs (.ref z) "zip" := ⟨_, S.zip, rfl⟩
  obtain ⟨a, b, So⟩ := S.out
  have stop : ∀ (g : Heap) (e : Addr), (∀ c o, c ≠ z → c ≠ TO → c ≠ i1 → c ≠ i2 → s.heap.get? c = some o → g.get? c = some o) → (∃ o, g.get? e = some o ∧ o.cls = .type "StopIteration") →
      wpAny (model prog w) A (do if (← isInstance (.ref e) (.type "StopIteration")) then pure none else throw (.ref e) : Sem (Option Value)) Q E { s with heap := g } := fun g e kp ⟨o, ho, hc⟩ =>
    wpAny_bind (wpAny_isInstance (T := "StopIteration") (b := true) ⟨o, ho, hc⟩ isSubtype_stop (wpAny_pure (hQ g kp)))
  simp only [pyNext]
  refine wpAny_bind (wpAny_attempt (wpAny_callSpecial?_slot (name := Str.ofString "__next__") hT F.slot_zip_next (wpAny_call_entry F.slot_zip_next hT F.entry_zip_next ?_ (F.args_zip_next_1 _))))
  refine wpAny_bind (m := field (.ref z) 2) (wpAny_field S.zip rfl (x := .bool false) rfl (wpAny_bind (m := field (.ref z) 3) (wpAny_field S.zip rfl (x := .ref TI) rfl (wpAny_bind (wpAny_seqItems S.its rfl ?_)))))
  refine wpAny_bind (m := Builtin.SmallTypes.ownedTupleIsFree (.ref z)) (wpAny_bind (m := field (.ref z) 0) (wpAny_field S.zip rfl (x := .none) rfl (wpAny_pure ?_)))
  simp only [if_true]
  refine wpAny_bind (wpAny_rule (wpAny_bind (wpAny_field S.zip rfl (x := .ref TO) rfl (wpAny_bind (wpAny_setField_rec S.zip (by simp) fun g1 z1 s1 => wpAny_bind ?_)))))
  replace z1 : IsZip g1 z TI TO .ellipsis := z1
  simp only [List.forIn_cons, List.forIn_nil, List.zipIdx_cons, List.zipIdx_nil]
  refine wpAny_bind (wpAny_bind (wpAny_onRaise (?_ : wpAny _ _ (Builtin.SmallTypes.nextOf (.ref i1) >>= _) _ _ _)))
  cases hx : xs[k]? with
  | none =>
    refine wpAny_bind (si_end hh (S.one.but s1.extBut D.i1z D.l1z) hx fun g2 e e2 he => ?_)
    obtain ⟨oe, hoe, hce⟩ := he
    have z2 : IsZip g2 z TI TO .ellipsis := e2 _ _ D.i1z.symm z1
    have hez : e ≠ z := fun q => by subst q; rw [z2] at hoe; cases hoe; simp at hce
    refine wpAny_setField_rec z2 (by simp) fun g3 _ s3 => ?_
    exact stop g3 e (fun c o c1 _ c3 _ q => s3.extBut _ _ c1 (e2 _ _ c3 (s1.extBut _ _ c1 q))) ⟨oe, s3.extBut _ _ hez hoe, hce⟩
  | some x =>
    have hy : ys[k]? = none := by rcases hend with q | q; rw [hx] at q; cases q; exact q
    refine wpAny_bind (si_item (S.one.but s1.extBut D.i1z D.l1z) D.l1i1 hx fun g2 a2 s2 => wpAny_pure ?_)
    have o2 : IsPair g2 TO a b := s2.extBut _ _ D.TOi1 (s1.extBut _ _ D.TOz So)
    refine wpAny_bind (wpAny_seqItems o2 rfl ?_)
    refine wpAny_bind (wpAny_updateSeq_pair o2 fun g3 o3 s3 => ?_)
    refine wpAny_bind (wpAny_letGo (wpAny_pure (wpAny_bind (wpAny_bind (wpAny_onRaise (?_ : wpAny _ _ (Builtin.SmallTypes.nextOf (.ref i2) >>= _) _ _ _))))))
    have b3 : SI t2 g3 i2 l2 k ys := ((S.two.but s1.extBut D.i2z D.l2z).but s2.extBut D.i12.symm D.l2i1).but s3.extBut D.TOi2.symm D.l2TO
    refine wpAny_bind (si_end hh b3 hy fun g4 e e4 he => ?_)
    obtain ⟨oe, hoe, hce⟩ := he
    have z4 : IsZip g4 z TI TO .ellipsis := e4 _ _ D.i2z.symm (s3.extBut _ _ D.TOz.symm (s2.extBut _ _ D.i1z.symm z1))
    have hez : e ≠ z := fun q => by subst q; rw [z4] at hoe; cases hoe; simp at hce
    refine wpAny_setField_rec z4 (by simp) fun g5 _ s5 => ?_
    exact stop g5 e (fun c o c1 c2 c3 c4 q => s5.extBut _ _ c1 (e4 _ _ c4 (s3.extBut _ _ c2 (s2.extBut _ _ c3 (s1.extBut _ _ c1 q))))) ⟨oe, s5.extBut _ _ hez hoe, hce⟩
def Wk (tp : Bool) (h : Heap) (l : Addr) (xs : Array Value) : Prop := match tp with
  | false => h.IsList l xs
  | true => h.IsTuple l xs
def iterObj (tp : Bool) (l : Addr) : Obj := { cls := .type (if tp then "tuple_iterator" else "list_iterator"), data := .fields #[.ref l, .int 0 0] }
theorem wk_iter {tp : Bool} {l : Addr} {xs : Array Value} {Q : Value → Shared → Prop} (h : Wk tp s.heap l xs) (q : Q (.ref s.heap.objs.size) { s with heap := s.heap.push (iterObj tp l) }) : wpAny (model prog w) A (pyIter (.ref l)) Q E s := by
  cases tp with
  | false => exact wpAny_pyIter_list h q
  | true => exact wpAny_pyIter_tuple h q
theorem Wk.push {tp : Bool} {h : Heap} {l : Addr} {xs : Array Value} (z : Wk tp h l xs) (o : Obj) : Wk tp (h.push o) l xs := by
  cases tp with
  | false => exact Heap.IsList.push z o
  | true => exact Heap.IsTuple.push z o
end
abbrev zg1 (h : Heap) (t1 : Bool) (l1 : Addr) : Heap := h.push (iterObj t1 l1)
abbrev zg2 (h : Heap) (t1 : Bool) (l1 : Addr) (t2 : Bool) (l2 : Addr) : Heap := (zg1 h t1 l1).push (iterObj t2 l2)
abbrev zg3 (h : Heap) (t1 : Bool) (l1 : Addr) (t2 : Bool) (l2 : Addr) : Heap := (zg2 h t1 l1 t2 l2).push { cls := .type "tuple", data := .seq #[.ref h.objs.size, .ref (zg1 h t1 l1).objs.size] }
abbrev zg4 (h : Heap) (t1 : Bool) (l1 : Addr) (t2 : Bool) (l2 : Addr) : Heap := (zg3 h t1 l1 t2 l2).push { cls := .type "tuple", data := .seq #[.none, .none] }
abbrev zg5 (h : Heap) (t1 : Bool) (l1 : Addr) (t2 : Bool) (l2 : Addr) : Heap := (zg4 h t1 l1 t2 l2).push { cls := .type "zip", data := .fields #[.none, .bool false, .bool false, .ref (zg2 h t1 l1 t2 l2).objs.size, .ref (zg3 h t1 l1 t2 l2).objs.size] }
theorem zip_new_go (t1 t2 : Bool) (l1 l2 : Addr) (xs ys : Array Value) :
    Meets (Builtin.«zip.__new__» ⟨[.type "zip", .ref l1, .ref l2], []⟩) (fun _ R s => Wk t1 s.heap l1 xs ∧ Wk t2 s.heap l2 ys ∧
      R (.ok (.ret (.ref (zg4 s.heap t1 l1 t2 l2).objs.size))) { s with heap := zg5 s.heap t1 l1 t2 l2 }) :=
  .of_wp fun prog w A R s h => by
    obtain ⟨hp, g, d, tk, os⟩ := s; obtain ⟨h1, h2, h⟩ := h
    have hsub := sub_zip
    have k1 : Wk t1 (Shared.heap ⟨hp, g, d, tk, os⟩) l1 xs := h1
    have k2 : Wk t2 (Shared.heap ⟨hp.push (iterObj t1 l1), g, d, tk, os⟩) l2 ys := Wk.push h2 _
    wp_walk using wk_iter k1, wk_iter k2
    exact ⟨_, rfl, h⟩
end L2
namespace L2
open PySem PySem.Spec PyProof.Rows
def SJ (tp : Bool) (h : Heap) (i l : Addr) (k : Nat) : Prop := match tp with
  | false => h.IsListIter i l k
  | true => h.IsTupleIter i l k
theorem SJ.si {tp : Bool} {h : Heap} {i l : Addr} {k : Nat} {xs : Array Value} (z : SJ tp h i l k) (c : Wk tp h l xs) : SI tp h i l k xs := by
  cases tp <;> exact ⟨z, c⟩
theorem SI.sj {tp : Bool} {h : Heap} {i l : Addr} {k : Nat} {xs : Array Value} (z : SI tp h i l k xs) : SJ tp h i l k := by
  cases tp <;> exact z.1
theorem SJ.to {tp : Bool} {h h' : Heap} {i l : Addr} {k : Nat} (z : SJ tp h i l k) (kp : ∀ o, h.get? i = some o → h'.get? i = some o) : SJ tp h' i l k := by
  cases tp with
  | false => exact let ⟨o, e, r⟩ := z; ⟨o, kp _ e, r⟩
  | true => exact let ⟨o, e, r⟩ := z; ⟨o, kp _ e, r⟩
theorem SJ.obj {tp : Bool} {h : Heap} {i l : Addr} {k : Nat} (z : SJ tp h i l k) : ∃ o, h.get? i = some o ∧ ∀ v, o.data ≠ .cell v := by
  cases tp with
  | false => obtain ⟨o, e, _, d⟩ := z; exact ⟨o, e, fun v q => by rw [d] at q; cases q⟩
  | true => obtain ⟨o, e, _, d⟩ := z; exact ⟨o, e, fun v q => by rw [d] at q; cases q⟩
theorem SJ.new (tp : Bool) (h : Heap) (l : Addr) : SJ tp (h.push (iterObj tp l)) h.objs.size l 0 := by
  cases tp <;> exact ⟨_, Heap.get?_push_size _ rfl, rfl, rfl⟩
structure ZR (h : Heap) (z TI TO : Addr) (t1 : Bool) (i1 l1 : Addr) (t2 : Bool) (i2 l2 : Addr) (k : Nat) : Prop where
  zip : IsZip h z TI TO .none
  its : IsPair h TI (.ref i1) (.ref i2)
  out : ∃ a b, IsPair h TO a b
  one : SJ t1 h i1 l1 k
  two : SJ t2 h i2 l2 k
section
variable {prog : Program} {w : World} {A : Around} {E : Value → Shared → Prop} {s : Shared}
theorem call_zip {t1 t2 : Bool} {l1 l2 : Addr} {xs ys : Array Value} {Q : Value → Shared → Prop} (h1 : Wk t1 s.heap l1 xs) (h2 : Wk t2 s.heap l2 ys)
    (h : ∀ g, ZR g (s.heap.objs.size + 4) (s.heap.objs.size + 2) (s.heap.objs.size + 3) t1 s.heap.objs.size l1 t2 (s.heap.objs.size + 1) l2 0 →
      (∀ c o, s.heap.get? c = some o → g.get? c = some o) → Q (.ref (s.heap.objs.size + 4)) { s with heap := g }) : wpAny (model prog w) A (call (.type "zip") [.ref l1, .ref l2]) Q E s := by
  refine callType_new F.called_zip (by decide) (F.typeCall_zip_2 _ _) (F.newCall_zip_2 _ _) (fun obj => F.args_object_init_3 obj _ _) F.entry_zip_new (zip_new_go t1 t2 l1 l2 xs ys) ⟨h1, h2, ?_⟩
  have e1 : (zg1 s.heap t1 l1).objs.size = s.heap.objs.size + 1 := Heap.size_push ..
  have e2 : (zg2 s.heap t1 l1 t2 l2).objs.size = s.heap.objs.size + 2 := by rw [Heap.size_push, e1]
  have e3 : (zg3 s.heap t1 l1 t2 l2).objs.size = s.heap.objs.size + 3 := by rw [Heap.size_push, e2]
  have e4 : (zg4 s.heap t1 l1 t2 l2).objs.size = s.heap.objs.size + 4 := by rw [Heap.size_push, e3]
  have p5 : (zg5 s.heap t1 l1 t2 l2).get? (zg4 s.heap t1 l1 t2 l2).objs.size = some _ := Heap.get?_push_size _ rfl
  have p4 : (zg5 s.heap t1 l1 t2 l2).get? (zg3 s.heap t1 l1 t2 l2).objs.size = some _ := Heap.get?_push_of_some _ (Heap.get?_push_size _ rfl)
  have p3 : (zg5 s.heap t1 l1 t2 l2).get? (zg2 s.heap t1 l1 t2 l2).objs.size = some _ := Heap.get?_push_of_some _ (Heap.get?_push_of_some _ (Heap.get?_push_size _ rfl))
  have p2 : SJ t2 (zg5 s.heap t1 l1 t2 l2) (zg1 s.heap t1 l1).objs.size l2 0 := (SJ.new t2 (zg1 s.heap t1 l1) l2).to fun o q => Heap.get?_push_of_some _ (Heap.get?_push_of_some _ (Heap.get?_push_of_some _ q))
  have p1 : SJ t1 (zg5 s.heap t1 l1 t2 l2) s.heap.objs.size l1 0 := (SJ.new t1 s.heap l1).to fun o q => Heap.get?_push_of_some _ (Heap.get?_push_of_some _ (Heap.get?_push_of_some _ (Heap.get?_push_of_some _ q)))
  show _ ∧ _
  rw [e2, e3, e4] at p5
  rw [e1, e2] at p3
  rw [e3] at p4
  rw [e1] at p2
  rw [e4]
  exact ⟨⟨_, p5, rfl⟩, h _ ⟨p5, p3, ⟨_, _, p4⟩, p1, p2⟩ fun c o q =>
    Heap.get?_push_of_some _ (Heap.get?_push_of_some _ (Heap.get?_push_of_some _ (Heap.get?_push_of_some _ (Heap.get?_push_of_some _ q))))⟩
end
def Sq (K : PySem.W.Frag) (tp : Bool) (H : Hp) (l : Addr) (xs : List V) : Prop := match tp with
  | false => SqL K H l xs
  | true => SqT K H l xs
theorem Inv.sq {X : Cx} {pins : List (Addr × Obj)} {σ : St} {H : Hp} {s : Shared} {tp : Bool} {l : Addr} {xs : List V} (I : Inv X pins σ H s) (h : Sq X.K tp H l xs) : ∃ its : List Value, Vals xs its ∧ Wk tp s.heap l its.toArray := by
  cases tp with
  | false =>
    obtain ⟨its, r, p, _⟩ := I.list h
    exact ⟨its, r, p.isList⟩
  | true =>
    obtain ⟨its, r, p, _⟩ := I.tuple h
    exact ⟨its, r, p⟩
theorem Inv.sq_inj {X : Cx} {pins : List (Addr × Obj)} {σ : St} {H : Hp} {s : Shared} {tp : Bool} {l : Addr} {xs ys : List V} (I : Inv X pins σ H s) (h : Sq X.K tp H l xs) (h' : Sq X.K tp H l ys) : xs = ys := by
  cases tp with
  | false => exact I.list_inj h h'
  | true => exact I.tuple_inj h h'
theorem Wk.lt {tp : Bool} {h : Heap} {l : Addr} {xs : Array Value} (z : Wk tp h l xs) : l < h.objs.size := by
  cases tp with
  | false => obtain ⟨_, e, _⟩ := z; exact Heap.lt_size e
  | true => obtain ⟨_, e, _⟩ := z; exact Heap.lt_size e
def Itz (K : PySem.W.Frag) (t1 : Bool) (l1 : Addr) (t2 : Bool) (l2 : Addr) : It :=
  ⟨fun i H => ∃ xs ys x y, Sq K t1 H l1 xs ∧ Sq K t2 H l2 ys ∧ xs[i]? = some x ∧ ys[i]? = some y,
   fun i H v H' => ∃ p x y, v = .ref p ∧ H p = none ∧ H' = upd H p (.tup [x, y]) ∧ (∀ xs, Sq K t1 H l1 xs → xs[i]? = some x) ∧ ∀ ys, Sq K t2 H l2 ys → ys[i]? = some y,
   fun i H => ∃ xs ys, Sq K t1 H l1 xs ∧ Sq K t2 H l2 ys ∧ (xs.length ≤ i ∨ ys.length ≤ i)⟩
end L2
namespace L2
open PySem PySem.Spec PyProof.Rows
theorem boot_zip' : bootBuiltins "zip" = some (.type "zip") := by decide +kernel
theorem Inv.turnedL {X : Cx} {pins : List (Addr × Obj)} {σ : St} {H : Hp} {s : Shared} {h' : Heap} {t' : Nat} {ch : List Addr} (I : Inv X pins σ H s) (k : ∀ b o, b ∉ ch → s.heap.get? b = some o → h'.get? b = some o) (f : ∀ b ∈ ch, FpOk X pins H b) :
    Inv X pins σ H { s with heap := h', toks := t' } := by
  have ne : ∀ b u, H b = some u → b ∉ ch := fun b u e z => by rw [(f b z).1] at e; cases e
  have nl : X.env.locals ∉ ch := fun z => (f _ z).2.1 rfl
  refine I.step (g' := s.gens) (d' := s.drawn) (ch := ch) (fun b hb => ⟨(f b hb).2.2.2.1, (f b hb).2.1, (f b hb).2.2.2.2.1, (f b hb).2.2.2.2.2⟩) (fun b o _ _ hc e _ => k b o hc e) (fun b o _ _ hc e _ => ⟨o.slots, k b o hc e⟩) (fun _ _ _ _ n => n)
    (fun b o hc e => ⟨o, k b o hc e⟩) (fun _ _ e => e) (fun _ _ _ e => e) (fun b ps e => ⟨#[], by rw [e]; simp⟩) (fun m hm => ?_) (fun b u e => ?_) I.bare
  · obtain ⟨o, es, ep, ho, r⟩ := hm
    exact ⟨o, es, ep, k _ o nl ho, r⟩
  · refine (I.hok b u e).stay (fun c v hc q => k c v ?_ q) (fun _ q => q) fun _ _ q => q
    rcases hc with z | z
    · rw [z]; exact ne b u e
    · exact ne c _ z
theorem mem4 {a b c d x : Addr} (h : x ∈ [a, b, c, d]) : x = a ∨ x = b ∨ x = c ∨ x = d := by simpa using h
theorem turn_zip {P : Program} {w : World} {K : PySem.W.Frag} {elts : List Expr} {x1} {pos : Pos} {z TI TO i1 i2 l1 l2 : Addr} {t1 t2 : Bool} (D : ZipApart z TI TO i1 i2 l1 l2) :
    Turn P w K (.Tuple elts x1 pos) (Itz K t1 l1 t2 l2) [z, TO, i1, i2, TI] z (fun i h => ZR h z TI TO t1 i1 l1 t2 i2 l2 i) where
  mem := by simp
  obj := fun i h st b hb => by
    have q : b = z ∨ b = TO ∨ b = i1 ∨ b = i2 ∨ b = TI := by simpa using hb
    rcases q with q | q | q | q | q <;> rw [q]
    · exact ⟨_, st.zip, fun v e => nomatch e⟩
    · obtain ⟨a, b, e⟩ := st.out
      exact ⟨_, e, fun v e => nomatch e⟩
    · exact st.one.obj
    · exact st.two.obj
    · exact ⟨_, st.its, fun v e => nomatch e⟩
  keep := fun i h h' st k => ⟨k z (by simp) _ st.zip, k TI (by simp) _ st.its, let ⟨a, b, e⟩ := st.out; ⟨a, b, k TO (by simp) _ e⟩, st.one.to fun o e => k i1 (by simp) o e, st.two.to fun o e => k i2 (by simp) o e⟩
  item := by
    intro X hP hw hK hc i pins s σ H E I hf st hg
    subst hP hw hK
    obtain ⟨xs, ys, x, y, q1, q2, hx, hy⟩ := hg
    obtain ⟨its1, r1, w1⟩ := I.sq q1
    obtain ⟨its2, r2, w2⟩ := I.sq q2
    obtain ⟨u1, hu1, ru1⟩ := r1.get hx
    obtain ⟨u2, hu2, ru2⟩ := r2.get hy
    refine zs_item D ⟨st.zip, st.its, st.out, st.one.si w1, st.two.si w2⟩ (x := u1) (y := u2) (by simpa using hu1) (by simpa using hu2) fun g S' hp sz kp => ?_
    have f : ∀ b ∈ [z, TO, i1, i2], FpOk X pins H b := fun b hb => hf b (by
      rcases mem4 hb with q | q | q | q <;> rw [q] <;> simp)
    have kp' : ∀ b o, b ∉ [z, TO, i1, i2] → s.heap.get? b = some o → g.get? b = some o := fun b o hb e => kp b o (fun q => hb (by simp [q])) (fun q => hb (by simp [q])) (fun q => hb (by simp [q])) (fun q => hb (by simp [q])) e
    have I1 : Inv X pins σ H { s with heap := g } := I.turnedL (t' := s.toks) kp' f
    have hn : H s.heap.objs.size = none := I.hok.fresh (Nat.le_refl _)
    have zlt : z < s.heap.objs.size := Heap.lt_size st.zip
    refine ⟨_, rfl, ?_⟩
    refine wpAny_letOwnedTupleGo_zip (s := { s with heap := g }) S'.zip fun g2 z2 s2 => ?_
    have I2 : Inv X pins σ H { s with heap := g2 } := I1.turnedL (s := { s with heap := g }) (t' := s.toks) (ch := [z]) (fun b o hb e => s2.extBut b o (fun q => hb (by simp [q])) e) fun b hb => by
      have q : b = z := by simpa using hb
      rw [q]; exact f z (by simp)
    have pg2 : IsPair g2 s.heap.objs.size u1 u2 := s2.extBut _ _ (Nat.ne_of_gt zlt) hp
    have I3 : Inv X pins σ (upd H s.heap.objs.size (.tup [x, y])) { s with heap := g2 } := I2.retrack hn (I.fpOk (Nat.le_refl _) hn) ⟨by show 2 ≤ sizeLine; decide, [u1, u2], .cons ru1 (.cons ru2 .nil), ⟨_, pg2, rfl, rfl, _, rfl⟩⟩
    have ltf : ∀ b ∈ [z, TO, i1, i2, TI], b < s.heap.objs.size := fun b hb => by
      have q : b = z ∨ b = TO ∨ b = i1 ∨ b = i2 ∨ b = TI := by simpa using hb
      rcases q with q | q | q | q | q <;> rw [q]
      · exact zlt
      · obtain ⟨a, b, e⟩ := st.out
        exact Heap.lt_size e
      · obtain ⟨o, e, _⟩ := st.one.obj
        exact Heap.lt_size e
      · obtain ⟨o, e, _⟩ := st.two.obj
        exact Heap.lt_size e
      · exact Heap.lt_size st.its
    refine ⟨.ref s.heap.objs.size, _, I3, rfl, ⟨_, x, y, rfl, hn, rfl, fun zs h => by rw [I.sq_inj h q1]; exact hx, fun zs h => by rw [I.sq_inj h q2]; exact hy⟩, ?_, fun b hb => ?_⟩
    · refine ⟨z2, s2.extBut _ _ D.TIz S'.its, let ⟨a, b, e⟩ := S'.out; ⟨a, b, s2.extBut _ _ D.TOz e⟩, S'.one.sj.to fun o e => s2.extBut _ _ D.i1z e, S'.two.sj.to fun o e => s2.extBut _ _ D.i2z e⟩
    · rw [upd_ne (Nat.ne_of_lt (ltf b hb))]
      exact (hf b hb).1
  done := by
    intro X hP hw hK hc i pins s σ H E I hf st hg
    subst hP hw hK
    obtain ⟨xs, ys, q1, q2, hend⟩ := hg
    obtain ⟨its1, r1, w1⟩ := I.sq q1
    obtain ⟨its2, r2, w2⟩ := I.sq q2
    have e1 := r1.length
    have e2 := r2.length
    refine zs_end (I.ok.hd hc) D ⟨st.zip, st.its, st.out, st.one.si w1, st.two.si w2⟩ ?_ fun g kp => ⟨rfl, ?_⟩
    · rcases hend with q | q
      · exact .inl (by simp; omega)
      · exact .inr (by simp; omega)
    · refine I.turnedL (t' := s.toks) (ch := [z, TO, i1, i2]) (fun b o hb e => kp b o (fun q => hb (by simp [q])) (fun q => hb (by simp [q])) (fun q => hb (by simp [q])) (fun q => hb (by simp [q])) e) fun b hb => hf b (by
        rcases mem4 hb with q | q | q | q <;> rw [q] <;> simp)
  self := fun _ _ _ _ _ st h => wpAny_pyIter_zip st.zip h
theorem zap (n l1 l2 : Nat) (h1 : l1 < n) (h2 : l2 < n) : ZipApart (n + 4) (n + 2) (n + 3) n (n + 1) l1 l2 := by
  constructor <;> (intro q; have q' : (_ : Nat) = _ := q; omega)
def iZip (K : PySem.W.Frag) (ta : TA) : TI := fun σ H R => ta σ H fun vs H1 => ∃ a b t1 t2 xs ys, vs = [.ref a, .ref b] ∧ Sq K t1 H1 a xs ∧ Sq K t2 H1 b ys ∧ R (Itz K t1 a t2 b) H1
theorem pi_zip {X : Cx} {elts : List Expr} {x1} {tpos : Pos} {a b : Expr} {ta : TA} {p pos : Pos} (hg : Gl X "zip") (hm : X.mg "zip" = none) (ha : PA X [a, b] ta)
    (hs : starEach [a, b] X.env = [(false, eval a X.env), (false, eval b X.env)] := by rfl) (hs2 : starEach [b] X.env = [(false, eval b X.env)] := by rfl) : PI X (.Tuple elts x1 tpos) (.Call (.Name "zip" p) [a, b] [] pos) (iZip X.K ta) := by
  intro pins s σ H R I h
  refine Call_ (ld_blt I hg hm boot_zip' (PyProof.Rows.callWith_type1 (thn (ha pos pins s σ H _ I h) fun us s1 ⟨vs, H1, I1, r1, q1⟩ => ?_) (by rw [hs, hs2]) (by rw [hs2]; rfl)))
  obtain ⟨l1, l2, t1, t2, xs, ys, e, q1, q2, q⟩ := q1
  subst e
  obtain ⟨u, w', rfl, ru, rw'⟩ := vals2 r1
  cases ru
  cases rw'
  obtain ⟨its1, rr1, w1⟩ := I1.sq q1
  obtain ⟨its2, rr2, w2⟩ := I1.sq q2
  have n1 := w1.lt
  have n2 := w2.lt
  refine call_zip w1 w2 fun g S kp => ?_
  refine wpAny_pyIter_zip (s := { s1 with heap := g }) S.zip ?_
  have D := zap _ _ _ n1 n2
  have I2 : Inv X pins σ H1 { s1 with heap := g } := I1.kept (t' := s1.toks) kp
  refine ⟨_, [s1.heap.objs.size + 4, s1.heap.objs.size + 3, s1.heap.objs.size, s1.heap.objs.size + 1, s1.heap.objs.size + 2], _, _, H1, rfl, I2, turn_zip D, S, fun b hb => ?_, q⟩
  have hb' : s1.heap.objs.size ≤ b := by
    have z : b = s1.heap.objs.size + 4 ∨ b = s1.heap.objs.size + 3 ∨ b = s1.heap.objs.size ∨ b = s1.heap.objs.size + 1 ∨ b = s1.heap.objs.size + 2 := by simpa using hb
    rcases z with z | z | z | z | z <;> rw [z] <;> first | exact Nat.le_refl _ | exact Nat.le_add_right _ _
  exact I1.fpOk hb' (I1.hok.fresh hb')
end L2
namespace L2
open PySem PySem.Spec PyProof.Rows
inductive Dat where
  | non | bl (b : Bool) | int (i : Int) | str (x : Str) | tup (ds : List Dat) | lst (ds : List Dat)
mutual
def Dat.beq : Dat → Dat → Bool
  | .non, .non => true
  | .bl a, .bl b => a == b
  | .int a, .int b => a == b
  | .str a, .str b => a == b
  | .tup a, .tup b => Dat.beqs a b
  | .lst a, .lst b => Dat.beqs a b
  | _, _ => false
def Dat.beqs : List Dat → List Dat → Bool
  | [], [] => true
  | a :: as, b :: bs => Dat.beq a b && Dat.beqs as bs
  | _, _ => false
end
mutual
theorem Dat.beq_self : ∀ a : Dat, a.beq a = true
  | .non => by unfold Dat.beq; rfl
  | .bl b => by unfold Dat.beq; exact beq_self_eq_true b
  | .int i => by unfold Dat.beq; exact beq_self_eq_true i
  | .str x => by unfold Dat.beq; exact beq_self_eq_true x
  | .tup ds => by unfold Dat.beq; exact Dat.beqs_self ds
  | .lst ds => by unfold Dat.beq; exact Dat.beqs_self ds
theorem Dat.beqs_self : ∀ a : List Dat, Dat.beqs a a = true
  | [] => by unfold Dat.beqs; rfl
  | a :: as => by unfold Dat.beqs; rw [Dat.beq_self a, Dat.beqs_self as]; rfl
end
mutual
def Has (H : Hp) : V → Dat → Prop
  | v, .non => v = .non
  | v, .bl b => v = .bl b
  | v, .int i => v = .int i
  | v, .str x => v = .str x
  | v, .tup ds => ∃ a xs, v = .ref a ∧ H a = some (.tup xs) ∧ HasL H xs ds
  | v, .lst ds => ∃ a xs, v = .ref a ∧ H a = some (.lst xs) ∧ HasL H xs ds
def HasL (H : Hp) : List V → List Dat → Prop
  | [], [] => True
  | x :: xs, d :: ds => Has H x d ∧ HasL H xs ds
  | _ :: _, [] => False
  | [], _ :: _ => False
end
mutual
theorem Has.mono {H H' : Hp} (e : Same H H') : ∀ (d : Dat) {v : V}, Has H v d → Has H' v d
  | .non, _, h => by unfold Has at h ⊢; exact h
  | .bl _, _, h => by unfold Has at h ⊢; exact h
  | .int _, _, h => by unfold Has at h ⊢; exact h
  | .str _, _, h => by unfold Has at h ⊢; exact h
  | .tup ds, _, h => by
    unfold Has at h ⊢
    obtain ⟨a, xs, h1, h2, h3⟩ := h
    exact ⟨a, xs, h1, e _ _ h2, HasL.mono e ds h3⟩
  | .lst ds, _, h => by
    unfold Has at h ⊢
    obtain ⟨a, xs, h1, h2, h3⟩ := h
    exact ⟨a, xs, h1, e _ _ h2, HasL.mono e ds h3⟩
theorem HasL.mono {H H' : Hp} (e : Same H H') : ∀ (ds : List Dat) {xs : List V}, HasL H xs ds → HasL H' xs ds
  | [], [], h => by unfold HasL; trivial
  | [], _ :: _, h => by unfold HasL at h; exact h.elim
  | _ :: _, [], h => by unfold HasL at h; exact h.elim
  | d :: ds, x :: xs, h => by
    unfold HasL at h ⊢
    exact ⟨Has.mono e d h.1, HasL.mono e ds h.2⟩
end
theorem HasL.length {H : Hp} : ∀ {ds : List Dat} {xs : List V}, HasL H xs ds → xs.length = ds.length
  | [], [], h => rfl
  | [], _ :: _, h => by unfold HasL at h; exact h.elim
  | _ :: _, [], h => by unfold HasL at h; exact h.elim
  | d :: ds, x :: xs, h => by
    unfold HasL at h
    rw [List.length_cons, List.length_cons, HasL.length h.2]
theorem HasL.get {H : Hp} : ∀ {ds : List Dat} {xs : List V} {i : Nat} {x : V}, HasL H xs ds → xs[i]? = some x → ∃ d, ds[i]? = some d ∧ Has H x d
  | [], [], i, x, h, e => by simp at e
  | [], _ :: _, _, _, h, _ => by unfold HasL at h; exact h.elim
  | _ :: _, [], _, _, h, _ => by unfold HasL at h; exact h.elim
  | d :: ds, y :: xs, 0, x, h, e => by
    unfold HasL at h
    have e' : some y = some x := e
    cases e'
    exact ⟨d, rfl, h.1⟩
  | d :: ds, y :: xs, i + 1, x, h, e => by
    unfold HasL at h
    exact HasL.get (i := i) h.2 e
theorem HasL.append {H : Hp} : ∀ {ds es : List Dat} {xs ys : List V}, HasL H xs ds → HasL H ys es → HasL H (xs ++ ys) (ds ++ es)
  | [], _, [], _, _, h => h
  | [], _, _ :: _, _, h, _ => by unfold HasL at h; exact h.elim
  | _ :: _, _, [], _, h, _ => by unfold HasL at h; exact h.elim
  | d :: ds, es, x :: xs, ys, h, h' => by
    unfold HasL at h
    show HasL H (x :: (xs ++ ys)) (d :: (ds ++ es))
    unfold HasL
    exact ⟨h.1, HasL.append h.2 h'⟩
theorem HasL.one {H : Hp} {x : V} {d : Dat} (h : Has H x d) : HasL H [x] [d] := by
  unfold HasL; exact ⟨h, by unfold HasL; trivial⟩
theorem HasL.nil {H : Hp} : HasL H [] [] := by unfold HasL; trivial
theorem HasL.cons {H : Hp} {x : V} {d : Dat} {xs : List V} {ds : List Dat} (h : Has H x d) (t : HasL H xs ds) : HasL H (x :: xs) (d :: ds) := by
  unfold HasL; exact ⟨h, t⟩
mutual
theorem Has.inj {H : Hp} : ∀ (d d' : Dat) {v : V}, Has H v d → Has H v d' → d = d'
  | .non, d', _, h, h' => by
    unfold Has at h; subst h
    cases d' <;> unfold Has at h' <;> first | (obtain ⟨_, _, q, _⟩ := h'; cases q; done) | rfl | (cases h'; done)
  | .bl _, d', _, h, h' => by
    unfold Has at h; subst h
    cases d' <;> unfold Has at h' <;> first | (obtain ⟨_, _, q, _⟩ := h'; cases q; done) | (cases h'; done) | (cases h'; rfl)
  | .int _, d', _, h, h' => by
    unfold Has at h; subst h
    cases d' <;> unfold Has at h' <;> first | (obtain ⟨_, _, q, _⟩ := h'; cases q; done) | (cases h'; done) | (cases h'; rfl)
  | .str _, d', _, h, h' => by
    unfold Has at h; subst h
    cases d' <;> unfold Has at h' <;> first | (obtain ⟨_, _, q, _⟩ := h'; cases q; done) | (cases h'; done) | (cases h'; rfl)
  | .tup ds, d', _, h, h' => by
    unfold Has at h
    obtain ⟨a, xs, h1, h2, h3⟩ := h
    subst h1
    cases d' with
    | tup es =>
      unfold Has at h'
      obtain ⟨b, ys, e1, e2, e3⟩ := h'
      cases e1
      rw [h2] at e2
      cases e2
      rw [HasL.inj ds es h3 e3]
    | lst es =>
      unfold Has at h'
      obtain ⟨b, ys, e1, e2, e3⟩ := h'
      cases e1
      rw [h2] at e2
      cases e2
    | _ => unfold Has at h'; cases h'
  | .lst ds, d', _, h, h' => by
    unfold Has at h
    obtain ⟨a, xs, h1, h2, h3⟩ := h
    subst h1
    cases d' with
    | lst es =>
      unfold Has at h'
      obtain ⟨b, ys, e1, e2, e3⟩ := h'
      cases e1
      rw [h2] at e2
      cases e2
      rw [HasL.inj ds es h3 e3]
    | tup es =>
      unfold Has at h'
      obtain ⟨b, ys, e1, e2, e3⟩ := h'
      cases e1
      rw [h2] at e2
      cases e2
    | _ => unfold Has at h'; cases h'
theorem HasL.inj {H : Hp} : ∀ (ds es : List Dat) {xs : List V}, HasL H xs ds → HasL H xs es → ds = es
  | [], [], _, _, _ => rfl
  | [], _ :: _, xs, h, h' => by
    cases xs <;> unfold HasL at h h'
    · exact h'.elim
    · exact h.elim
  | _ :: _, [], xs, h, h' => by
    cases xs <;> unfold HasL at h h'
    · exact h.elim
    · exact h'.elim
  | d :: ds, e :: es, xs, h, h' => by
    cases xs with
    | nil => unfold HasL at h; exact h.elim
    | cons x xs =>
      unfold HasL at h h'
      rw [Has.inj d e h.1 h'.1, HasL.inj ds es h.2 h'.2]
end
theorem has_tyOf {K : PySem.W.Frag} {H : Hp} {v : V} : ∀ {d : Dat}, Has H v d → TyOf K H v (.type (match d with | .non => "NoneType" | .bl _ => "bool" | .int _ => "int" | .str _ => "str" | .tup _ => "tuple" | .lst _ => "list"))
  | .non, h => by unfold Has at h; subst h; exact .non
  | .bl _, h => by unfold Has at h; subst h; exact .bl _
  | .int _, h => by unfold Has at h; subst h; exact .int _
  | .str _, h => by unfold Has at h; subst h; exact .str _
  | .tup _, h => by unfold Has at h; obtain ⟨a, xs, rfl, e, _⟩ := h; exact .tup e
  | .lst _, h => by unfold Has at h; obtain ⟨a, xs, rfl, e, _⟩ := h; exact .lst e
theorem fl_list {K : PySem.W.Frag} {a : Addr} {xs : List V} {g : TG} {tb : TS} {D : Ends} {σ : St} {H : Hp} (Pv : Nat → St → Hp → Prop) (h0 : Pv 0 σ H) (hl : ∀ i σ H, i ≤ xs.length → Pv i σ H → SqL K H a xs)
    (hs : ∀ (B : St → Hp → Prop) (R : VK) i x σ H, xs[i]? = some x → Pv i σ H → g x σ H fun σ2 H2 => tb { nx := Pv (i + 1), rt := R, bk := B, ct := Pv (i + 1) } σ2 H2) (hd : ∀ σ H, Pv xs.length σ H → D.nx σ H) :
    ∃ W : Nat → Nat → St → Hp → Prop, (∃ m, W 0 m σ H) ∧ ∀ i m σ H, W i m σ H →
      ((Itl K a).stop i H ∧ D.nx σ H) ∨ ((Itl K a).go i H ∧ ∃ N : St → Hp → Prop, (∀ σ' H', N σ' H' → ∃ m', m' < m ∧ W (i + 1) m' σ' H') ∧ ∀ x H', (Itl K a).yld i H x H' → g x σ H' fun σ2 H2 => tb { D with nx := N, ct := N, bk := D.nx } σ2 H2) :=
  for_list Pv h0 hl (fun i x σ H hx p => hs _ _ i x σ H hx p) hd
theorem fl_tup {K : PySem.W.Frag} {a : Addr} {xs : List V} {g : TG} {tb : TS} {D : Ends} {σ : St} {H : Hp} (Pv : Nat → St → Hp → Prop) (h0 : Pv 0 σ H) (hl : ∀ i σ H, i ≤ xs.length → Pv i σ H → SqT K H a xs)
    (hs : ∀ (B : St → Hp → Prop) (R : VK) i x σ H, xs[i]? = some x → Pv i σ H → g x σ H fun σ2 H2 => tb { nx := Pv (i + 1), rt := R, bk := B, ct := Pv (i + 1) } σ2 H2) (hd : ∀ σ H, Pv xs.length σ H → D.nx σ H) :
    ∃ W : Nat → Nat → St → Hp → Prop, (∃ m, W 0 m σ H) ∧ ∀ i m σ H, W i m σ H →
      ((Itt K a).stop i H ∧ D.nx σ H) ∨ ((Itt K a).go i H ∧ ∃ N : St → Hp → Prop, (∀ σ' H', N σ' H' → ∃ m', m' < m ∧ W (i + 1) m' σ' H') ∧ ∀ x H', (Itt K a).yld i H x H' → g x σ H' fun σ2 H2 => tb { D with nx := N, ct := N, bk := D.nx } σ2 H2) :=
  for_tup Pv h0 hl (fun i x σ H hx p => hs _ _ i x σ H hx p) hd
theorem fl_range {lo : Int} {n : Nat} {g : TG} {tb : TS} {D : Ends} {σ : St} {H : Hp} (Pv : Nat → St → Hp → Prop) (h0 : Pv 0 σ H)
    (hs : ∀ (B : St → Hp → Prop) (R : VK) i σ H, i < n → Pv i σ H → g (.int (lo + i)) σ H fun σ2 H2 => tb { nx := Pv (i + 1), rt := R, bk := B, ct := Pv (i + 1) } σ2 H2) (hd : ∀ σ H, Pv n σ H → D.nx σ H) :
    ∃ W : Nat → Nat → St → Hp → Prop, (∃ m, W 0 m σ H) ∧ ∀ i m σ H, W i m σ H →
      ((Itr lo n).stop i H ∧ D.nx σ H) ∨ ((Itr lo n).go i H ∧ ∃ N : St → Hp → Prop, (∀ σ' H', N σ' H' → ∃ m', m' < m ∧ W (i + 1) m' σ' H') ∧ ∀ x H', (Itr lo n).yld i H x H' → g x σ H' fun σ2 H2 => tb { D with nx := N, ct := N, bk := D.nx } σ2 H2) :=
  for_range Pv h0 (fun i σ H hi p => hs _ _ i σ H hi p) hd
end L2
namespace K4
open PySem L2
def top (i : Nat) : Stmt := PySem.Challenge.pw_wantway_k02_no_kinds.main.body.getD i (.Pass ⟨0, 0, 0, 0⟩)
abbrev sIsName : Stmt := top 20
abbrev sIsTag : Stmt := top 21
abbrev sSpelt : Stmt := top 22
abbrev cKinds : Stmt := top 28
abbrev sInit : Stmt := inClass cKinds 0
abbrev sKTake : Stmt := inClass cKinds 1
abbrev sTags : Stmt := inClass cKinds 2
abbrev sPairs : Stmt := inClass cKinds 3
abbrev sNames : Stmt := inClass cKinds 4
abbrev sCell : Stmt := top 30
abbrev sMixed : Stmt := top 31
abbrev sStream : Stmt := top 32
abbrev sTake : Stmt := top 33
abbrev sWords : Stmt := top 34
abbrev sSmall : Stmt := top 35
abbrev sPair : Stmt := top 36
abbrev sKinds : Stmt := top 37
abbrev sSame : Stmt := top 38
abbrev sWord : Stmt := top 39
abbrev sShapeR : Stmt := top 40
abbrev sGood : Stmt := top 41
abbrev sBad : Stmt := top 42
abbrev sOther : Stmt := top 43
abbrev sSpoilt : Stmt := top 44
abbrev sRefused : Stmt := top 45
abbrev sLaw : Stmt := top 46
theorem scSame : FnScope ["found", "due"] ["found", "due"] (defScope sSame) := ⟨rfl, rfl, rfl, by decide +kernel, rfl, by decide +kernel, by decide +kernel⟩
theorem scTake : FnScope ["stream", "many", "number"] ["stream", "many"] (defScope sTake) := ⟨rfl, rfl, rfl, by decide +kernel, rfl, by decide +kernel, by decide +kernel⟩
end K4
namespace L2
open PySem PySem.Spec PyProof.Rows
theorem kit_same (K : PySem.W.Frag) (T : String) : PySem.W.kitOne K (.type T) (.type T) = some true := by
  unfold PySem.W.kitOne
  rw [if_pos (by simp)]
theorem kit_no {K : PySem.W.Frag} : ∀ {a b : String}, (a, b) ∈ [("NoneType", "bool"), ("NoneType", "str"), ("NoneType", "int"), ("NoneType", "tuple"), ("NoneType", "list"), ("int", "bool"), ("int", "str"), ("int", "tuple"), ("int", "list"), ("str", "bool"), ("str", "int"), ("str", "tuple"), ("str", "list"), ("bool", "str"), ("bool", "tuple"), ("bool", "list"), ("tuple", "bool"), ("tuple", "str"), ("tuple", "int"), ("tuple", "list"), ("list", "bool"), ("list", "str"), ("list", "int"), ("list", "tuple")] → PySem.W.kitOne K (.type a) (.type b) = some false := by
  intro a b h
  simp only [List.mem_cons, Prod.mk.injEq, List.not_mem_nil, or_false] at h
  rcases h with ⟨rfl, rfl⟩ | ⟨rfl, rfl⟩ | ⟨rfl, rfl⟩ | ⟨rfl, rfl⟩ | ⟨rfl, rfl⟩ | ⟨rfl, rfl⟩ | ⟨rfl, rfl⟩ | ⟨rfl, rfl⟩ | ⟨rfl, rfl⟩ | ⟨rfl, rfl⟩ | ⟨rfl, rfl⟩ | ⟨rfl, rfl⟩ | ⟨rfl, rfl⟩ | ⟨rfl, rfl⟩ | ⟨rfl, rfl⟩ | ⟨rfl, rfl⟩ | ⟨rfl, rfl⟩ | ⟨rfl, rfl⟩ | ⟨rfl, rfl⟩ | ⟨rfl, rfl⟩ | ⟨rfl, rfl⟩ | ⟨rfl, rfl⟩ | ⟨rfl, rfl⟩ | ⟨rfl, rfl⟩ <;> kernel_rfl
theorem boot_tuple' : bootBuiltins "tuple" = some (.type "tuple") := by decide +kernel
theorem boot_list' : bootBuiltins "list" = some (.type "list") := by decide +kernel
theorem boot_str' : bootBuiltins "str" = some (.type "str") := by decide +kernel
theorem boot_int' : bootBuiltins "int" = some (.type "int") := by decide +kernel
theorem boot_bool' : bootBuiltins "bool" = some (.type "bool") := by decide +kernel
theorem boot_isi' : bootBuiltins "isinstance" = some (.builtin "isinstance") := by decide +kernel
theorem boot_all' : bootBuiltins "all" = some (.builtin "all") := by decide +kernel
theorem boot_max' : bootBuiltins "max" = some (.builtin "max") := by decide +kernel
theorem pe_isi {X : Cx} {e : Expr} {te : TE} {T : String} {x : Str} {p p' pos : Pos} (hg : Gl X "isinstance") (hm : X.mg "isinstance" = none) (hg' : Gl X x) (hm' : X.mg x = none) (hv : bootBuiltins x = some (.type T)) (he : PE X e te)
    (hn : x ≠ "__name__" := by decide) (hdb : (x == ("__debug__" : Str)) = false := by decide) (hs : starEach [e, .Name x p'] X.env = (false, eval e X.env) :: starEach [.Name x p'] X.env := by rfl) :
    PE X (.Call (.Name "isinstance" p) [e, .Name x p'] [] pos) (tCB (rIsi X.K) (tCons te (tCons (tC (.ty T)) tNil))) :=
  pe_callB call_isi hg hm boot_isi' (pa_cons he (pa_cons (pe_bltn hg' hm' hv rfl hn hdb) pa_nil) hs) (he := hs)
def tyD : Dat → String
  | .non => "NoneType" | .bl _ => "bool" | .int _ => "int" | .str _ => "str" | .tup _ => "tuple" | .lst _ => "list"
theorem has_ty {K : PySem.W.Frag} {H : Hp} {v : V} {d : Dat} (h : Has H v d) : TyOf K H v (.type (tyD d)) := by
  have q := has_tyOf (K := K) h
  cases d <;> exact q
def isD (T : String) (d : Dat) : Bool := decide (tyD d = T) || (T == "int" && decide (tyD d = "bool"))
theorem kit_of (K : PySem.W.Frag) (d : Dat) {T : String} (hT : T ∈ ["bool", "str", "int", "tuple", "list"]) : PySem.W.kitOne K (.type (tyD d)) (.type T) = some (isD T d) := by
  simp only [List.mem_cons, List.not_mem_nil, or_false] at hT
  rcases hT with rfl | rfl | rfl | rfl | rfl <;> cases d <;> kernel_rfl
mutual
def Dat.dep : Dat → Nat
  | .tup ds => 1 + Dat.deps ds
  | .lst ds => 1 + Dat.deps ds
  | _ => 0
def Dat.deps : List Dat → Nat
  | [] => 0
  | d :: ds => max d.dep (Dat.deps ds)
end
theorem Dat.deps_get : ∀ {ds : List Dat} {i : Nat} {d : Dat}, ds[i]? = some d → d.dep ≤ Dat.deps ds
  | [], i, d, e => by simp at e
  | a :: ds, 0, d, e => by
    have e' : some a = some d := e
    cases e'
    unfold Dat.deps; exact Nat.le_max_left _ _
  | a :: ds, i + 1, d, e => by
    have q := Dat.deps_get (ds := ds) (i := i) e
    unfold Dat.deps; exact Nat.le_trans q (Nat.le_max_right _ _)
mutual
def Dat.wid : Dat → Nat
  | .tup ds => max ds.length (Dat.wids ds)
  | .lst ds => max ds.length (Dat.wids ds)
  | _ => 0
def Dat.wids : List Dat → Nat
  | [] => 0
  | d :: ds => max d.wid (Dat.wids ds)
end
theorem Dat.wids_get : ∀ {ds : List Dat} {i : Nat} {d : Dat}, ds[i]? = some d → d.wid ≤ Dat.wids ds
  | [], i, d, e => by simp at e
  | a :: ds, 0, d, e => by
    have e' : some a = some d := e
    cases e'
    unfold Dat.wids; exact Nat.le_max_left _ _
  | a :: ds, i + 1, d, e => by
    have q := Dat.wids_get (ds := ds) (i := i) e
    unfold Dat.wids; exact Nat.le_trans q (Nat.le_max_right _ _)
theorem beqs_all : ∀ {as bs : List Dat}, as.length = bs.length → ((List.range as.length).map fun i => ((as[i]?).getD .non).beq ((bs[i]?).getD .non)).all id = Dat.beqs as bs
  | [], [], _ => by unfold Dat.beqs; rfl
  | [], _ :: _, h => by simp at h
  | _ :: _, [], h => by simp at h
  | a :: as, b :: bs, h => by
    have ih := beqs_all (as := as) (bs := bs) (by simpa using h)
    rw [List.length_cons, List.range_succ_eq_map, List.map_cons, List.all_cons, List.map_map]
    unfold Dat.beqs
    rw [← ih]
    rfl
theorem beq_tup (a b : List Dat) : (Dat.tup a).beq (Dat.tup b) = Dat.beqs a b := by
  conv => lhs; unfold Dat.beq
theorem beq_lst (a b : List Dat) : (Dat.lst a).beq (Dat.lst b) = Dat.beqs a b := by
  conv => lhs; unfold Dat.beq
theorem beqs_len : ∀ {as bs : List Dat}, as.length ≠ bs.length → Dat.beqs as bs = false
  | [], [], h => absurd rfl h
  | [], _ :: _, _ => by unfold Dat.beqs; rfl
  | _ :: _, [], _ => by unfold Dat.beqs; rfl
  | a :: as, b :: bs, h => by
    unfold Dat.beqs
    rw [beqs_len (as := as) (bs := bs) fun z => h (by rw [List.length_cons, List.length_cons, z]), Bool.and_false]
theorem iteP {c A B : Prop} [Decidable c] (hc : c) (h : A) : if c then A else B := by
  rw [if_pos hc]; exact h
theorem iteM {c A B : Prop} [Decidable c] (hc : ¬ c) (h : B) : if c then A else B := by
  rw [if_neg hc]; exact h
theorem comp_form {J : It} {g : TG} {te : TE} {s0 : St} {Q : VK} {H : Hp} (n : Nat) (hn : n < sizeLine) (Pv : Nat → List V → Hp → Prop) (h0 : Pv 0 [] H) (hlen : ∀ i vs H, Pv i vs H → vs.length = i)
    (hgo : ∀ i vs H, i < n → Pv i vs H → J.go i H) (hstop : ∀ vs H, Pv n vs H → J.stop n H)
    (hs : ∀ i vs H x H' (R : V → Hp → Prop), i < n → Pv i vs H → J.yld i H x H' → (∀ v H3, Pv (i + 1) (vs ++ [v]) H3 → R v H3) → g x s0 H' fun s2 H2 => te s2 H2 R)
    (hd : ∀ vs H p, Pv n vs H → H p = none → Q (.ref p) (upd H p (.lst vs))) :
    CompW J g te s0 Q H := by
  refine ⟨fun i m vs H => m = n - i ∧ i ≤ n ∧ Pv i vs H, ⟨n, by simp, Nat.zero_le _, h0⟩, ?_⟩
  rintro i m vs H ⟨rfl, hi, p⟩
  have hl := hlen i vs H p
  refine ⟨by omega, ?_⟩
  by_cases hlt : i < n
  · exact .inr ⟨hgo i vs H hlt p, fun x H' y => hs i vs H x H' _ hlt p y fun v H3 p3 => ⟨n - (i + 1), by omega, rfl, hlt, p3⟩⟩
  · have e : i = n := by omega
    subst e
    exact .inl ⟨hstop vs H p, fun a ha => hd vs H a p ha⟩
theorem same_upd {H : Hp} {p : Addr} (h : H p = none) (o : HO) : Same H (upd H p o) := fun b u q => by rw [upd_ne (ne_of_none q h)]; exact q
theorem range_map_snoc {α : Type} (f : Nat → α) (i : Nat) : (List.range i).map f ++ [f i] = (List.range (i + 1)).map f := by
  rw [List.range_succ, List.map_append]; rfl
structure Blt (mg : Str → Option Value) : Prop where
  len : mg "len" = none
  isi : mg "isinstance" = none
  bool : mg "bool" = none
  str : mg "str" = none
  int : mg "int" = none
  tuple : mg "tuple" = none
  list : mg "list" = none
  dict : mg "dict" = none
  all : mg "all" = none
  zip : mg "zip" = none
  max : mg "max" = none
  range : mg "range" = none
  sorted : mg "sorted" = none
end L2
namespace K4
open PySem L2
section
variable {P : Program} {w : World} {K : PySem.W.Frag} {mg : Str → Option Value} {base : Heap} {f : Addr} {fd : FuncData}
theorem nd_two : List.Nodup [("one" : Str), "other"] := by decide +kernel
theorem gk_two {K : PySem.W.Frag} : GK 2 (gTup K 2 (gCons (gName 0) (gCons (gName 1) gNil))) :=
  gk_tup (gk_cons (gk_name (i := 0) (by decide)) (gk_cons (gk_name (i := 1) (by decide)) gk_nil (fun _ _ _ _ _ h z => h _ _ z) (fun _ _ _ _ _ h z => ⟨z.1, h _ _ z.2⟩)) (fun _ _ _ _ _ h z => h _ _ z)
    (fun _ _ _ _ _ h z => let ⟨v, r, e, z⟩ := z; ⟨v, r, e, z.1, h _ _ z.2⟩))
def spSame (n : Nat) : Sp := fun vs H Q _ => ∃ x y dx dy, vs = [x, y] ∧ Has H x dx ∧ Has H y dy ∧ dy.dep < n ∧ dy.wid ≤ 1000 ∧ ∀ H', Same H H' → Q (.bl (dx.beq dy)) H'
theorem ok_same {n : Nat} (B : Blt mg) (F : Fun K "_law_same" "_law_same" sSame f fd) (G : FnOk P w K mg base CX0 n f fd ["found", "due"] (spSame n)) (bG : Binds K fd ["found", "due"] []) (mG : mg "_law_same" = some (.ref f)) :
    FnOk P w K mg base CX0 (n + 1) f fd ["found", "due"] (spSame (n + 1)) := by
  refine F.ok scSame (fun vs H Q E h => ?_) (fun cdv A outer s H vs Q E hr h => ?_)
  · obtain ⟨x, y, dx, dy, rfl, _⟩ := h
    rfl
  obtain ⟨x, y, dx, dy, rfl, hx, hy, hd, hw, q⟩ := h
  refine ⟨_, pss_cons (ps_if (pt_cmpR op_isN (pv 1) pe_non (nomark _)) (pss_one (ps_ret (pe_cmpR op_isN (pv 0) pe_non (nomark _)))) pss_nil)
    (pss_cons (ps_if (pt_val (pe_isi rfl B.isi rfl B.bool boot_bool' (pv 1))) (pss_one (ps_ret (pe_and (pe_isi rfl B.isi rfl B.bool boot_bool' (pv 0)) (pe_one (pe_cmpR op_eq (pv 0) (pv 1) (nomark _)))))) pss_nil)
    (pss_cons (ps_if (pt_val (pe_isi rfl B.isi rfl B.str boot_str' (pv 1))) (pss_one (ps_ret (pe_and (pe_isi rfl B.isi rfl B.str boot_str' (pv 0)) (pe_one (pe_cmpR op_eq (pv 0) (pv 1) (nomark _)))))) pss_nil)
    (pss_cons (ps_if (pt_val (pe_isi rfl B.isi rfl B.int boot_int' (pv 1))) (pss_one (ps_ret (pe_and (pe_isi rfl B.isi rfl B.int boot_int' (pv 0)) (pe_and (pe_not (pe_isi rfl B.isi rfl B.bool boot_bool' (pv 0))) (pe_one (pe_cmpR op_eq (pv 0) (pv 1) (nomark _))))))) pss_nil)
    (pss_cons (ps_if (PW.pt (pw_or (PW.pt (pw_and (pt_val (pe_isi rfl B.isi rfl B.tuple boot_tuple' (pv 1))) (pw_and1 (pt_not (pt_val (pe_isi rfl B.isi rfl B.tuple boot_tuple' (pv 0)))))))
        (pw_or1 (PW.pt (pw_and (pt_val (pe_isi rfl B.isi rfl B.list boot_list' (pv 1))) (pw_and1 (pt_not (pt_val (pe_isi rfl B.isi rfl B.list boot_list' (pv 0)))))))))) (pss_one (ps_ret pe_bl)) pss_nil)
    (pss_cons (ps_if (pt_cmpR op_ne (pe_callB call_len_seq rfl B.len PySem.boot_len (pa_cons (pv 0) pa_nil)) (pe_callB call_len_seq rfl B.len PySem.boot_len (pa_cons (pv 1) pa_nil)) (nomark _)) (pss_one (ps_ret pe_bl)) pss_nil)
    (pss_one (ps_ret (pe_callB (call_all rfl) rfl B.all boot_all' (pa_cons (pe_cmpr ["one", "other"] [] (pi_zip rfl B.zip (pa_cons (pv 0) (pa_cons (pv 1) pa_nil))) gk_two
        (fun cl C fp s H => pg_tup (n := 2) rfl (pgs_cons (pg_name (i := 0) nd_two rfl (Or.inl rfl) (Or.inr rfl)) (pgs_cons (pg_name (i := 1) nd_two rfl (Or.inl rfl) (Or.inr rfl)) pgs_nil)))
        (fun cl C fp s H => pe_call G hr rfl mG F.kp bG .nil pass0 (pa_cons (pv 0) (pa_cons (pv 1) pa_nil)))) pa_nil))))))))), ?_⟩
  have tY := has_ty (K := K) hy
  have tX := has_ty (K := K) hx
  have fin : ∀ k, k = dx.beq dy → Q (.bl k) H := fun k e => by rw [e]; exact q H (Same.refl _)
  -- due is None
  refine ⟨_, rfl, rfl, _, rfl, ?_⟩
  refine ite2 (fun c => ?_) (fun c => ?_)
  · have ey : y = .non := of_decide_eq_true c
    have ed : dy = .non := Has.inj dy .non hy (by unfold Has; exact ey)
    subst ed
    refine ⟨_, rfl, rfl, fin _ ?_⟩
    cases dx <;> unfold Has at hx
    · rw [hx]; rfl
    · rw [hx]; rfl
    · rw [hx]; rfl
    · rw [hx]; rfl
    · obtain ⟨a, xs, rfl, _⟩ := hx; rfl
    · obtain ⟨a, xs, rfl, _⟩ := hx; rfl
  have ny : dy ≠ .non := fun z => by
    subst z
    unfold Has at hy
    exact c (decide_eq_true hy)
  -- a truth
  refine ⟨_, rfl, _, _, _, _, rfl, tY, kit_of K dy (by simp), _, rfl, ?_⟩
  refine ite2 (fun c1 => ?_) (fun c1 => ?_)
  · cases dy <;> simp [isD, tyD] at c1
    rename_i b
    have ey : y = .bl b := by unfold Has at hy; exact hy
    subst ey
    refine ⟨_, rfl, _, _, _, _, rfl, tX, kit_of K dx (by simp), _, rfl, ?_⟩
    refine ite2 (fun c2 => ?_) (fun c2 => ?_)
    · cases dx <;> simp [isD, tyD] at c2
      rename_i a
      have ex : x = .bl a := by unfold Has at hx; exact hx
      subst ex
      refine ⟨_, rfl, _, rfl, rfl, fin _ ?_⟩
      rw [dec_bl]; unfold Dat.beq; rfl
    · refine fin _ ?_
      cases dx <;> first | (simp [isD, tyD] at c2; done) | (unfold Dat.beq; rfl)
  -- a text
  refine ⟨_, rfl, _, _, _, _, rfl, tY, kit_of K dy (by simp), _, rfl, ?_⟩
  refine ite2 (fun c2 => ?_) (fun c2 => ?_)
  · cases dy <;> simp [isD, tyD] at c2
    rename_i b
    have ey : y = .str b := by unfold Has at hy; exact hy
    subst ey
    refine ⟨_, rfl, _, _, _, _, rfl, tX, kit_of K dx (by simp), _, rfl, ?_⟩
    refine ite2 (fun c3 => ?_) (fun c3 => ?_)
    · cases dx <;> simp [isD, tyD] at c3
      rename_i a
      have ex : x = .str a := by unfold Has at hx; exact hx
      subst ex
      refine ⟨_, rfl, _, rfl, rfl, fin _ ?_⟩
      rw [dec_str]; unfold Dat.beq; rfl
    · refine fin _ ?_
      cases dx <;> first | (simp [isD, tyD] at c3; done) | (unfold Dat.beq; rfl)
  -- an int
  refine ⟨_, rfl, _, _, _, _, rfl, tY, kit_of K dy (by simp), _, rfl, ?_⟩
  refine ite2 (fun c3 => ?_) (fun c3 => ?_)
  · cases dy <;> simp [isD, tyD] at c3 c1
    rename_i b
    have ey : y = .int b := by unfold Has at hy; exact hy
    subst ey
    refine ⟨_, rfl, _, _, _, _, rfl, tX, kit_of K dx (by simp), _, rfl, ?_⟩
    refine ite2 (fun c4 => ?_) (fun c4 => ?_)
    · refine ⟨_, rfl, _, _, _, _, rfl, tX, kit_of K dx (by simp), _, rfl, _, rfl, ?_⟩
      refine ite2 (fun c5 => ?_) (fun c5 => ?_)
      · cases dx <;> simp [isD, tyD] at c4 c5
        rename_i a
        have ex : x = .int a := by unfold Has at hx; exact hx
        subst ex
        refine ⟨_, rfl, _, rfl, rfl, fin _ ?_⟩
        rw [dec_int]; unfold Dat.beq; rfl
      · refine fin _ ?_
        cases dx <;> first | (simp [isD, tyD] at c4 c5; done) | (unfold Dat.beq; rfl)
    · refine fin _ ?_
      cases dx <;> first | (simp [isD, tyD] at c4; done) | (unfold Dat.beq; rfl)
  cases dy with
  | non => exact absurd rfl ny
  | bl b => simp [isD, tyD] at c1
  | int b => simp [isD, tyD] at c3
  | str b => simp [isD, tyD] at c2
  | tup es =>
    have hlt : Dat.deps es < n := by unfold Dat.dep at hd; omega
    have hw1 : es.length ≤ 1000 := by unfold Dat.wid at hw; exact Nat.le_trans (Nat.le_max_left _ _) hw
    have hw2 : Dat.wids es ≤ 1000 := by unfold Dat.wid at hw; exact Nat.le_trans (Nat.le_max_right _ _) hw
    refine ⟨_, rfl, _, _, _, _, rfl, tY, kit_of K _ (by simp), _, rfl, ?_⟩
    refine iteP rfl ?_
    refine ⟨_, rfl, _, _, _, _, rfl, tX, kit_of K dx (by simp), _, rfl, ?_⟩
    refine ite2 (fun c4 => ?_) (fun c4 => ?_)
    · refine iteP rfl (fin _ ?_)
      cases dx <;> first | (simp [isD, tyD] at c4; done) | (unfold Dat.beq; rfl)
    refine ⟨_, rfl, _, _, _, _, rfl, tY, kit_of K _ (by simp), _, rfl, ?_⟩
    refine iteM (by simp [isD, tyD]) (iteM (by simp) ?_)
    cases dx <;> simp [isD, tyD] at c4
    rename_i ds
    unfold Has at hx hy
    obtain ⟨a, xs, rfl, ha, hxs⟩ := hx
    obtain ⟨b, ys, rfl, hb, hys⟩ := hy
    have l1 := hxs.length
    have l2 := hys.length
    refine ⟨_, rfl, a, xs, rfl, .inr (SqT.of ha), _, rfl, b, ys, rfl, .inr (SqT.of hb), rfl, _, rfl, ?_⟩
    refine ite2 (fun c5 => ?_) (fun c5 => ?_)
    · refine fin _ ?_
      have ne : xs.length ≠ ys.length := fun z => by rw [z] at c5; simp at c5
      unfold Dat.beq
      rw [beqs_len (by rw [← l1, ← l2]; exact ne)]
    have el : xs.length = ys.length := by
      apply Classical.byContradiction
      intro z
      refine c5 ?_
      have z' : ¬ V.int (xs.length : Nat) = V.int (ys.length : Nat) := fun w => by injection w with w; exact z (by omega)
      rw [decide_eq_false z']; rfl
    have hsz : xs.length < sizeLine := small1000 (by omega)
    refine ⟨_, rfl, _, rfl, a, b, true, true, xs, ys, rfl, SqT.of ha, SqT.of hb, ?_⟩
    refine comp_form xs.length hsz (fun i vs H' => Same H H' ∧ vs = (List.range i).map fun j => V.bl (((ds[j]?).getD .non).beq ((es[j]?).getD .non))) ⟨Same.refl _, rfl⟩ (fun i vs H' z => by rw [z.2]; simp) ?_ ?_ ?_ ?_
    · intro i vs H' hi z
      exact ⟨xs, ys, xs[i], ys[i], SqT.of (z.1 _ _ ha), SqT.of (z.1 _ _ hb), by simp [hi], by simp [← el, hi]⟩
    · intro vs H' z
      exact ⟨xs, ys, SqT.of (z.1 _ _ ha), SqT.of (z.1 _ _ hb), .inl (Nat.le_refl _)⟩
    · intro i vs H' x H'' R hi z yl hR
      obtain ⟨p, x1, y1, rfl, hp, rfl, g1, g2⟩ := yl
      have e1 := g1 xs (SqT.of (z.1 _ _ ha))
      have e2 := g2 ys (SqT.of (z.1 _ _ hb))
      obtain ⟨d1, hd1, hh1⟩ := hxs.get e1
      obtain ⟨d2, hd2, hh2⟩ := hys.get e2
      have s1 := z.1.trans (same_upd hp (.tup [x1, y1]))
      refine ⟨p, [x1, y1], rfl, SqT.of upd_same, rfl, x1, [y1], rfl, y1, [], rfl, rfl, ?_⟩
      refine ⟨_, rfl, _, rfl, x1, y1, d1, d2, rfl, hh1.mono s1, hh2.mono s1, Nat.lt_of_le_of_lt (Dat.deps_get hd2) hlt, Nat.le_trans (Dat.wids_get hd2) hw2, fun H3 s3 => hR _ _ ⟨s1.trans s3, ?_⟩⟩
      rw [z.2, ← range_map_snoc, hd1, hd2]
      rfl
    · intro vs H' p z hp
      refine ⟨p, (List.range xs.length).map fun j => ((ds[j]?).getD .non).beq ((es[j]?).getD .non), rfl, SqL.of (by rw [upd_same, z.2, List.map_map]; rfl), ?_⟩
      have e : ((List.range xs.length).map fun j => ((ds[j]?).getD .non).beq ((es[j]?).getD .non)).all id = (Dat.tup ds).beq (Dat.tup es) := by
        rw [beq_tup, ← beqs_all (by rw [← l1, ← l2]; exact el), l1]
      rw [e]
      exact q _ (z.1.trans (same_upd hp _))
  | lst es =>
    have hlt : Dat.deps es < n := by unfold Dat.dep at hd; omega
    have hw1 : es.length ≤ 1000 := by unfold Dat.wid at hw; exact Nat.le_trans (Nat.le_max_left _ _) hw
    have hw2 : Dat.wids es ≤ 1000 := by unfold Dat.wid at hw; exact Nat.le_trans (Nat.le_max_right _ _) hw
    refine ⟨_, rfl, _, _, _, _, rfl, tY, kit_of K _ (by simp), _, rfl, ?_⟩
    refine iteM (by simp [isD, tyD]) (iteM (by simp) ?_)
    refine ⟨_, rfl, _, _, _, _, rfl, tY, kit_of K _ (by simp), _, rfl, ?_⟩
    refine iteP rfl ?_
    refine ⟨_, rfl, _, _, _, _, rfl, tX, kit_of K dx (by simp), _, rfl, ?_⟩
    refine ite2 (fun c4 => ?_) (fun c4 => ?_)
    · refine fin _ ?_
      cases dx <;> first | (simp [isD, tyD] at c4; done) | (unfold Dat.beq; rfl)
    cases dx <;> simp [isD, tyD] at c4
    rename_i ds
    unfold Has at hx hy
    obtain ⟨a, xs, rfl, ha, hxs⟩ := hx
    obtain ⟨b, ys, rfl, hb, hys⟩ := hy
    have l1 := hxs.length
    have l2 := hys.length
    refine ⟨_, rfl, a, xs, rfl, .inl (SqL.of ha), _, rfl, b, ys, rfl, .inl (SqL.of hb), rfl, _, rfl, ?_⟩
    refine ite2 (fun c5 => ?_) (fun c5 => ?_)
    · refine fin _ ?_
      have ne : xs.length ≠ ys.length := fun z => by rw [z] at c5; simp at c5
      unfold Dat.beq
      rw [beqs_len (by rw [← l1, ← l2]; exact ne)]
    have el : xs.length = ys.length := by
      apply Classical.byContradiction
      intro z
      refine c5 ?_
      have z' : ¬ V.int (xs.length : Nat) = V.int (ys.length : Nat) := fun w => by injection w with w; exact z (by omega)
      rw [decide_eq_false z']; rfl
    have hsz : xs.length < sizeLine := small1000 (by omega)
    refine ⟨_, rfl, _, rfl, a, b, false, false, xs, ys, rfl, SqL.of ha, SqL.of hb, ?_⟩
    refine comp_form xs.length hsz (fun i vs H' => Same H H' ∧ vs = (List.range i).map fun j => V.bl (((ds[j]?).getD .non).beq ((es[j]?).getD .non))) ⟨Same.refl _, rfl⟩ (fun i vs H' z => by rw [z.2]; simp) ?_ ?_ ?_ ?_
    · intro i vs H' hi z
      exact ⟨xs, ys, xs[i], ys[i], SqL.of (z.1 _ _ ha), SqL.of (z.1 _ _ hb), by simp [hi], by simp [← el, hi]⟩
    · intro vs H' z
      exact ⟨xs, ys, SqL.of (z.1 _ _ ha), SqL.of (z.1 _ _ hb), .inl (Nat.le_refl _)⟩
    · intro i vs H' x H'' R hi z yl hR
      obtain ⟨p, x1, y1, rfl, hp, rfl, g1, g2⟩ := yl
      have e1 := g1 xs (SqL.of (z.1 _ _ ha))
      have e2 := g2 ys (SqL.of (z.1 _ _ hb))
      obtain ⟨d1, hd1, hh1⟩ := hxs.get e1
      obtain ⟨d2, hd2, hh2⟩ := hys.get e2
      have s1 := z.1.trans (same_upd hp (.tup [x1, y1]))
      refine ⟨p, [x1, y1], rfl, SqT.of upd_same, rfl, x1, [y1], rfl, y1, [], rfl, rfl, ?_⟩
      refine ⟨_, rfl, _, rfl, x1, y1, d1, d2, rfl, hh1.mono s1, hh2.mono s1, Nat.lt_of_le_of_lt (Dat.deps_get hd2) hlt, Nat.le_trans (Dat.wids_get hd2) hw2, fun H3 s3 => hR _ _ ⟨s1.trans s3, ?_⟩⟩
      rw [z.2, ← range_map_snoc, hd1, hd2]
      rfl
    · intro vs H' p z hp
      refine ⟨p, (List.range xs.length).map fun j => ((ds[j]?).getD .non).beq ((es[j]?).getD .non), rfl, SqL.of (by rw [upd_same, z.2, List.map_map]; rfl), ?_⟩
      have e : ((List.range xs.length).map fun j => ((ds[j]?).getD .non).beq ((es[j]?).getD .non)).all id = (Dat.lst ds).beq (Dat.lst es) := by
        rw [beq_lst, ← beqs_all (by rw [← l1, ← l2]; exact el), l1]
      rw [e]
      exact q _ (z.1.trans (same_upd hp _))
theorem same_zero : FnOk P w K mg base CX0 0 f fd ["found", "due"] (spSame 0) := by
  have no : ∀ vs H Q E, ¬ spSame 0 vs H Q E := fun vs H Q E h => by
    obtain ⟨x, y, dx, dy, _, _, _, h1, _⟩ := h
    omega
  exact ⟨fun vs H Q E h => absurd h (no vs H Q E), fun A outer s H args us vs Q E _ _ _ _ h => absurd h (no vs H Q E)⟩
theorem same_ok (B : Blt mg) (F : Fun K "_law_same" "_law_same" sSame f fd) (bG : Binds K fd ["found", "due"] []) (mG : mg "_law_same" = some (.ref f)) : ∀ n : Nat, FnOk P w K mg base CX0 n f fd ["found", "due"] (spSame n)
  | 0 => same_zero
  | n + 1 => ok_same B F (same_ok B F bG mG n) bG mG
end
end K4
namespace L2
open PySem
inductive W where
  | non | tag (x : Str) | pair (a b : W)
def W.dat : W → Dat
  | .non => .non
  | .tag x => .str x
  | .pair a b => .tup [a.dat, b.dat]
theorem has_non {H : Hp} : Has H .non W.non.dat := by unfold W.dat Has; rfl
def W.dep : W → Nat
  | .non => 0
  | .tag _ => 0
  | .pair a b => 1 + max a.dep b.dep
theorem has_lst {H : Hp} {v : V} {ds : List Dat} (h : Has H v (.lst ds)) : ∃ a xs, v = .ref a ∧ H a = some (.lst xs) ∧ HasL H xs ds := by unfold Has at h; exact h
theorem lst_has {H : Hp} {a : Addr} {xs : List V} {ds : List Dat} (h : H a = some (.lst xs)) (t : HasL H xs ds) : Has H (.ref a) (.lst ds) := by unfold Has; exact ⟨a, xs, rfl, h, t⟩
def Strm (H : Hp) (p : Addr) : Prop := ∃ (a : Int) (b : Bool) (c d : Int), H p = some (.lst [.int a, .bl b, .int c, .int d])
def But (p : Addr) (H H' : Hp) : Prop := ∀ b, b ≠ p → H' b = H b
theorem But.trans {p : Addr} {H H1 H2 : Hp} (a : But p H H1) (b : But p H1 H2) : But p H H2 := fun c h => (b c h).trans (a c h)
theorem But.upd {p : Addr} {H : Hp} (o : HO) : But p H (upd H p o) := fun _ h => upd_ne h
end L2
namespace K4
open PySem L2
theorem scCell : FnScope ["script", "k"] ["script", "k"] (defScope sCell) := ⟨rfl, rfl, rfl, by decide +kernel, rfl, by decide +kernel, by decide +kernel⟩
theorem scMixed : FnScope ["cell", "k", "number"] ["cell", "k"] (defScope sMixed) := ⟨rfl, rfl, rfl, by decide +kernel, rfl, by decide +kernel, by decide +kernel⟩
theorem scStream : FnScope ["cell"] ["cell"] (defScope sStream) := ⟨rfl, rfl, rfl, by decide +kernel, rfl, by decide +kernel, by decide +kernel⟩
section
variable {P : Program} {w : World} {K : PySem.W.Frag} {mg : Str → Option Value} {base : Heap} {f g : Addr} {fd gd : FuncData}
def spCell (K : PySem.W.Frag) : Sp := fun vs H Q _ => ∃ (a : Addr) (ns : List Int) (k : Int), vs = [.ref a, .int k] ∧ SqL K H a (ns.map V.int) ∧ 0 ≤ k ∧ ∀ c : Int, Q (.int c) H
theorem ok_cell {n : Nat} (B : Blt mg) (F : Fun K "_law_cell" "_law_cell" sCell f fd) : FnOk P w K mg base CX0 (n + 1) f fd ["script", "k"] (spCell K) := by
  refine F.ok scCell (fun vs H Q E h => ?_) (fun cdv A outer s H vs Q E hr h => ?_)
  · obtain ⟨a, ns, k, rfl, _⟩ := h
    rfl
  obtain ⟨a, ns, k, rfl, hq, h0, q⟩ := h
  refine ⟨_, pss_cons (ps_if (pt_cmpR op_lt (pv 1) (pe_callB call_len_seq rfl B.len PySem.boot_len (pa_cons (pv 0) pa_nil)) (nomark _)) (pss_one (ps_ret (pe_ix ix_list (pv 0) (pv 1) (fun _ _ => rfl)))) pss_nil) (pss_one (ps_ret pe_int)), ?_⟩
  refine ⟨_, rfl, _, rfl, a, _, rfl, .inl hq, _, _, rfl, rfl, _, rfl, ?_⟩
  refine ite2 (fun c => ?_) (fun c => ?_)
  · have c' : k < ((ns.map V.int).length : Nat) := of_decide_eq_true c
    rw [List.length_map] at c'
    have hk : k.toNat < ns.length := by omega
    have ek : k = ((k.toNat : Nat) : Int) := by omega
    have e : atI (ns.map V.int) ((k.toNat : Nat) : Int) = some (.int ns[k.toNat]) := atI_nat (by rw [List.getElem?_map, List.getElem?_eq_getElem hk]; rfl)
    rw [← ek] at e
    exact ⟨_, rfl, _, rfl, a, _, _, _, rfl, rfl, hq, e, q _⟩
  · exact q _
def spMixed : Sp := fun vs H Q _ => ∃ (c k : Int), vs = [.int c, .int k] ∧ ∀ r : Int, 0 ≤ r → r < 2147483563 → Q (.int r) H
theorem ok_mixed {n : Nat} (F : Fun K "_law_mixed" "_law_mixed" sMixed f fd) : FnOk P w K mg base CX0 (n + 1) f fd ["cell", "k"] spMixed := by
  refine F.ok scMixed (fun vs H Q E h => ?_) (fun cdv A outer s H vs Q E hr h => ?_)
  · obtain ⟨c, k, rfl, _⟩ := h
    rfl
  obtain ⟨c, k, rfl, q⟩ := h
  refine ⟨_, pss_cons (ps_set (i := 2) scMixed.nd rfl (Or.inl rfl) (pe_op op_mod (pe_op op_add (pe_op op_add (pe_op op_mul (pe_op op_mod (pv 0) pe_int) pe_int) (pe_op op_mul pe_int (pv 1))) pe_int) pe_int))
    (pss_cons (ps_set (i := 2) scMixed.nd rfl (Or.inl rfl) (pe_op op_mod (pe_op op_add (pe_op op_add (pe_op op_mul (pv 2) (pv 2)) (pe_op op_mul pe_int (pv 1))) pe_int) pe_int))
    (pss_one (ps_ret (pe_op op_mod (pe_op op_mul (pv 2) (pe_op op_add (pv 2) pe_int)) pe_int)))), ?_⟩
  have m1 := Int.emod_nonneg c (show (2147483647 : Int) ≠ 0 by decide)
  have m2 := Int.emod_lt_of_pos c (show (0 : Int) < 2147483647 by decide)
  refine ⟨_, rfl, _, _, rfl, rfl, (by show (0 : Int) < _; decide), _, _, rfl, rfl, .inl ⟨by omega, by omega⟩, _, rfl, _, _, rfl, rfl, .inl ⟨by decide, by decide⟩, _, _, rfl, rfl, _, _, rfl, rfl, _, _, rfl, rfl, (by show (0 : Int) < _; decide), ?_⟩
  generalize hx : (c % 2147483647 * 48271 + 69621 * k + 7919) % 2147483629 = x
  have x1 : 0 ≤ x := by rw [← hx]; exact Int.emod_nonneg _ (by decide)
  have x2 : x < 2147483629 := by rw [← hx]; exact Int.emod_lt_of_pos _ (by decide)
  refine ⟨_, rfl, _, rfl, _, _, rfl, rfl, .inl ⟨by omega, by omega⟩, _, rfl, _, _, rfl, rfl, .inl ⟨by decide, by decide⟩, _, _, rfl, rfl, _, _, rfl, rfl, _, _, rfl, rfl, (by show (0 : Int) < _; decide), ?_⟩
  generalize hy : (x * x + 31 * k + 5) % 2147483587 = y
  have y1 : 0 ≤ y := by rw [← hy]; exact Int.emod_nonneg _ (by decide)
  have y2 : y < 2147483587 := by rw [← hy]; exact Int.emod_lt_of_pos _ (by decide)
  refine ⟨_, rfl, _, rfl, _, _, rfl, rfl, _, _, rfl, rfl, .inl ⟨by omega, by omega⟩, _, _, rfl, rfl, (by show (0 : Int) < _; decide), ?_⟩
  exact q _ (Int.emod_nonneg _ (by decide)) (Int.emod_lt_of_pos _ (by decide))
def spStream : Sp := fun vs H Q _ => ∃ (c : Int), vs = [.int c] ∧ ∀ p H', H p = none → But p H H' → Strm H' p → Q (.ref p) H'
theorem ok_stream {n : Nat} (F : Fun K "_law_stream" "_law_stream" sStream f fd) : FnOk P w K mg base CX0 (n + 1) f fd ["cell"] spStream := by
  refine F.ok scStream (fun vs H Q E h => ?_) (fun cdv A outer s H vs Q E hr h => ?_)
  · obtain ⟨c, rfl, _⟩ := h
    rfl
  obtain ⟨c, rfl, q⟩ := h
  refine ⟨_, pss_one (ps_ret (pe_lst (pa_cons (pv 0) (pa_cons (pe_or (pe_cmpR op_ge (pv 0) (pe_op op_pow pe_int pe_int) (nomark _)) (pe_one (pe_cmpR op_le (pv 0) (pe_un un_neg (pe_op op_pow pe_int pe_int)) (nomark _)))) (pa_cons pe_int (pa_cons (pe_op op_mod (pv 0) pe_int) pa_nil)))))), ?_⟩
  have cp : CPow 10 18 := ⟨by decide, by decide, by decide⟩
  refine ⟨_, rfl, _, rfl, _, _, rfl, rfl, cp, _, _, rfl, rfl, _, rfl, ?_⟩
  refine ite2 (fun _ => ?_) (fun _ => ?_)
  · refine ⟨_, rfl, _, _, rfl, rfl, (by show (0 : Int) < _; decide), by show 4 ≤ sizeLine; decide, fun p hp => ?_⟩
    exact q p _ hp (But.upd _) ⟨_, _, _, _, upd_same⟩
  · refine ⟨_, rfl, _, _, rfl, rfl, cp, _, rfl, _, _, rfl, rfl, ?_⟩
    refine ⟨_, rfl, _, _, rfl, rfl, (by show (0 : Int) < _; decide), by show 4 ≤ sizeLine; decide, fun p hp => ?_⟩
    exact q p _ hp (But.upd _) ⟨_, _, _, _, upd_same⟩
def spTake : Sp := fun vs H Q _ => ∃ (p : Addr) (many : Int), vs = [.ref p, .int many] ∧ Strm H p ∧ 0 < many ∧ many < 1073741824 ∧ ∀ (r : Int) (H' : Hp), 0 ≤ r → r < many → But p H H' → Strm H' p → Q (.int r) H'
theorem ok_take {n : Nat} (F : Fun K "_law_take" "_law_take" sTake f fd) (G : FnOk P w K mg base CX0 n g gd ["cell", "k"] spMixed) (bG : Binds K gd ["cell", "k"] []) (kG : PySem.W.keepIn K (.ref g) = true) (mG : mg "_law_mixed" = some (.ref g)) :
    FnOk P w K mg base CX0 (n + 1) f fd ["stream", "many"] spTake := by
  refine F.ok scTake (fun vs H Q E h => ?_) (fun cdv A outer s H vs Q E hr h => ?_)
  · obtain ⟨p, many, rfl, _⟩ := h
    rfl
  obtain ⟨p, many, rfl, ⟨a, b, c, d, hp⟩, m0, m1, q⟩ := h
  refine ⟨_, pss_cons (ps_if (pt_val (pe_ix ix_list (pv 0) pe_int (fun _ _ => rfl)))
      (pss_cons (ps_set (i := 2) scTake.nd rfl (Or.inl rfl) (pe_op op_mod (pe_ix ix_list (pv 0) pe_int (fun _ _ => rfl)) (pv 1)))
      (pss_cons (ps_asg (pe_op op_fdiv (pe_ix ix_list (pv 0) pe_int (fun _ _ => rfl)) (pv 1)) (pg_sub (pv 0) pe_int set_list))
      (pss_cons (ps_asg (pe_and (pe_cmpR op_ne (pe_ix ix_list (pv 0) pe_int (fun _ _ => rfl)) pe_int (nomark _)) (pe_one (pe_cmpR op_ne (pe_ix ix_list (pv 0) pe_int (fun _ _ => rfl)) (pe_un un_neg pe_int) (nomark _)))) (pg_sub (pv 0) pe_int set_list))
      (pss_one (ps_ret (pv 2)))))) pss_nil)
    (pss_cons (ps_asg (pe_op op_add (pe_ix ix_list (pv 0) pe_int (fun _ _ => rfl)) pe_int) (pg_sub (pv 0) pe_int set_list))
    (pss_one (ps_ret (pe_op op_mod (pe_op op_fdiv (pe_call G hr rfl mG kG bG .nil pass0 (pa_cons (pe_ix ix_list (pv 0) pe_int (fun _ _ => rfl)) (pa_cons (pe_ix ix_list (pv 0) pe_int (fun _ _ => rfl)) pa_nil))) pe_int) (pv 1))))), ?_⟩
  refine ⟨_, rfl, p, _, 1, _, rfl, rfl, SqL.of hp, rfl, _, rfl, ?_⟩
  refine ite2 (fun hb => ?_) (fun hb => ?_)
  · refine ⟨_, rfl, p, _, 0, _, rfl, rfl, SqL.of hp, rfl, _, rfl, _, _, rfl, rfl, m0, ?_⟩
    refine ⟨_, rfl, p, _, 0, _, rfl, rfl, SqL.of hp, rfl, _, rfl, _, _, rfl, rfl, ⟨m0, m1⟩, _, rfl, p, _, 0, 0, rfl, rfl, hp, rfl, ?_⟩
    have h1 : upd H p (.lst [.int (a / many), .bl b, .int c, .int d]) p = some (.lst [.int (a / many), .bl b, .int c, .int d]) := upd_same
    refine ⟨_, rfl, p, _, 0, _, rfl, rfl, SqL.of h1, rfl, rfl, _, rfl, ?_⟩
    have r0 := Int.emod_nonneg a (show many ≠ 0 by omega)
    have r1 := Int.emod_lt_of_pos a m0
    refine ite2 (fun _ => ?_) (fun _ => ?_)
    · refine ⟨_, rfl, p, _, 0, _, rfl, rfl, SqL.of h1, rfl, _, rfl, rfl, _, rfl, p, _, 1, 1, rfl, rfl, h1, rfl, _, rfl, ?_⟩
      exact q _ _ r0 r1 ((But.upd _).trans (But.upd _)) ⟨_, _, _, _, upd_same⟩
    · refine ⟨_, rfl, p, _, 1, 1, rfl, rfl, h1, rfl, _, rfl, ?_⟩
      exact q _ _ r0 r1 ((But.upd _).trans (But.upd _)) ⟨_, _, _, _, upd_same⟩
  · refine ⟨_, rfl, p, _, 2, _, rfl, rfl, SqL.of hp, rfl, _, _, rfl, rfl, _, rfl, p, _, 2, 2, rfl, rfl, hp, rfl, ?_⟩
    have h1 : upd H p (.lst [.int a, .bl b, .int (c + 1), .int d]) p = some (.lst [.int a, .bl b, .int (c + 1), .int d]) := upd_same
    refine ⟨_, rfl, p, _, 3, _, rfl, rfl, SqL.of h1, rfl, _, rfl, p, _, 2, _, rfl, rfl, SqL.of h1, rfl, _, _, rfl, fun r r0 r1 => ?_⟩
    refine ⟨_, _, rfl, rfl, ⟨by decide, by decide⟩, _, rfl, _, _, rfl, rfl, m0, ?_⟩
    exact q _ _ (Int.emod_nonneg _ (by omega)) (Int.emod_lt_of_pos _ m0) (But.upd _) ⟨_, _, _, _, upd_same⟩
end
end K4
namespace L2
open PySem
def alpha (o : Nat) : Str := ⟨((List.range 26).map (o + ·)).toArray⟩
def one (c : Nat) : Str := ⟨#[c]⟩
def txt (cs : List Nat) : Str := ⟨cs.toArray⟩
theorem alpha_len (o : Nat) : (alpha o).length = 26 := by show ((List.range 26).map (o + ·)).toArray.size = 26; simp
theorem alpha_at (o : Nat) (j : Int) (h0 : 0 ≤ j) (h1 : j < 26) : atI (alpha o).cps.toList j = some (o + j.toNat) := by
  obtain ⟨n, rfl⟩ : ∃ n : Nat, j = n := ⟨j.toNat, by omega⟩
  refine atI_nat ?_
  show (((List.range 26).map (o + ·)).toArray.toList)[n]? = _
  rw [List.toList_toArray, List.getElem?_map, List.getElem?_range (by omega)]
  rfl
theorem occ_at {o : Nat} (ho : o = 97 ∨ o = 65) {c : Nat} (h : o ≤ c ∧ c < o + 26) : ∃ i rest, Builtin.Str.occurrences (alpha o) (one c) 0 (alpha o).length 1 = i :: rest := by
  have all : ∀ j < 26, (Builtin.Str.occurrences (alpha 97) (one (97 + j)) 0 26 1).isEmpty = false ∧ (Builtin.Str.occurrences (alpha 65) (one (65 + j)) 0 26 1).isEmpty = false := by decide +kernel
  rw [alpha_len]
  have key : (Builtin.Str.occurrences (alpha o) (one c) 0 26 1).isEmpty = false := by
    have a := all (c - o) (by omega)
    rcases ho with rfl | rfl
    · have e : 97 + (c - 97) = c := by omega
      rw [e] at a; exact a.1
    · have e : 65 + (c - 65) = c := by omega
      rw [e] at a; exact a.2
  cases q : Builtin.Str.occurrences (alpha o) (one c) 0 26 1 with
  | nil => rw [q] at key; cases key
  | cons i r => exact ⟨i, r, rfl⟩
theorem eight {cs : List Nat} (h : cs.length = 8) : ∃ a b c d e f g i, cs = [a, b, c, d, e, f, g, i] := by
  match cs, h with
  | [a, b, c, d, e, f, g, i], _ => exact ⟨a, b, c, d, e, f, g, i, rfl⟩
theorem join8 {cs : List Nat} (h : cs.length = 8) : Txt.join (Str.ofString "") (cs.map one) = txt cs := by
  obtain ⟨a, b, c, d, e, f, g, i, rfl⟩ := eight h
  rfl
theorem cut_to {cs : List Nat} (h : cs.length = 8) (j : Nat) (hj : j ≤ 8) : Txt.slice (txt cs) none (some (j : Int)) = txt (cs.take j) := by
  obtain ⟨a, b, c, d, e, f, g, i, rfl⟩ := eight h
  match j, hj with
  | 0, _ | 1, _ | 2, _ | 3, _ | 4, _ | 5, _ | 6, _ | 7, _ | 8, _ => rfl
theorem cut_from {cs : List Nat} (h : cs.length = 8) (j : Nat) (hj : j ≤ 8) : Txt.slice (txt cs) (some (j : Int)) none = txt (cs.drop j) := by
  obtain ⟨a, b, c, d, e, f, g, i, rfl⟩ := eight h
  match j, hj with
  | 0, _ | 1, _ | 2, _ | 3, _ | 4, _ | 5, _ | 6, _ | 7, _ | 8, _ =>
    unfold Txt.slice
    rw [show (txt [a, b, c, d, e, f, g, i]).length = 8 from rfl]
    first
      | (rw [if_pos (by decide +kernel)]; rfl)
      | (rw [if_neg (by decide +kernel)]; rfl)
theorem txt_app (a b : List Nat) : txt a ++ txt b = txt (a ++ b) := by
  show (⟨a.toArray ++ b.toArray⟩ : Str) = ⟨(a ++ b).toArray⟩
  simp
theorem txt_inj {a b : List Nat} (h : txt a = txt b) : a = b := by
  have q : a.toArray = b.toArray := congrArg Str.cps h
  simpa using q
theorem txt_len (a : List Nat) : (txt a).length = a.length := by show a.toArray.size = a.length; simp
def wd (o : Nat) (cs : List Nat) (at' way i k : Nat) : List Nat :=
  if way = 0 then cs.take at' ++ [o + (i + 5 * k) % 26] ++ cs.drop (at' + 1)
  else if way = 1 then [o + (i + 5 * k) % 26] ++ cs.take ((3 * k + at') % 8)
  else if way = 2 then cs.take (k % 8 + 1)
  else cs.take (8 - k % 8)
theorem wd_ne {o : Nat} {cs : List Nat} {at' way i k l : Nat} (h8 : cs.length = 8) (ha : at' < 8) (hm : way < 2 ∧ l < 24 ∨ l < 8) (hkl : k < l) : wd o cs at' way i k ≠ wd o cs at' way i l := by
  intro e
  have d : (i + 5 * k) % 26 ≠ (i + 5 * l) % 26 ∨ l ≥ 26 := by omega
  unfold wd at e
  by_cases w0 : way = 0
  · rw [if_pos w0, if_pos w0] at e
    have q := congrArg (fun x : List Nat => x[at']?) e
    have lt : (cs.take at').length = at' := by rw [List.length_take]; omega
    have g : ∀ x : Nat, (cs.take at' ++ [x] ++ cs.drop (at' + 1))[at']? = some x := fun x => by
      rw [List.append_assoc, List.getElem?_append_right (by omega), lt]; simp
    have q' := (g _).symm.trans (q.trans (g _))
    simp at q'
    omega
  rw [if_neg w0, if_neg w0] at e
  by_cases w1 : way = 1
  · rw [if_pos w1, if_pos w1] at e
    simp at e
    omega
  rw [if_neg w1, if_neg w1] at e
  have l8 : l < 8 := by omega
  by_cases w2 : way = 2
  · rw [if_pos w2, if_pos w2] at e
    have q := congrArg List.length e
    rw [List.length_take, List.length_take] at q
    omega
  rw [if_neg w2, if_neg w2] at e
  have q := congrArg List.length e
  rw [List.length_take, List.length_take] at q
  omega
theorem wd_len {o : Nat} {cs : List Nat} {at' way i k : Nat} (h8 : cs.length = 8) (ha : at' < 8) : 1 ≤ (wd o cs at' way i k).length ∧ (wd o cs at' way i k).length ≤ 8 := by
  unfold wd
  split
  · simp only [List.length_append, List.length_take, List.length_drop, List.length_singleton]; omega
  split
  · simp only [List.length_append, List.length_take, List.length_singleton]; omega
  split
  · rw [List.length_take]; omega
  · rw [List.length_take]; omega
theorem wd_in {o : Nat} {cs : List Nat} {at' way i k : Nat} (hc : ∀ c ∈ cs, o ≤ c ∧ c < o + 26) : ∀ c ∈ wd o cs at' way i k, o ≤ c ∧ c < o + 26 := by
  have z : o ≤ o + (i + 5 * k) % 26 ∧ o + (i + 5 * k) % 26 < o + 26 := by omega
  intro c h
  unfold wd at h
  split at h
  · simp only [List.mem_append, List.mem_singleton] at h
    rcases h with (h | h) | h
    · exact hc c (List.mem_of_mem_take h)
    · rw [h]; exact z
    · exact hc c (List.mem_of_mem_drop h)
  split at h
  · simp only [List.mem_append, List.mem_singleton] at h
    rcases h with h | h
    · rw [h]; exact z
    · exact hc c (List.mem_of_mem_take h)
  split at h
  · exact hc c (List.mem_of_mem_take h)
  · exact hc c (List.mem_of_mem_take h)
structure Wds (o : Nat) (ys : List Str) : Prop where
  nd : ys.Nodup
  len : ∀ y ∈ ys, 1 ≤ y.length ∧ y.length ≤ 8
  abc : ∀ y ∈ ys, ∀ c ∈ y.cps.toList, o ≤ c ∧ c < o + 26
theorem wds_of {o : Nat} {cs : List Nat} {at' way i m : Nat} (h8 : cs.length = 8) (ha : at' < 8) (hm : way < 2 ∧ m ≤ 24 ∨ m ≤ 8) (hc : ∀ c ∈ cs, o ≤ c ∧ c < o + 26) : Wds o ((List.range m).map fun k => txt (wd o cs at' way i k)) := by
  refine ⟨?_, fun y hy => ?_, fun y hy c hc' => ?_⟩
  · show List.Pairwise _ _
    rw [List.pairwise_map]
    refine List.Pairwise.imp_of_mem ?_ (List.pairwise_lt_range (n := m))
    intro a b ha' hb hab e
    exact wd_ne (i := i) h8 ha (by have := List.mem_range.mp hb; omega) hab (txt_inj e)
  · obtain ⟨k, _, rfl⟩ := List.mem_map.mp hy
    rw [txt_len]; exact wd_len h8 ha
  · obtain ⟨k, _, rfl⟩ := List.mem_map.mp hy
    exact wd_in hc c (by simpa [txt] using hc')
def SameB (p : Addr) (H H' : Hp) : Prop := ∀ b o, b ≠ p → H b = some o → H' b = some o
theorem SameB.refl (p : Addr) (H : Hp) : SameB p H H := fun _ _ _ h => h
theorem SameB.trans {p : Addr} {H H1 H2 : Hp} (a : SameB p H H1) (b : SameB p H1 H2) : SameB p H H2 := fun c o n h => b c o n (a c o n h)
theorem But.sb {p : Addr} {H H' : Hp} (a : But p H H') : SameB p H H' := fun b o n h => (a b n).trans h
theorem Same.sb {p : Addr} {H H' : Hp} (a : Same H H') : SameB p H H' := fun b o _ h => a b o h
theorem SameB.free {p r : Addr} {H H' : Hp} (a : SameB p H H') (n : r ≠ p) (h : H' r = none) : H r = none := by
  cases e : H r with
  | none => rfl
  | some o => rw [a r o n e] at h; cases h
theorem SameB.put {p r : Addr} {H H' : Hp} {o : HO} (a : SameB p H H') (h : H r = none) : SameB p H (upd H' r o) := fun b u n e => by
  rw [upd_ne (ne_of_none e h)]; exact a b u n e
theorem Strm.ne {H : Hp} {p r : Addr} (s : Strm H p) (h : H r = none) : r ≠ p := fun e => by
  obtain ⟨a, b, c, d, q⟩ := s
  rw [← e, h] at q; cases q
theorem Strm.keep {H H' : Hp} {p : Addr} (s : Strm H p) (e : H' p = H p) : Strm H' p := by
  obtain ⟨a, b, c, d, q⟩ := s
  exact ⟨a, b, c, d, e.trans q⟩
theorem str_app_len (a b : Str) : (a ++ b).length = a.length + b.length := by
  show (a.cps ++ b.cps).size = a.cps.size + b.cps.size
  simp
theorem cut_le {cs : List Nat} (h : cs.length = 8) (lo hi : Option Int) : (Txt.slice (txt cs) lo hi).length ≤ 8 := by
  have q := Txt.slice_le (txt cs) lo hi
  rw [txt_len, h] at q
  exact q
theorem pick4 {o : Nat} {cs : List Nat} {at' way i k : Nat} (h : way < 4) : atI [V.str (txt (cs.take at' ++ [o + (i + 5 * k) % 26] ++ cs.drop (at' + 1))), V.str (txt ([o + (i + 5 * k) % 26] ++ cs.take ((3 * k + at') % 8))), V.str (txt (cs.take (k % 8 + 1))), V.str (txt (cs.take (8 - k % 8)))] (way : Int) = some (V.str (txt (wd o cs at' way i k))) := by
  match way, h with
  | 0, _ | 1, _ | 2, _ | 3, _ => rfl
end L2
namespace K4
open PySem L2
theorem scWords : FnScope ["stream", "many", "letters", "ways", "k", "base", "at", "way", "words", "sign", "some"] ["stream", "many", "letters", "ways"] (defScope sWords) := ⟨rfl, rfl, rfl, by decide +kernel, rfl, by decide +kernel, by decide +kernel⟩
theorem nd_kls : List.Nodup [("k" : Str), "letters", "stream"] := by decide +kernel
section
variable {P : Program} {w : World} {K : PySem.W.Frag} {mg : Str → Option Value} {base : Heap} {f g : Addr} {fd gd : FuncData}
def spWords : Sp := fun vs H Q _ => ∃ (p : Addr) (many : Nat) (o : Nat) (ways : Nat), vs = [.ref p, .int many, .str (alpha o), .int ways] ∧ Strm H p ∧ (o = 97 ∨ o = 65) ∧ 0 < ways ∧ (ways ≤ 2 ∧ many ≤ 24 ∨ ways ≤ 4 ∧ many ≤ 8) ∧
  ∀ (r : Addr) (ys : List Str) (H' : Hp), SameB p H H' → Strm H' p → H r = none → r ≠ p → H' r = some (.lst (ys.map V.str)) → ys.length = many → Wds o ys → Q (.ref r) H'
theorem ok_words {n : Nat} (B : Blt mg) (F : Fun K "_law_words" "_law_words" sWords f fd) (G : FnOk P w K mg base CX0 n g gd ["stream", "many"] spTake) (bG : Binds K gd ["stream", "many"] []) (kG : PySem.W.keepIn K (.ref g) = true) (mG : mg "_law_take" = some (.ref g)) :
    FnOk P w K mg base CX0 (n + 1) f fd ["stream", "many", "letters", "ways"] spWords := by
  refine F.ok scWords (fun vs H Q E h => ?_) (fun cdv A outer s H vs Q E hr h => ?_)
  · obtain ⟨p, many, o, ways, rfl, _⟩ := h
    rfl
  obtain ⟨p, many, o, ways, rfl, hs, ho, hw, hm, q⟩ := h
  refine ⟨_, pss_cons (ps_set (i := 5) scWords.nd rfl (Or.inl rfl) (pe_bm PySem.F.plainAttrs_str PySem.F.slot_str_join PySem.F.type_str_join mt_join pe_str (pa_cons (pe_cmpr ["k"] [2, 0] (pi_range1 rfl B.range (pa_cons pe_int pa_nil)) (gk_name (i := 0) (by decide))
      (fun cl C fp s H => pg_name (i := 0) nd_kls rfl (Or.inl rfl) (Or.inr rfl)) (fun cl C fp s H => pe_ix (r := rIxS) ix_str (pv 1) (pe_call G hr rfl mG kG bG .nil pass0 (pa_cons (pv 2) (pa_cons pe_int pa_nil))) (fun _ _ => rfl))) pa_nil)))
    (pss_cons (ps_set (i := 6) scWords.nd rfl (Or.inl rfl) (pe_call G hr rfl mG kG bG .nil pass0 (pa_cons (pv 0) (pa_cons pe_int pa_nil))))
    (pss_cons (ps_set (i := 7) scWords.nd rfl (Or.inl rfl) (pe_call G hr rfl mG kG bG .nil pass0 (pa_cons (pv 0) (pa_cons (pv 3) pa_nil))))
    (pss_cons (ps_set (i := 8) scWords.nd rfl (Or.inl rfl) (pe_lst pa_nil))
    (pss_cons (ps_for PassesOwn.never rfl (pi_range1 rfl B.range (pa_cons (pv 1) pa_nil)) (pg_name (i := 4) scWords.nd rfl (Or.inl rfl))
      (pss_cons (ps_set (i := 9) scWords.nd rfl (Or.inl rfl) (pe_ix ix_str (pv 2) (pe_op op_mod (pe_op op_add (pe_bm PySem.F.plainAttrs_str PySem.F.slot_str_index PySem.F.type_str_index mt_index (pv 2) (pa_cons (pe_ix ix_str (pv 5) (pv 6) (fun _ _ => rfl)) pa_nil)) (pe_op op_mul pe_int (pv 4))) pe_int) (fun _ _ => rfl)))
      (pss_cons (ps_set (i := 10) scWords.nd rfl (Or.inl rfl) (pe_lst (pa_cons (pe_op op_add_str (pe_op op_add_str (pe_slice sl_str (pv 5) po_none (po_some (pv 6))) (pv 9)) (pe_slice sl_str (pv 5) (po_some (pe_op op_add (pv 6) pe_int)) po_none))
        (pa_cons (pe_op op_add_str (pv 9) (pe_slice sl_str (pv 5) po_none (po_some (pe_op op_mod (pe_op op_add (pe_op op_mul pe_int (pv 4)) (pv 6)) pe_int))))
        (pa_cons (pe_slice sl_str (pv 5) po_none (po_some (pe_op op_add (pe_op op_mod (pv 4) pe_int) pe_int)))
        (pa_cons (pe_slice sl_str (pv 5) po_none (po_some (pe_op op_sub pe_int (pe_op op_mod (pv 4) pe_int)))) pa_nil))))))
      (pss_one (ps_expr (pe_bm PySem.F.plainAttrs_list PySem.F.slot_list_append PySem.F.type_list_append mt_append (pv 8) (pa_cons (pe_ix ix_list (pv 10) (pv 7) (fun _ _ => rfl)) pa_nil)))))))
    (pss_one (ps_ret (pv 8))))))), ?_⟩
  have em : ((many : Nat) : Int).toNat = many := Int.toNat_natCast _
  refine ⟨rfl, 8, rfl, by decide, by decide, ?_⟩
  refine comp_form 8 (small1000 (by decide)) (fun i vs H' => SameB p H H' ∧ Strm H' p ∧ ∃ cs : List Nat, vs = cs.map (fun c => V.str (one c)) ∧ cs.length = i ∧ ∀ c ∈ cs, o ≤ c ∧ c < o + 26) ⟨SameB.refl _ _, hs, [], rfl, rfl, fun c h => nomatch h⟩
    (fun i vs H' z => by obtain ⟨_, _, cs, e, l, _⟩ := z; rw [e, List.length_map, l]) (fun i vs H' hi z => hi) (fun vs H' z => Nat.le_refl _) ?_ ?_
  · intro i vs H' x H'' R hi z yl hR
    obtain ⟨rfl, rfl⟩ := yl
    obtain ⟨z1, z2, cs, rfl, zl, zc⟩ := z
    refine ⟨_, rfl, _, rfl, p, 26, rfl, z2, by decide, by decide, fun r H3 r0 r1 b s3 => ?_⟩
    refine ⟨alpha o, r, o + r.toNat, rfl, rfl, by rw [alpha_len]; decide, alpha_at o r r0 r1, hR _ _ ⟨z1.trans b.sb, s3, cs ++ [o + r.toNat], by rw [List.map_append]; rfl, by rw [List.length_append, zl]; rfl, fun c hc => ?_⟩⟩
    rcases List.mem_append.mp hc with h | h
    · exact zc c h
    · rw [List.mem_singleton.mp h]; omega
  intro vs H1 pl z hpl
  obtain ⟨z1, z2, cs, rfl, z8, zc⟩ := z
  have npl : pl ≠ p := z2.ne hpl
  have e1 : cs.map (fun c => V.str (one c)) = (cs.map one).map V.str := by rw [List.map_map]; rfl
  refine ⟨_, pl, cs.map one, rfl, rfl, SqL.of (by rw [upd_same, e1]), ?_, ?_⟩
  · obtain ⟨a, b, c, d, e, f, g, i, rfl⟩ := eight z8
    show (8 : Nat) + 8 * 0 ≤ 16777216
    decide
  rw [join8 z8]
  have s1 : Strm (upd H1 pl (.lst (cs.map fun c => V.str (one c)))) p := z2.keep (upd_ne (Ne.symm npl))
  have b1 : SameB p H (upd H1 pl (.lst (cs.map fun c => V.str (one c)))) := z1.trans (same_upd hpl _).sb
  generalize upd H1 pl (.lst (cs.map fun c => V.str (one c))) = H2 at s1 b1
  refine ⟨_, rfl, p, 8, rfl, s1, by decide, by decide, fun at' H3 a0 a1 b3 s3 => ?_⟩
  refine ⟨_, rfl, _, rfl, p, ways, rfl, s3, by omega, by omega, fun way H4 w0 w1 b4 s4 => ?_⟩
  refine ⟨by show 0 ≤ sizeLine; decide, fun wl hwl => ?_⟩
  have b5 : SameB p H H4 := (b1.trans b3.sb).trans b4.sb
  have nwl : wl ≠ p := s4.ne hwl
  have fwl : H wl = none := b5.free nwl hwl
  obtain ⟨at1, rfl⟩ : ∃ n : Nat, at' = n := ⟨at'.toNat, by omega⟩
  obtain ⟨way1, rfl⟩ : ∃ n : Nat, way = n := ⟨way.toNat, by omega⟩
  have hat : at1 < 8 := by omega
  -- the sign at the drawn place, and its number among the letters
  obtain ⟨c0, hc0⟩ : ∃ c0, cs[at1]? = some c0 := ⟨cs[at1], List.getElem?_eq_getElem (by omega)⟩
  obtain ⟨i0, rest, hocc⟩ := occ_at ho (zc c0 (List.mem_of_getElem? hc0))
  refine ⟨_, rfl, many, rfl, by omega, by omega, ?_⟩
  refine fl_range (n := ((many : Nat) : Int).toNat) (fun i σ H' => SameB p H H' ∧ Strm H' p ∧ H' wl = some (.lst (((List.range i).map fun k => txt (wd o cs at1 way1 i0 k)).map V.str)) ∧
    ∃ z1 z2 z3, σ = [some (.ref p), some (.int many), some (.str (alpha o)), some (.int ways), z1, some (.str (txt cs)), some (.int at1), some (.int way1), some (.ref wl), z2, z3]) ?_ ?_ ?_
  · exact ⟨b5.put fwl, s4.keep (upd_ne (Ne.symm nwl)), upd_same, _, _, _, rfl⟩
  · rintro BB RR i σ H' hi ⟨y1, y2, y3, z1, z2, z3, rfl⟩
    rw [em] at hi
    have tl : (txt cs).length ≤ sizeLine := by rw [txt_len, z8]; decide
    have hidx : (0 : Int) ≤ ((i0 : Int) + 5 * (0 + (i : Int))) % 26 ∧ ((i0 : Int) + 5 * (0 + (i : Int))) % 26 < 26 := by omega
    have e26 : (((i0 : Int) + 5 * (0 + (i : Int))) % 26).toNat = (i0 + 5 * i) % 26 := by omega
    refine ⟨_, rfl, _, rfl, rfl, _, rfl, _, rfl, txt cs, at1, c0, rfl, rfl, tl, atI_nat (by simpa [txt] using hc0), _, _, i0, rest, rfl, rfl, hocc, _, rfl, _, _, rfl, rfl, .inl ⟨by decide, by decide⟩, _, _, rfl, rfl, _, _, rfl, rfl, (by show (0 : Int) < _; decide), ?_⟩
    refine ⟨alpha o, _, _, rfl, rfl, by rw [alpha_len]; decide, alpha_at o _ hidx.1 hidx.2, ?_⟩
    rw [e26]
    have sg : (⟨#[o + (i0 + 5 * i) % 26]⟩ : Str) = txt [o + (i0 + 5 * i) % 26] := rfl
    rw [sg]
    -- the four
    have eA : Txt.slice (txt cs) none (some (at1 : Int)) ++ txt [o + (i0 + 5 * i) % 26] ++ Txt.slice (txt cs) (some ((at1 : Int) + 1)) none = txt (cs.take at1 ++ [o + (i0 + 5 * i) % 26] ++ cs.drop (at1 + 1)) := by
      have z : ((at1 : Int) + 1) = ((at1 + 1 : Nat) : Int) := by omega
      rw [z, cut_to z8 at1 (by omega), cut_from z8 (at1 + 1) (by omega), txt_app, txt_app]
    have eB : txt [o + (i0 + 5 * i) % 26] ++ Txt.slice (txt cs) none (some ((3 * (0 + (i : Int)) + (at1 : Int)) % 8)) = txt ([o + (i0 + 5 * i) % 26] ++ cs.take ((3 * i + at1) % 8)) := by
      have z : (3 * (0 + (i : Int)) + (at1 : Int)) % 8 = (((3 * i + at1) % 8 : Nat) : Int) := by omega
      rw [z, cut_to z8 _ (by omega), txt_app]
    have eC : Txt.slice (txt cs) none (some ((0 + (i : Int)) % 8 + 1)) = txt (cs.take (i % 8 + 1)) := by
      have z : (0 + (i : Int)) % 8 + 1 = ((i % 8 + 1 : Nat) : Int) := by omega
      rw [z, cut_to z8 _ (by omega)]
    have eD : Txt.slice (txt cs) none (some (8 - (0 + (i : Int)) % 8)) = txt (cs.take (8 - i % 8)) := by
      have z : 8 - (0 + (i : Int)) % 8 = ((8 - i % 8 : Nat) : Int) := by omega
      rw [z, cut_to z8 _ (by omega)]
    have small : ∀ m : Nat, m ≤ 100 → m ≤ sizeLine := fun m h => Nat.le_of_lt (small1000 (by omega))
    have k1 : ∀ lo hi, (Txt.slice (txt cs) lo hi).length ≤ 8 := fun lo hi => cut_le z8 lo hi
    have x1 : (txt [o + (i0 + 5 * i) % 26]).length = 1 := rfl
    refine ⟨_, rfl, _, rfl, _, rfl, txt cs, rfl, tl, _, rfl, _, _, rfl, rfl, small _ (by have := k1 none (some (at1 : Int)); omega), _, rfl, _, rfl, _, _, rfl, rfl, _, rfl, txt cs, rfl, tl, _, _, rfl, rfl,
      small _ (by have := k1 none (some (at1 : Int)); have := k1 (some ((at1 : Int) + 1)) none; rw [str_app_len]; omega), ?_⟩
    refine ⟨_, rfl, _, rfl, _, rfl, _, _, rfl, rfl, .inl ⟨by decide, by decide⟩, _, rfl, _, _, rfl, rfl, _, _, rfl, rfl, (by show (0 : Int) < _; decide), _, rfl, txt cs, rfl, tl, _, _, rfl, rfl,
      small _ (by have := k1 none (some ((3 * (0 + (i : Int)) + (at1 : Int)) % 8)); omega), ?_⟩
    refine ⟨_, rfl, _, rfl, _, _, rfl, rfl, (by show (0 : Int) < _; decide), _, _, rfl, rfl, _, rfl, txt cs, rfl, tl, ?_⟩
    refine ⟨_, rfl, _, rfl, _, _, rfl, rfl, (by show (0 : Int) < _; decide), _, _, rfl, rfl, _, rfl, txt cs, rfl, tl, by show 4 ≤ sizeLine; decide, fun t ht => ?_⟩
    rw [eA, eB, eC, eD]
    have nt : t ≠ p := y2.ne ht
    have ntw : wl ≠ t := ne_of_none y3 ht
    refine ⟨_, rfl, .inl ⟨rfl, _, SqL.of ((upd_ne ntw).trans y3)⟩, _, rfl, _, rfl, t, _, way1, _, rfl, rfl, SqL.of upd_same, pick4 (by omega), wl, _, _, rfl, rfl, (upd_ne ntw).trans y3, ?_, ?_⟩
    · rw [List.length_map, List.length_map, List.length_range]
      exact small1000 (by omega)
    · have ft : H t = none := y1.free nt ht
      refine ⟨(y1.put ft).put fwl, y2.keep ((upd_ne (Ne.symm nwl)).trans (upd_ne (Ne.symm nt))), ?_, _, _, _, rfl⟩
      rw [upd_same, ← range_map_snoc, List.map_append]
      rfl
  · rintro σ H' ⟨y1, y2, y3, z1, z2, z3, rfl⟩
    rw [em] at y3
    refine ⟨_, rfl, q wl _ H' y1 y2 fwl nwl y3 (by simp) (wds_of z8 hat ?_ zc)⟩
    omega
end
end K4
namespace L2
open PySem PySem.Spec PyProof.Rows
mutual
def Dat.st : Dat → Bool
  | .str _ => true
  | .tup ds => Dat.sts ds
  | _ => false
def Dat.sts : List Dat → Bool
  | [] => true
  | d :: ds => d.st && Dat.sts ds
end
theorem Dat.sts_get : ∀ {ds : List Dat} {i : Nat} {d : Dat}, Dat.sts ds = true → ds[i]? = some d → d.st = true
  | [], i, d, _, e => by simp at e
  | a :: ds, 0, d, h, e => by
    have e' : some a = some d := e
    cases e'
    unfold Dat.sts at h
    exact (Bool.and_eq_true_iff.mp h).1
  | a :: ds, i + 1, d, h, e => by
    unfold Dat.sts at h
    exact Dat.sts_get (i := i) (Bool.and_eq_true_iff.mp h).2 e
theorem beqs_min : ∀ (as bs : List Dat), ((List.range (min as.length bs.length)).all (fun i => ((as[i]?).getD .non).beq ((bs[i]?).getD .non)) && as.length == bs.length) = Dat.beqs as bs
  | [], [] => by unfold Dat.beqs; rfl
  | [], _ :: _ => by unfold Dat.beqs; simp
  | _ :: _, [] => by unfold Dat.beqs; simp
  | a :: as, b :: bs => by
    have ih := beqs_min as bs
    have e : min (a :: as).length (b :: bs).length = min as.length bs.length + 1 := by simp only [List.length_cons]; omega
    rw [e, List.range_succ_eq_map, List.all_cons, List.all_map]
    unfold Dat.beqs
    rw [← ih]
    have e2 : ((a :: as).length == (b :: bs).length) = (as.length == bs.length) := by simp
    rw [e2, Bool.and_assoc]
    rfl
theorem tup_at {P : Program} {w : World} {H : Hp} {s : Shared} (ok : HOk P w H s.heap) {a : Addr} {xs : List V} (h : H a = some (.tup xs)) : ∃ its : List Value, Vals xs its ∧ s.heap.IsTuple a its.toArray := by
  obtain ⟨_, its, r, p⟩ := (show ObjOk P w H s.heap a (.tup xs) from ok a _ h)
  exact ⟨its, r, p.is⟩
theorem eqAt_dat {P : Program} {w : World} {H : Hp} {s : Shared} (ok : HOk P w H s.heap) : ∀ (n : Nat) (d1 d2 : Dat) (A : Around) {x y : V} {u v : Value}, d1.dep ≤ n → Has H x d1 → Has H y d2 → d1.st = true → d2.st = true → RelV x u → RelV y v → Room (n + 1) A → SeqAt.EqAt A s u v (d1.beq d2)
  | n, d1, d2, A, x, y, u, v, hn, hx, hy, st1, st2, ru, rv, hr => by
    cases d1 with
    | str a =>
      unfold Has at hx
      subst hx
      obtain ⟨t, rfl⟩ := ru
      cases d2 with
      | str b =>
        unfold Has at hy
        subst hy
        obtain ⟨t', rfl⟩ := rv
        unfold Dat.beq
        exact SeqAt.EqAt.str_str _ _ _ _
      | tup es =>
        unfold Has at hy
        obtain ⟨p, ys, rfl, hp, _⟩ := hy
        cases rv
        obtain ⟨its, r, pt⟩ := tup_at ok hp
        unfold Dat.beq
        exact SeqAt.EqAt.str_tuple _ _ pt hr.units0
      | _ => unfold Dat.st at st2; cases st2
    | tup ds =>
      unfold Has at hx
      obtain ⟨p, xs, rfl, hp, hxs⟩ := hx
      cases ru
      obtain ⟨its, r, pt⟩ := tup_at ok hp
      cases d2 with
      | str b =>
        unfold Has at hy
        subst hy
        obtain ⟨t', rfl⟩ := rv
        unfold Dat.beq
        exact SeqAt.EqAt.tuple_str _ _ pt hr.units0
      | tup es =>
        have hy' := hy
        unfold Has at hy
        obtain ⟨p2, ys, rfl, hp2, hys⟩ := hy
        cases rv
        obtain ⟨its2, r2, pt2⟩ := tup_at ok hp2
        by_cases e : p = p2
        · subst e
          rw [hp] at hp2
          cases hp2
          rw [HasL.inj ds es hxs hys, Dat.beq_self]
          exact SeqAt.EqAt.same _
        · refine SeqAt.EqAt.of_refs e ?_
          have l1 := hxs.length
          have l2 := hys.length
          have l3 := r.length
          have l4 := r2.length
          have dd : Dat.deps ds + 1 ≤ n := by unfold Dat.dep at hn; omega
          obtain ⟨m, rfl⟩ : ∃ m, n = m + 1 := ⟨n - 1, by omega⟩
          have q := SeqAt.RcAt.tuples (A := A) (e := fun i => ((ds[i]?).getD .non).beq ((es[i]?).getD .non)) pt pt2 hr.units0 ?_
          · have k1 : its.toArray.size = ds.length := by rw [List.size_toArray]; omega
            have k2 : its2.toArray.size = es.length := by rw [List.size_toArray]; omega
            rw [k1, k2, beqs_min] at q
            rw [beq_tup]
            exact q
          · intro j h1 h2
            rw [List.size_toArray] at h1 h2
            have j1 : j < xs.length := by omega
            have j2 : j < ys.length := by omega
            obtain ⟨d, hd, hh⟩ := hxs.get (List.getElem?_eq_getElem j1)
            obtain ⟨d', hd', hh'⟩ := hys.get (List.getElem?_eq_getElem j2)
            obtain ⟨u1, hu1, ru1⟩ := r.get (List.getElem?_eq_getElem j1)
            obtain ⟨u2, hu2, ru2⟩ := r2.get (List.getElem?_eq_getElem j2)
            have i1 : its.toArray[j] = u1 := by
              have z := (List.getElem?_eq_some_iff.mp hu1).2
              simpa using z
            have i2 : its2.toArray[j] = u2 := by
              have z := (List.getElem?_eq_some_iff.mp hu2).2
              simpa using z
            rw [i1, i2, hd, hd']
            have c1 := Dat.deps_get hd
            unfold Dat.st at st1 st2
            exact eqAt_dat ok m d d' A.in1 (by omega) hh hh' (Dat.sts_get st1 hd) (Dat.sts_get st2 hd') ru1 ru2 hr.in1
      | _ => unfold Dat.st at st2; cases st2
    | _ => unfold Dat.st at st1; cases st1
  termination_by n => n
def rInD (K : PySem.W.Frag) : R2 := fun x y H Q => ∃ (p : Addr) (xs : List V) (ds : List Dat) (d : Dat), y = .ref p ∧ SqL K H p xs ∧ HasL H xs ds ∧ Has H x d ∧ Dat.sts ds = true ∧ d.st = true ∧ Dat.deps ds ≤ 4 ∧ Q (.bl (ds.any fun e => e.beq d)) H
theorem any_of_vals {H : Hp} {d : Dat} : ∀ {xs : List V} {us : List Value} {ds : List Dat} (e : Value → Bool), Vals xs us → HasL H xs ds → (∀ (i : Nat) (u : Value) (c : Dat), us[i]? = some u → ds[i]? = some c → e u = c.beq d) → us.any e = ds.any fun c => c.beq d
  | [], _, ds, e, r, h, _ => by
    cases r
    cases ds with
    | nil => rfl
    | cons _ _ => unfold HasL at h; exact h.elim
  | x :: xs, _, ds, e, r, h, hz => by
    cases r with
    | cons r1 r2 =>
      cases ds with
      | nil => unfold HasL at h; exact h.elim
      | cons c ds =>
        unfold HasL at h
        rw [List.any_cons, List.any_cons, hz 0 _ c rfl rfl, any_of_vals e r2 h.2 fun i u c' e1 e2 => hz (i + 1) u c' e1 e2]
theorem op_in_dat {X : Cx} {k : Nat} (hr : Room (k + 6) X.A) : OpR X (compareOp .In) (rInD X.K) := by
  intro pins s σ H x y v u Q I rx ry h
  obtain ⟨p, xs, ds, d, rfl, hq, hl, hd, st1, st2, dp, q⟩ := h
  cases ry
  obtain ⟨its, r, pl, hz⟩ := I.list hq
  have hr5 : Room 5 X.A.in1 := (hr.mono (by omega : 6 ≤ k + 6)).in1
  -- what == tells of each item, by classical choice of its datum
  let e : Value → Bool := fun u => @decide (∃ (i : Nat) (c : Dat), its[i]? = some u ∧ ds[i]? = some c ∧ c.beq d = true) (Classical.propDecidable _)
  have key : ∀ (i : Nat) (u : Value) (c : Dat), its[i]? = some u → ds[i]? = some c → ∀ (x1 : V), RelV x1 u → Has H x1 c → SeqAt.EqAt X.A.in1 s u v (c.beq d) := fun i u c e1 e2 x1 r1 h1 => by
    have := Dat.deps_get e2
    exact eqAt_dat I.hok 4 c d X.A.in1 (by omega) h1 hd (Dat.sts_get st1 e2) st2 r1 rx hr5
  have one : ∀ (i : Nat) (u : Value) (c : Dat), its[i]? = some u → ds[i]? = some c → e u = c.beq d := fun i u c e1 e2 => by
    have hi : i < its.length := (List.getElem?_eq_some_iff.mp e1).1
    have l := r.length
    obtain ⟨u1, hu1, ru1⟩ := r.get (List.getElem?_eq_getElem (show i < xs.length by omega))
    rw [e1] at hu1
    cases hu1
    obtain ⟨c1, hc1, hh1⟩ := hl.get (List.getElem?_eq_getElem (show i < xs.length by omega))
    rw [e2] at hc1
    cases hc1
    by_cases b : c.beq d = true
    · rw [b]
      exact @decide_eq_true _ (Classical.propDecidable _) ⟨i, c, e1, e2, b⟩
    · have b' : c.beq d = false := by simpa using b
      rw [b']
      refine @decide_eq_false _ (Classical.propDecidable _) ?_
      rintro ⟨j, c', f1, f2, f3⟩
      have hj : j < its.length := (List.getElem?_eq_some_iff.mp f1).1
      obtain ⟨u2, hu2, ru2⟩ := r.get (List.getElem?_eq_getElem (show j < xs.length by omega))
      rw [f1] at hu2
      cases hu2
      obtain ⟨c2, hc2, hh2⟩ := hl.get (List.getElem?_eq_getElem (show j < xs.length by omega))
      rw [f2] at hc2
      cases hc2
      have ev := RelV.inj ru1 ru2
      rw [ev] at hh1
      rw [Has.inj c c' hh1 hh2, f3] at b'
      cases b'
  refine SeqAt.in_listAt e pl.isList (fun w hw => ?_) ⟨.bl _, H, I, rfl, ?_⟩
  · obtain ⟨i, hi, ei⟩ := List.mem_iff_getElem.mp (show w ∈ its by simpa using hw)
    have l := r.length
    obtain ⟨u1, hu1, ru1⟩ := r.get (List.getElem?_eq_getElem (show i < xs.length by omega))
    have e1 : its[i]? = some w := by rw [List.getElem?_eq_getElem hi, ei]
    rw [e1] at hu1
    cases hu1
    obtain ⟨c1, hc1, hh1⟩ := hl.get (List.getElem?_eq_getElem (show i < xs.length by omega))
    rw [one i w c1 e1 hc1]
    exact key i w c1 e1 hc1 _ ru1 hh1
  · rw [show its.toArray.any e = its.any e by simp, any_of_vals e r hl one]
    exact q
inductive Shp where
  | tags (ts : List Str)
  | pair (a b : Str)
def Shp.dat : Shp → Dat
  | .tags ts => .tup [.str "tags", .tup (ts.map Dat.str)]
  | .pair a b => .tup [.str "pair", .str a, .str b]
theorem strs_sts : ∀ ts : List Str, Dat.sts (ts.map Dat.str) = true
  | [] => by unfold Dat.sts; rfl
  | t :: ts => by rw [List.map_cons]; unfold Dat.sts; rw [strs_sts ts]; unfold Dat.st; rfl
theorem strs_deps : ∀ ts : List Str, Dat.deps (ts.map Dat.str) = 0
  | [] => by unfold Dat.deps; rfl
  | t :: ts => by rw [List.map_cons]; unfold Dat.deps; rw [strs_deps ts]; unfold Dat.dep; rfl
theorem Shp.st : ∀ s : Shp, s.dat.st = true
  | .tags ts => by simp [Shp.dat, Dat.st, Dat.sts, strs_sts]
  | .pair a b => by simp [Shp.dat, Dat.st, Dat.sts]
theorem Shp.dep : ∀ s : Shp, s.dat.dep ≤ 2
  | .tags ts => by simp [Shp.dat, Dat.dep, Dat.deps, strs_deps]
  | .pair a b => by simp [Shp.dat, Dat.dep, Dat.deps]
theorem shps_sts : ∀ ss : List Shp, Dat.sts (ss.map Shp.dat) = true
  | [] => by unfold Dat.sts; rfl
  | t :: ts => by rw [List.map_cons]; unfold Dat.sts; rw [shps_sts ts, Shp.st]; rfl
theorem shps_deps : ∀ ss : List Shp, Dat.deps (ss.map Shp.dat) ≤ 2
  | [] => by unfold Dat.deps; decide
  | t :: ts => by rw [List.map_cons]; unfold Dat.deps; exact Nat.max_le.mpr ⟨Shp.dep t, shps_deps ts⟩
theorem tup_ne_strm {H : Hp} {p a : Addr} {xs : List V} (s : Strm H p) (h : H a = some (.tup xs)) : a ≠ p := fun e => by
  obtain ⟨_, _, _, _, q⟩ := s
  rw [← e, h] at q; cases q
mutual
theorem has_sb {H H' : Hp} {p : Addr} (b : SameB p H H') (s : Strm H p) : ∀ (d : Dat) {v : V}, d.st = true → Has H v d → Has H' v d
  | .str _, _, _, h => by unfold Has at h ⊢; exact h
  | .tup ds, _, t, h => by
    unfold Has at h ⊢
    obtain ⟨a, xs, h1, h2, h3⟩ := h
    unfold Dat.st at t
    exact ⟨a, xs, h1, b _ _ (tup_ne_strm s h2) h2, hasL_sb' b s ds t h3⟩
  | .non, _, t, _ => by unfold Dat.st at t; cases t
  | .bl _, _, t, _ => by unfold Dat.st at t; cases t
  | .int _, _, t, _ => by unfold Dat.st at t; cases t
  | .lst _, _, t, _ => by unfold Dat.st at t; cases t
theorem hasL_sb' {H H' : Hp} {p : Addr} (b : SameB p H H') (s : Strm H p) : ∀ (ds : List Dat) {xs : List V}, Dat.sts ds = true → HasL H xs ds → HasL H' xs ds
  | [], [], _, h => HasL.nil
  | [], _ :: _, _, h => by unfold HasL at h; exact h.elim
  | _ :: _, [], _, h => by unfold HasL at h; exact h.elim
  | d :: ds, x :: xs, t, h => by
    unfold HasL at h
    unfold Dat.sts at t
    have t' := Bool.and_eq_true_iff.mp t
    exact HasL.cons (has_sb b s d t'.1 h.1) (hasL_sb' b s ds t'.2 h.2)
end
theorem hasL_sb {H H' : Hp} {p : Addr} {ss : List Shp} {xs : List V} (b : SameB p H H') (s : Strm H p) (h : HasL H xs (ss.map Shp.dat)) : HasL H' xs (ss.map Shp.dat) := hasL_sb' b s _ (shps_sts ss) h
def Nums (H : Hp) (d : Addr) (ys : List Str) (lo hi : Nat) : Prop := ∃ kvs, H d = some (.dK kvs) ∧ kvs.length ≤ ys.length ∧ ∀ y ∈ ys, ∃ n : Nat, valV kvs (Sum.inr y) = some (.int n) ∧ lo ≤ n ∧ n ≤ hi
end L2
namespace K4
open PySem L2
theorem scSmall : FnScope ["stream", "many"] ["stream", "many"] (defScope sSmall) := ⟨rfl, rfl, rfl, by decide +kernel, rfl, by decide +kernel, by decide +kernel⟩
theorem scPair : FnScope ["stream", "names", "counts", "depths", "taken", "top", "one", "other", "deep"] ["stream", "names", "counts", "depths", "taken", "top"] (defScope sPair) := ⟨rfl, rfl, rfl, by decide +kernel, rfl, by decide +kernel, by decide +kernel⟩
theorem small_abc : (Str.ofString "abcdefghijklmnopqrstuvwxyz") = alpha 97 := by decide +kernel
theorem great_abc : (Str.ofString "ABCDEFGHIJKLMNOPQRSTUVWXYZ") = alpha 65 := by decide +kernel
section
variable {P : Program} {w : World} {K : PySem.W.Frag} {mg : Str → Option Value} {base : Heap} {f g : Addr} {fd gd : FuncData}
def spSmall : Sp := fun vs H Q _ => ∃ (p : Addr) (many : Nat), vs = [.ref p, .int many] ∧ Strm H p ∧ many ≤ 8 ∧
  ∀ (r : Addr) (ys : List Str) (H' : Hp), SameB p H H' → Strm H' p → H r = none → r ≠ p → H' r = some (.lst (ys.map V.str)) → ys.length = many → Wds 97 ys → Q (.ref r) H'
theorem ok_small {n : Nat} (F : Fun K "_law_small" "_law_small" sSmall f fd) (G : FnOk P w K mg base CX0 n g gd ["stream", "many", "letters", "ways"] spWords) (bG : Binds K gd ["stream", "many", "letters", "ways"] []) (kG : PySem.W.keepIn K (.ref g) = true) (mG : mg "_law_words" = some (.ref g)) :
    FnOk P w K mg base CX0 (n + 1) f fd ["stream", "many"] spSmall := by
  refine F.ok scSmall (fun vs H Q E h => ?_) (fun cdv A outer s H vs Q E hr h => ?_)
  · obtain ⟨p, many, rfl, _⟩ := h
    rfl
  obtain ⟨p, many, rfl, hs, hm, q⟩ := h
  refine ⟨_, pss_one (ps_ret (pe_call G hr rfl mG kG bG .nil pass0 (pa_cons (pv 0) (pa_cons (pv 1) (pa_cons pe_str (pa_cons pe_int pa_nil)))))), ?_⟩
  refine ⟨_, rfl, _, rfl, p, many, 97, 4, ?_, hs, .inl rfl, by decide, .inr ⟨by decide, hm⟩, q⟩
  rw [← small_abc]; rfl
def spPair (K : PySem.W.Frag) : Sp := fun vs H Q _ => ∃ (p nm cn dp tk : Addr) (top : Nat) (ys : List Str) (ss : List Shp), vs = [.ref p, .ref nm, .ref cn, .ref dp, .ref tk, .int top] ∧ Strm H p ∧ H nm = some (.lst (ys.map V.str)) ∧ 0 < ys.length ∧ ys.length ≤ 8 ∧
  Nums H cn ys 0 1000 ∧ Nums H dp ys 0 1000 ∧ Has H (.ref tk) (.lst (ss.map Shp.dat)) ∧ nm ≠ p ∧ cn ≠ p ∧ dp ≠ p ∧ tk ≠ p ∧
  ∀ (v : V) (H' : Hp), SameB p H H' → Strm H' p → (v = .non ∨ ∃ (a b : Str) (r : Addr) (ca cb da db : Nat), a ∈ ys ∧ b ∈ ys ∧ v = .ref r ∧ H r = none ∧ H' r = some (.tup [.str "pair", .str a, .str b]) ∧
    (∀ kvs, H cn = some (.dK kvs) → valV kvs (Sum.inr a) = some (.int ca) ∧ valV kvs (Sum.inr b) = some (.int cb)) ∧ (∀ kvs, H dp = some (.dK kvs) → valV kvs (Sum.inr a) = some (.int da) ∧ valV kvs (Sum.inr b) = some (.int db)) ∧
    1 + max da db ≤ 2 ∧ 1 + ca * cb ≤ top ∧ Shp.pair a b ∉ ss) → Q v H'
theorem ok_pair {n : Nat} (B : Blt mg) (F : Fun K "_law_pair" "_law_pair" sPair f fd) (G : FnOk P w K mg base CX0 (n + 6) g gd ["stream", "many"] spTake) (bG : Binds K gd ["stream", "many"] []) (kG : PySem.W.keepIn K (.ref g) = true) (mG : mg "_law_take" = some (.ref g)) :
    FnOk P w K mg base CX0 (n + 6 + 1) f fd ["stream", "names", "counts", "depths", "taken", "top"] (spPair K) := by
  refine F.ok scPair (fun vs H Q E h => ?_) (fun cdv A outer s H vs Q E hr h => ?_)
  · obtain ⟨p, nm, cn, dp, tk, top, ys, ss, rfl, _⟩ := h
    rfl
  obtain ⟨p, nm, cn, dp, tk, top, ys, ss, rfl, hs, hn, y0, y8, hc, hd, ht, n1, n2, n3, n4, q⟩ := h
  have hu := hu_of hr
  refine ⟨_, pss_cons (ps_set (i := 6) scPair.nd rfl (Or.inl rfl) (pe_ix ix_list (pv 1) (pe_call G hr rfl mG kG bG .nil pass0 (pa_cons (pv 0) (pa_cons (pe_callB call_len_seq rfl B.len PySem.boot_len (pa_cons (pv 1) pa_nil)) pa_nil))) (fun _ _ => rfl)))
    (pss_cons (ps_set (i := 7) scPair.nd rfl (Or.inl rfl) (pe_ix ix_list (pv 1) (pe_call G hr rfl mG kG bG .nil pass0 (pa_cons (pv 0) (pa_cons (pe_callB call_len_seq rfl B.len PySem.boot_len (pa_cons (pv 1) pa_nil)) pa_nil))) (fun _ _ => rfl)))
    (pss_cons (ps_set (i := 8) scPair.nd rfl (Or.inl rfl) (pe_op op_add pe_int (pe_callB (call_max2 rfl) rfl B.max boot_max' (pa_cons (pe_dget hu (pv 3) (pv 6) (fun _ _ => rfl)) (pa_cons (pe_dget hu (pv 3) (pv 7) (fun _ _ => rfl)) pa_nil)))))
    (pss_cons (ps_if (PW.pt (pw_or (pt_cmpR op_gt (pv 8) pe_int (nomark _)) (pw_or (pt_cmpR op_gt (pe_op op_add pe_int (pe_op op_mul (pe_dget hu (pv 2) (pv 6) (fun _ _ => rfl)) (pe_dget hu (pv 2) (pv 7) (fun _ _ => rfl)))) (pv 5) (nomark _))
        (pw_or1 (pt_cmpR (op_in_dat hr) (pe_tup (pa_cons pe_str (pa_cons (pv 6) (pa_cons (pv 7) pa_nil)))) (pv 4) rfl))))) (pss_one (ps_ret pe_non)) pss_nil)
    (pss_one (ps_ret (pe_tup (pa_cons pe_str (pa_cons (pv 6) (pa_cons (pv 7) pa_nil))))))))), ?_⟩
  have ln : (ys.map V.str).length = ys.length := List.length_map _
  have at_of : ∀ r : Int, 0 ≤ r → r < ((ys.map V.str).length : Nat) → ∃ a, a ∈ ys ∧ atI (ys.map V.str) r = some (.str a) := fun r r0 r1 => by
    obtain ⟨m, rfl⟩ : ∃ m : Nat, r = m := ⟨r.toNat, by omega⟩
    have hm : m < ys.length := by omega
    exact ⟨ys[m], List.getElem_mem hm, atI_nat (by rw [List.getElem?_map, List.getElem?_eq_getElem hm]; rfl)⟩
  refine ⟨_, rfl, _, rfl, _, rfl, nm, _, rfl, .inl (SqL.of hn), p, _, rfl, hs, by omega, by omega, fun r1 H1 r10 r11 b1 s1 => ?_⟩
  obtain ⟨a, ha, ea⟩ := at_of r1 r10 r11
  have hn1 : H1 nm = some (.lst (ys.map V.str)) := (b1 nm n1).trans hn
  refine ⟨nm, _, r1, _, rfl, rfl, SqL.of hn1, ea, ?_⟩
  refine ⟨_, rfl, _, rfl, _, rfl, nm, _, rfl, .inl (SqL.of hn1), p, _, rfl, s1, by omega, by omega, fun r2 H2 r20 r21 b2 s2 => ?_⟩
  obtain ⟨b, hb, eb⟩ := at_of r2 r20 r21
  have hn2 : H2 nm = some (.lst (ys.map V.str)) := (b2 nm n1).trans hn1
  refine ⟨nm, _, r2, _, rfl, rfl, SqL.of hn2, eb, ?_⟩
  have bb : SameB p H H2 := b1.sb.trans b2.sb
  obtain ⟨kc, hkc, _, fc⟩ := hc
  obtain ⟨kd, hkd, _, fd'⟩ := hd
  obtain ⟨ca, hca, _, ca1⟩ := fc a ha
  obtain ⟨cb, hcb, _, cb1⟩ := fc b hb
  obtain ⟨da, hda, _, da1⟩ := fd' a ha
  obtain ⟨db, hdb, _, db1⟩ := fd' b hb
  have kc2 := bb _ _ n2 hkc
  have kd2 := bb _ _ n3 hkd
  have gda : DGet H2 dp (.str a) (some (.int da)) := by rw [← hda]; exact DGet.k (k := Sum.inr a) kd2
  have gdb : DGet H2 dp (.str b) (some (.int db)) := by rw [← hdb]; exact DGet.k (k := Sum.inr b) kd2
  have gca : DGet H2 cn (.str a) (some (.int ca)) := by rw [← hca]; exact DGet.k (k := Sum.inr a) kc2
  have gcb : DGet H2 cn (.str b) (some (.int cb)) := by rw [← hcb]; exact DGet.k (k := Sum.inr b) kc2
  refine ⟨_, rfl, _, rfl, dp, _, rfl, gda, _, rfl, _, rfl, dp, _, rfl, gdb, _, _, rfl, _, _, rfl, rfl, ?_⟩
  have none_ok : Q .non H2 := q _ _ bb s2 (.inl rfl)
  refine ⟨_, rfl, _, _, rfl, rfl, _, rfl, ?_⟩
  refine ite2 (fun c1 => iteP rfl none_ok) (fun c1 => ?_)
  refine ⟨_, rfl, _, rfl, cn, _, rfl, gca, _, rfl, _, rfl, cn, _, rfl, gcb, _, _, rfl, rfl, .inl ⟨by omega, by omega⟩, _, _, rfl, rfl, _, rfl, _, _, rfl, rfl, _, rfl, ?_⟩
  refine ite2 (fun c2 => iteP rfl none_ok) (fun c2 => ?_)
  refine ⟨_, rfl, _, rfl, by show 3 ≤ sizeLine; decide, fun t ht' => ?_⟩
  have st := same_upd ht' (.tup [.str "pair", .str a, .str b])
  have nt : t ≠ p := s2.ne ht'
  have ht2 : Has H2 (.ref tk) (.lst (ss.map Shp.dat)) := by
    obtain ⟨_, xs, er, hx, hl⟩ := has_lst ht
    cases er
    exact lst_has (bb _ _ n4 hx) (hasL_sb bb hs hl)
  obtain ⟨_, xs, er, hx, hl⟩ := has_lst (ht2.mono st)
  cases er
  have hd3 : Has (upd H2 t (.tup [.str "pair", .str a, .str b])) (.ref t) (Shp.pair a b).dat := by
    unfold Shp.dat Has
    refine ⟨t, _, rfl, upd_same, HasL.cons ?_ (HasL.cons ?_ (HasL.cons ?_ HasL.nil))⟩ <;> (unfold Has; rfl)
  refine ⟨_, rfl, tk, xs, _, (Shp.pair a b).dat, rfl, SqL.of hx, hl, hd3, shps_sts ss, Shp.st _, by have := shps_deps ss; omega, _, rfl, ?_⟩
  refine ite2 (fun c3 => ?_) (fun c3 => ?_)
  · exact q _ _ (bb.trans st.sb) (s2.keep (upd_ne (Ne.symm nt))) (.inl rfl)
  · refine ⟨_, rfl, _, rfl, by show 3 ≤ sizeLine; decide, fun t2 ht2' => ?_⟩
    have st2 := same_upd ht2' (.tup [.str "pair", .str a, .str b])
    have s3 : Strm (upd H2 t (.tup [.str "pair", .str a, .str b])) p := s2.keep (upd_ne (Ne.symm nt))
    have nt2 : t2 ≠ p := s3.ne ht2'
    refine q _ _ ((bb.trans st.sb).trans st2.sb) (s3.keep (upd_ne (Ne.symm nt2))) (.inr ⟨a, b, t2, ca, cb, da, db, ha, hb, rfl, ((bb.trans st.sb).free nt2 ht2'), upd_same, ?_, ?_, ?_, ?_, ?_⟩)
    · intro kvs e
      rw [hkc] at e
      cases e
      exact ⟨hca, hcb⟩
    · intro kvs e
      rw [hkd] at e
      cases e
      exact ⟨hda, hdb⟩
    · have c1' : ¬ ((2 : Int) < 1 + (if (db : Int) > da then (db : Int) else da)) := fun z => c1 (decide_eq_true z)
      split at c1' <;> omega
    · have c2' : ¬ ((top : Int) < 1 + (ca : Int) * cb) := fun z => c2 (decide_eq_true z)
      have e : ((ca * cb : Nat) : Int) = (ca : Int) * cb := by push_cast; rfl
      omega
    · intro hm
      exact c3 (List.any_eq_true.mpr ⟨_, List.mem_map.mpr ⟨_, hm, rfl⟩, Dat.beq_self _⟩)
end
end K4
namespace L2
open PySem
def TK (H H' : Hp) : Prop := ∀ b xs, H b = some (.tup xs) → H' b = some (.tup xs)
theorem SameB.tk {p : Addr} {H H' : Hp} (a : SameB p H H') (s : Strm H p) : TK H H' := fun b xs h => a b _ (tup_ne_strm s h) h
theorem tk_upd {H : Hp} {a : Addr} {o u : HO} (h : H a = some u) (hu : ∀ xs, u ≠ .tup xs) : TK H (upd H a o) := fun b xs e => by
  rw [upd_ne (ne_of e h fun z => hu xs z.symm)]; exact e
mutual
theorem has_tk {H H' : Hp} (b : TK H H') : ∀ (d : Dat) {v : V}, d.st = true → Has H v d → Has H' v d
  | .str _, _, _, h => by unfold Has at h ⊢; exact h
  | .tup ds, _, t, h => by
    unfold Has at h ⊢
    obtain ⟨a, xs, h1, h2, h3⟩ := h
    unfold Dat.st at t
    exact ⟨a, xs, h1, b _ _ h2, hasL_tk b ds t h3⟩
  | .non, _, t, _ => by unfold Dat.st at t; cases t
  | .bl _, _, t, _ => by unfold Dat.st at t; cases t
  | .int _, _, t, _ => by unfold Dat.st at t; cases t
  | .lst _, _, t, _ => by unfold Dat.st at t; cases t
theorem hasL_tk {H H' : Hp} (b : TK H H') : ∀ (ds : List Dat) {xs : List V}, Dat.sts ds = true → HasL H xs ds → HasL H' xs ds
  | [], [], _, h => HasL.nil
  | [], _ :: _, _, h => by unfold HasL at h; exact h.elim
  | _ :: _, [], _, h => by unfold HasL at h; exact h.elim
  | d :: ds, x :: xs, t, h => by
    unfold HasL at h
    unfold Dat.sts at t
    have t' := Bool.and_eq_true_iff.mp t
    exact HasL.cons (has_tk b d t'.1 h.1) (hasL_tk b ds t'.2 h.2)
end
def kindD (k : Str × Shp) : Dat := .tup [.str k.1, k.2.dat]
theorem kinds_sts : ∀ ks : List (Str × Shp), Dat.sts (ks.map kindD) = true
  | [] => by unfold Dat.sts; rfl
  | k :: ks => by
    rw [List.map_cons]; unfold Dat.sts
    rw [kinds_sts ks]
    have e := Shp.st k.2
    simp [kindD, Dat.st, Dat.sts, e]
def KK1 (top : Nat) (c d : Str → Nat) (ahead : List Str) (y : Str) : Shp → Prop
  | .tags ts => 1 ≤ ts.length ∧ ts.length ≤ 4 ∧ c y = 1 + ts.length ∧ d y = 0 ∧ ts.Nodup
  | .pair a b => a ∈ ahead ∧ b ∈ ahead ∧ c y = 1 + c a * c b ∧ c y ≤ top ∧ d y = 1 + max (d a) (d b) ∧ d y ≤ 2
def KK (top : Nat) (c d : Str → Nat) (ks : List (Str × Shp)) : Prop := ∀ (i : Nat) (y : Str) (s : Shp), ks[i]? = some (y, s) → KK1 top c d ((ks.take i).map (·.1)) y s
theorem KK1.of {top : Nat} {c d c' d' : Str → Nat} {ahead : List Str} {y : Str} {s : Shp} (h : KK1 top c d ahead y s) (ec : ∀ z, z ∈ ahead ∨ z = y → c' z = c z) (ed : ∀ z, z ∈ ahead ∨ z = y → d' z = d z) : KK1 top c' d' ahead y s := by
  cases s with
  | tags ts =>
    obtain ⟨h1, h2, h3, h4, h5⟩ := h
    exact ⟨h1, h2, (ec y (.inr rfl)).trans h3, (ed y (.inr rfl)).trans h4, h5⟩
  | pair a b =>
    obtain ⟨h1, h2, h3, h4, h5, h6⟩ := h
    refine ⟨h1, h2, ?_, ?_, ?_, ?_⟩
    · rw [ec y (.inr rfl), ec a (.inl h1), ec b (.inl h2)]; exact h3
    · rw [ec y (.inr rfl)]; exact h4
    · rw [ed y (.inr rfl), ed a (.inl h1), ed b (.inl h2)]; exact h5
    · rw [ed y (.inr rfl)]; exact h6
theorem KK.snoc {top : Nat} {c d : Str → Nat} {ks : List (Str × Shp)} {y : Str} {s : Shp} {n m : Nat} (h : KK top c d ks) (nd : (ks.map (·.1) ++ [y]).Nodup)
    (h1 : KK1 top (fun z => if z = y then n else c z) (fun z => if z = y then m else d z) (ks.map (·.1)) y s) : KK top (fun z => if z = y then n else c z) (fun z => if z = y then m else d z) (ks ++ [(y, s)]) := by
  have ny : ∀ z ∈ ks.map (·.1), z ≠ y := fun z hz e => by
    have q := List.nodup_append.mp nd
    exact q.2.2 z hz y (by simp) e
  intro i y' s' e
  by_cases hi : i < ks.length
  · rw [List.getElem?_append_left hi] at e
    rw [List.take_append_of_le_length (Nat.le_of_lt hi)]
    have hm : y' ∈ ks.map (·.1) := List.mem_map.mpr ⟨(y', s'), List.mem_of_getElem? e, rfl⟩
    have inn : ∀ z, z ∈ (ks.take i).map (·.1) ∨ z = y' → z ≠ y := fun z hz => by
      rcases hz with hz | hz
      · obtain ⟨k, hk, rfl⟩ := List.mem_map.mp hz
        exact ny _ (List.mem_map.mpr ⟨k, List.mem_of_mem_take hk, rfl⟩)
      · rw [hz]; exact ny _ hm
    exact (h i y' s' e).of (fun z hz => if_neg (inn z hz)) (fun z hz => if_neg (inn z hz))
  · have hl : i = ks.length := by
      have := (List.getElem?_eq_some_iff.mp e).1
      rw [List.length_append, List.length_singleton] at this
      omega
    subst hl
    rw [List.getElem?_append_right (Nat.le_refl _), Nat.sub_self] at e
    have e' : some (y, s) = some (y', s') := e
    cases e'
    rw [List.take_left]
    exact h1
structure KJ (H : Hp) (p nm tg cn dp kl : Addr) (top : Nat) (ys tgs : List Str) (i : Nat) (kc kd : List (Key × V)) (ks : List (Str × Shp)) (c d : Str → Nat) (xs : List V) (H' : Hp) : Prop where
  sb : SameB p H H'
  st : Strm H' p
  nms : H' nm = some (.lst (ys.map V.str))
  tgS : H' tg = some (.lst (tgs.map V.str))
  cns : H' cn = some (.dK kc)
  dps : H' dp = some (.dK kd)
  kls : H' kl = some (.lst xs)
  lc : kc.length ≤ i
  ld : kd.length ≤ i
  vc : ∀ y ∈ ys.take i, valV kc (Sum.inr y) = some (.int (c y)) ∧ c y ≤ 1000
  vd : ∀ y ∈ ys.take i, valV kd (Sum.inr y) = some (.int (d y)) ∧ d y ≤ 1000
  nk : ks.map (·.1) = ys.take i
  kk : KK top c d ks
  hs : HasL H' xs (ks.map kindD)
  tq : ∀ (i' : Nat) (y : Str) (ts : List Str), ks[i']? = some (y, .tags ts) → ∃ r, r < 4 ∧ ts = (tgs.drop (4 * i')).take (1 + r)
  pq : ∀ (i1 i2 : Nat) (y1 y2 a b : Str), ks[i1]? = some (y1, .pair a b) → ks[i2]? = some (y2, .pair a b) → i1 = i2
structure KG (ks : List (Str × Shp)) : Prop where
  nm : Wds 97 (ks.map (·.1))
  tg : ∃ tgs, Wds 65 tgs ∧ ∀ (i' : Nat) (y : Str) (ts : List Str), ks[i']? = some (y, .tags ts) → ∃ r, r < 4 ∧ ts = (tgs.drop (4 * i')).take (1 + r)
  pr : ∀ (i1 i2 : Nat) (y1 y2 a b : Str), ks[i1]? = some (y1, .pair a b) → ks[i2]? = some (y2, .pair a b) → i1 = i2
theorem KG.tags {ks : List (Str × Shp)} (g : KG ks) {y : Str} {ts : List Str} (h : (y, Shp.tags ts) ∈ ks) : Wds 65 ts := by
  obtain ⟨tgs, w, q⟩ := g.tg
  obtain ⟨i, hi, e⟩ := List.mem_iff_getElem.mp h
  obtain ⟨r, _, rfl⟩ := q i y ts (by rw [List.getElem?_eq_getElem hi, e])
  have sub : ∀ z, z ∈ (tgs.drop (4 * i)).take (1 + r) → z ∈ tgs := fun z hz => List.mem_of_mem_drop (List.mem_of_mem_take hz)
  exact ⟨w.nd.sublist ((List.take_sublist _ _).trans (List.drop_sublist _ _)), fun z hz => w.len z (sub z hz), fun z hz => w.abc z (sub z hz)⟩
structure KA (H : Hp) (p nm tg cn dp kl : Addr) : Prop where
  fn : H nm = none
  ft : H tg = none
  fc : H cn = none
  fd : H dp = none
  fk : H kl = none
  nmp : nm ≠ p
  tgp : tg ≠ p
  cnp : cn ≠ p
  dpp : dp ≠ p
  klp : kl ≠ p
  cd : cn ≠ dp
  nkl : nm ≠ kl
  tkl : tg ≠ kl
theorem take_snoc {α : Type} {l : List α} {i : Nat} {a : α} (h : l[i]? = some a) : l.take (i + 1) = l.take i ++ [a] := by
  have hi := (List.getElem?_eq_some_iff.mp h).1
  rw [List.take_succ_eq_append_getElem hi, (List.getElem?_eq_some_iff.mp h).2]
theorem KJ.step {H : Hp} {p nm tg cn dp kl t : Addr} {top : Nat} {ys tgs : List Str} {i : Nat} {kc kd : List (Key × V)} {ks : List (Str × Shp)} {c d : Str → Nat} {xs : List V} {H1 : Hp} {y : Str} {s : Shp} {v : V} {n m : Nat}
    (j : KJ H p nm tg cn dp kl top ys tgs i kc kd ks c d xs H1) (a : KA H p nm tg cn dp kl) (nd : ys.Nodup) (hy : ys[i]? = some y) (hv : Has H1 v s.dat) (hn : n ≤ 1000) (hm : m ≤ 1000)
    (k1 : KK1 top (fun z => if z = y then n else c z) (fun z => if z = y then m else d z) (ks.map (·.1)) y s)
    (g1 : ∀ ts, s = .tags ts → ∃ r, r < 4 ∧ ts = (tgs.drop (4 * i)).take (1 + r)) (g2 : ∀ a b, s = .pair a b → s ∉ ks.map (·.2))
    (ht : upd (upd H1 cn (.dK (putK kc (Sum.inr y) (.int n)))) dp (.dK (putK kd (Sum.inr y) (.int m))) t = none) :
    KJ H p nm tg cn dp kl top ys tgs (i + 1) (putK kc (Sum.inr y) (.int n)) (putK kd (Sum.inr y) (.int m)) (ks ++ [(y, s)]) (fun z => if z = y then n else c z) (fun z => if z = y then m else d z) (xs ++ [.ref t])
      (upd (upd (upd (upd H1 cn (.dK (putK kc (Sum.inr y) (.int n)))) dp (.dK (putK kd (Sum.inr y) (.int m)))) t (.tup [.str y, v])) kl (.lst (xs ++ [.ref t]))) := by
  have tc : t ≠ cn := fun e => by rw [e, upd_ne a.cd, upd_same] at ht; cases ht
  have td : t ≠ dp := fun e => by rw [e, upd_same] at ht; cases ht
  have h1t : H1 t = none := by rw [upd_ne td, upd_ne tc] at ht; exact ht
  have ne1 : ∀ b o, H1 b = some o → b ≠ t := fun b o e => ne_of_none e h1t
  have kc1 : kl ≠ cn := ne_of j.kls j.cns (fun z => nomatch z)
  have kd1 : kl ≠ dp := ne_of j.kls j.dps (fun z => nomatch z)
  have klt := ne1 _ _ j.kls
  have at_ : ∀ b, b ≠ cn → b ≠ dp → b ≠ t → b ≠ kl → (upd (upd (upd (upd H1 cn (.dK (putK kc (Sum.inr y) (.int n)))) dp (.dK (putK kd (Sum.inr y) (.int m)))) t (.tup [.str y, v])) kl (.lst (xs ++ [.ref t]))) b = H1 b := fun b b1 b2 b3 b4 => by
    rw [upd_ne b4, upd_ne b3, upd_ne b2, upd_ne b1]
  have tk : TK H1 (upd (upd (upd (upd H1 cn (.dK (putK kc (Sum.inr y) (.int n)))) dp (.dK (putK kd (Sum.inr y) (.int m)))) t (.tup [.str y, v])) kl (.lst (xs ++ [.ref t]))) := fun b zs e =>
    (at_ b (ne_of e j.cns (fun z => nomatch z)) (ne_of e j.dps (fun z => nomatch z)) (ne1 _ _ e) (ne_of e j.kls (fun z => nomatch z))).trans e
  have nm1 : nm ≠ cn := ne_of j.nms j.cns (fun z => nomatch z)
  have nm2 : nm ≠ dp := ne_of j.nms j.dps (fun z => nomatch z)
  have tg1 : tg ≠ cn := ne_of j.tgS j.cns (fun z => nomatch z)
  have tg2 : tg ≠ dp := ne_of j.tgS j.dps (fun z => nomatch z)
  have tp : t ≠ p := j.st.ne h1t
  have yn : ∀ z ∈ ys.take i, z ≠ y := fun z hz e => by
    have q : (ys.take i ++ [y]).Nodup := by rw [← take_snoc hy]; exact nd.sublist (List.take_sublist _ _)
    exact (List.nodup_append.mp q).2.2 z hz y (by simp) e
  have lk : ks.length = i := by
    have z1 := congrArg List.length j.nk
    have z2 := (List.getElem?_eq_some_iff.mp hy).1
    rw [List.length_map, List.length_take] at z1
    omega
  have new : ∀ (i' : Nat) (y' : Str) (s' : Shp), (ks ++ [(y, s)])[i']? = some (y', s') → ks[i']? = some (y', s') ∨ (i' = i ∧ s' = s) := fun i' y' s' e => by
    by_cases hi : i' < ks.length
    · rw [List.getElem?_append_left hi] at e; exact .inl e
    · have hl : i' = ks.length := by
        have z := (List.getElem?_eq_some_iff.mp e).1
        rw [List.length_append, List.length_singleton] at z
        omega
      subst hl
      rw [List.getElem?_append_right (Nat.le_refl _), Nat.sub_self] at e
      have e' : some (y, s) = some (y', s') := e
      cases e'
      exact .inr ⟨lk, rfl⟩
  refine ⟨fun b o hb e => ?_, ?_, ?_, ?_, ?_, ?_, upd_same, ?_, ?_, ?_, ?_, ?_, ?_, ?_, fun i' y' ts e => ?_, fun i1 i2 y1 y2 a' b' e1 e2 => ?_⟩
  · have e1 := j.sb b o hb e
    exact (at_ b (ne_of_none e a.fc) (ne_of_none e a.fd) (ne1 _ _ e1) (ne_of_none e a.fk)).trans e1
  · exact j.st.keep (at_ p (Ne.symm a.cnp) (Ne.symm a.dpp) (Ne.symm tp) (Ne.symm a.klp))
  · exact (at_ nm nm1 nm2 (ne1 _ _ j.nms) a.nkl).trans j.nms
  · exact (at_ tg tg1 tg2 (ne1 _ _ j.tgS) a.tkl).trans j.tgS
  · rw [upd_ne (Ne.symm kc1), upd_ne (Ne.symm tc), upd_ne a.cd, upd_same]
  · rw [upd_ne (Ne.symm kd1), upd_ne (Ne.symm td), upd_same]
  · have := length_putK kc (Sum.inr y) (.int n); have := j.lc; omega
  · have := length_putK kd (Sum.inr y) (.int m); have := j.ld; omega
  · intro z hz
    rw [take_snoc hy] at hz
    rw [valV_put]
    rcases List.mem_append.mp hz with h | h
    · have e : ¬ (Sum.inr z : Key) = Sum.inr y := fun q => yn z h (by injection q)
      show (if (Sum.inr z : Key) = Sum.inr y then _ else _) = some (V.int ((if z = y then n else c z : Nat) : Int)) ∧ (if z = y then n else c z) ≤ 1000
      rw [if_neg e, if_neg (yn z h)]
      exact j.vc z h
    · rw [List.mem_singleton.mp h]
      show (if (Sum.inr y : Key) = Sum.inr y then _ else _) = some (V.int ((if y = y then n else c y : Nat) : Int)) ∧ (if y = y then n else c y) ≤ 1000
      rw [if_pos rfl, if_pos rfl]; exact ⟨rfl, hn⟩
  · intro z hz
    rw [take_snoc hy] at hz
    rw [valV_put]
    rcases List.mem_append.mp hz with h | h
    · have e : ¬ (Sum.inr z : Key) = Sum.inr y := fun q => yn z h (by injection q)
      show (if (Sum.inr z : Key) = Sum.inr y then _ else _) = some (V.int ((if z = y then m else d z : Nat) : Int)) ∧ (if z = y then m else d z) ≤ 1000
      rw [if_neg e, if_neg (yn z h)]
      exact j.vd z h
    · rw [List.mem_singleton.mp h]
      show (if (Sum.inr y : Key) = Sum.inr y then _ else _) = some (V.int ((if y = y then m else d y : Nat) : Int)) ∧ (if y = y then m else d y) ≤ 1000
      rw [if_pos rfl, if_pos rfl]; exact ⟨rfl, hm⟩
  · rw [List.map_append, j.nk, take_snoc hy]; rfl
  · exact j.kk.snoc (by rw [j.nk, ← take_snoc hy]; exact nd.sublist (List.take_sublist _ _)) k1
  · rw [List.map_append]
    refine HasL.append (hasL_tk tk _ (kinds_sts ks) j.hs) (HasL.one ?_)
    show Has _ (.ref t) (kindD (y, s))
    unfold kindD Has
    refine ⟨t, [.str y, v], rfl, ?_, HasL.cons (by unfold Has; rfl) (HasL.cons (has_tk tk _ (Shp.st s) hv) HasL.nil)⟩
    rw [upd_ne (Ne.symm klt), upd_same]
  · rcases new i' y' _ e with h | ⟨rfl, h⟩
    · exact j.tq i' y' ts h
    · exact g1 ts h.symm
  · have mem : ∀ (i' : Nat) (y' : Str) (s' : Shp), ks[i']? = some (y', s') → s' ∈ ks.map (·.2) := fun i' y' s' e => List.mem_map.mpr ⟨(y', s'), List.mem_of_getElem? e, rfl⟩
    rcases new i1 y1 _ e1 with h1 | ⟨h1, h1'⟩
    · rcases new i2 y2 _ e2 with h2 | ⟨h2, h2'⟩
      · exact j.pq i1 i2 y1 y2 a' b' h1 h2
      · exact absurd (h2' ▸ mem i1 y1 _ h1) (g2 a' b' h2'.symm)
    · rcases new i2 y2 _ e2 with h2 | ⟨h2, h2'⟩
      · exact absurd (h1' ▸ mem i2 y2 _ h2) (g2 a' b' h1'.symm)
      · rw [h1, h2]
theorem asg_c {v : V} {k : Nat} {u : TS} {D : Ends} {σ : St} {H : Hp} (h : u D (σ.set k (some v)) H) : tSeq (tAsg (tC v) (gName k)) u D σ H := h
theorem cut_take (xs : List V) (k : Nat) (h : k ≤ xs.length) : cutV xs none (some (k : Int)) = xs.take k := by
  unfold cutV
  rw [HT.sIx_none, HT.sIx_nat, List.drop_zero, Nat.sub_zero, Nat.min_eq_left h]
theorem cut_mid (xs : List V) (a b : Nat) (h1 : a ≤ b) (h : b ≤ xs.length) : cutV xs (some (a : Int)) (some (b : Int)) = (xs.drop a).take (b - a) := by
  unfold cutV
  rw [HT.sIx_nat, HT.sIx_nat, Nat.min_eq_left h, Nat.min_eq_left (Nat.le_trans h1 h)]
theorem strs_has {H : Hp} : ∀ ts : List Str, HasL H (ts.map V.str) (ts.map Dat.str)
  | [] => HasL.nil
  | t :: ts => HasL.cons (by unfold Has; rfl) (strs_has ts)
theorem has_kind {H : Hp} {x : V} {y : Str} {s : Shp} (h : Has H x (kindD (y, s))) : ∃ a v, x = .ref a ∧ H a = some (.tup [.str y, v]) ∧ Has H v s.dat := by
  unfold kindD Has at h
  obtain ⟨a, xs, rfl, ha, hl⟩ := h
  match xs, hl with
  | [u, v], hl =>
    unfold HasL at hl
    obtain ⟨h1, h2⟩ := hl
    unfold HasL at h2
    unfold Has at h1
    subst h1
    exact ⟨a, v, rfl, ha, h2.1⟩
  | [], hl => unfold HasL at hl; exact hl.elim
  | [x], hl => unfold HasL at hl; obtain ⟨_, h2⟩ := hl; unfold HasL at h2; exact h2.elim
  | _ :: _ :: _ :: _, hl => unfold HasL at hl; obtain ⟨_, h2⟩ := hl; unfold HasL at h2; obtain ⟨_, h3⟩ := h2; unfold HasL at h3; exact h3.elim
theorem seq_named {t u : TS} {D : Ends} {σ : St} {H : Hp} (Cond : St → Hp → Prop) (key : ∀ s1 H1, Cond s1 H1 → u D s1 H1) (main : ∀ N : St → Hp → Prop, (∀ s1 H1, Cond s1 H1 → N s1 H1) → t { D with nx := N } σ H) : tSeq t u D σ H := main _ key
theorem KJ.sameB {H : Hp} {p nm tg cn dp kl : Addr} {top : Nat} {ys tgs : List Str} {i : Nat} {kc kd : List (Key × V)} {ks : List (Str × Shp)} {c d : Str → Nat} {xs : List V} {H1 H2 : Hp} (j : KJ H p nm tg cn dp kl top ys tgs i kc kd ks c d xs H1) (a : KA H p nm tg cn dp kl)
    (b : SameB p H1 H2) (s : Strm H2 p) : KJ H p nm tg cn dp kl top ys tgs i kc kd ks c d xs H2 :=
  ⟨j.sb.trans b, s, b _ _ a.nmp j.nms, b _ _ a.tgp j.tgS, b _ _ a.cnp j.cns, b _ _ a.dpp j.dps, b _ _ a.klp j.kls, j.lc, j.ld, j.vc, j.vd, j.nk, j.kk, hasL_tk (b.tk j.st) _ (kinds_sts ks) j.hs, j.tq, j.pq⟩
end L2
namespace K4
open PySem L2
theorem scKinds : FnScope ["stream", "most", "top", "names", "tags", "counts", "depths", "kinds", "k", "shape"] ["stream", "most", "top"] (defScope sKinds) := ⟨rfl, rfl, rfl, by decide +kernel, rfl, by decide +kernel, by decide +kernel⟩
theorem nd_kind : List.Nodup [("kind" : Str)] := by decide +kernel
section
variable {P : Program} {w : World} {K : PySem.W.Frag} {mg : Str → Option Value} {base : Heap} {f gt gs gw gp : Addr} {fd td sd wdd pd : FuncData}
def spKinds : Sp := fun vs H Q _ => ∃ (p : Addr) (most top : Nat), vs = [.ref p, .int most, .int top] ∧ Strm H p ∧ 0 < most ∧ most ≤ 6 ∧ top ≤ 1000 ∧
  ∀ (r kl cn : Addr) (ks : List (Str × Shp)) (c d : Str → Nat) (xs : List V) (H' : Hp), SameB p H H' → Strm H' p → H r = none → r ≠ p → H' r = some (.tup [.ref kl, .ref cn]) → H kl = none → kl ≠ p → H' kl = some (.lst xs) → HasL H' xs (ks.map kindD) →
    KK top c d ks → (ks.map (·.1)).Nodup → 0 < ks.length → ks.length ≤ 6 → KG ks → Q (.ref r) H'
theorem ok_kinds {n : Nat} (B : Blt mg) (F : Fun K "_law_kinds" "_law_kinds" sKinds f fd)
    (GT : FnOk P w K mg base CX0 n gt td ["stream", "many"] spTake) (bT : Binds K td ["stream", "many"] []) (kT : PySem.W.keepIn K (.ref gt) = true) (mT : mg "_law_take" = some (.ref gt))
    (GS : FnOk P w K mg base CX0 n gs sd ["stream", "many"] spSmall) (bS : Binds K sd ["stream", "many"] []) (kS : PySem.W.keepIn K (.ref gs) = true) (mS : mg "_law_small" = some (.ref gs))
    (GW : FnOk P w K mg base CX0 n gw wdd ["stream", "many", "letters", "ways"] spWords) (bW : Binds K wdd ["stream", "many", "letters", "ways"] []) (kW : PySem.W.keepIn K (.ref gw) = true) (mW : mg "_law_words" = some (.ref gw))
    (GP : FnOk P w K mg base CX0 n gp pd ["stream", "names", "counts", "depths", "taken", "top"] (spPair K)) (bP : Binds K pd ["stream", "names", "counts", "depths", "taken", "top"] []) (kP : PySem.W.keepIn K (.ref gp) = true) (mP : mg "_law_pair" = some (.ref gp)) :
    FnOk P w K mg base CX0 (n + 1) f fd ["stream", "most", "top"] spKinds := by
  refine F.ok scKinds (fun vs H Q E h => ?_) (fun cdv A outer s H vs Q E hr h => ?_)
  · obtain ⟨p, most, top, rfl, _⟩ := h
    rfl
  obtain ⟨p, most, top, rfl, hs, m0, m6, t3, q⟩ := h
  have hu := hu_of hr
  refine ⟨_, pss_cons (ps_set (i := 3) scKinds.nd rfl (Or.inl rfl) (pe_call GS hr rfl mS kS bS .nil pass0 (pa_cons (pv 0) (pa_cons (pe_op op_add pe_int (pe_call GT hr rfl mT kT bT .nil pass0 (pa_cons (pv 0) (pa_cons (pv 1) pa_nil)))) pa_nil))))
    (pss_cons (ps_set (i := 4) scKinds.nd rfl (Or.inl rfl) (pe_call GW hr rfl mW kW bW .nil pass0 (pa_cons (pv 0) (pa_cons (pe_op op_mul pe_int (pe_callB call_len_seq rfl B.len PySem.boot_len (pa_cons (pv 3) pa_nil))) (pa_cons pe_str (pa_cons pe_int pa_nil))))))
    (pss_cons (ps_set (i := 5) scKinds.nd rfl (Or.inl rfl) pe_dnewK)
    (pss_cons (ps_set (i := 6) scKinds.nd rfl (Or.inl rfl) pe_dnewK)
    (pss_cons (ps_set (i := 7) scKinds.nd rfl (Or.inl rfl) (pe_lst pa_nil))
    (pss_cons (ps_for PassesOwn.never rfl (pi_range1 rfl B.range (pa_cons (pe_callB call_len_seq rfl B.len PySem.boot_len (pa_cons (pv 3) pa_nil)) pa_nil)) (pg_name (i := 8) scKinds.nd rfl (Or.inl rfl))
      (pss_cons (ps_set (i := 9) scKinds.nd rfl (Or.inl rfl) pe_non)
      (pss_cons (ps_if (PW.pt (pw_and (pt_cmpR op_gt (pv 8) pe_int (nomark _)) (pw_and1 (pt_cmpR op_eq (pe_call GT hr rfl mT kT bT .nil pass0 (pa_cons (pv 0) (pa_cons pe_int pa_nil))) pe_int (nomark _)))))
        (pss_one (ps_set (i := 9) scKinds.nd rfl (Or.inl rfl) (pe_call GP hr rfl mP kP bP .nil pass0 (pa_cons (pv 0) (pa_cons (pe_slice sl_list (pv 3) po_none (po_some (pv 8))) (pa_cons (pv 5) (pa_cons (pv 6) (pa_cons
          (pe_cmpr ["kind"] [] (pi_list (pv 7)) (gk_name (i := 0) (by decide)) (fun cl C fp s H => pg_name (i := 0) nd_kind rfl (Or.inl rfl) (Or.inr rfl)) (fun cl C fp s H => pe_ix (r := rIxT K) ix_tup (pv 0) pe_int (fun _ _ => rfl))) (pa_cons (pv 2) pa_nil))))))))) pss_nil)
      (pss_cons (ps_if (pt_cmpR op_isN (pv 9) pe_non (nomark _))
        (pss_cons (ps_set (i := 9) scKinds.nd rfl (Or.inl rfl) (pe_tup (pa_cons pe_str (pa_cons (pe_callTy call_tuple_of rfl B.tuple boot_tuple' (pa_cons (pe_slice sl_list (pv 4) (po_some (pe_op op_mul pe_int (pv 8)))
            (po_some (pe_op op_add (pe_op op_add (pe_op op_mul pe_int (pv 8)) pe_int) (pe_call GT hr rfl mT kT bT .nil pass0 (pa_cons (pv 0) (pa_cons pe_int pa_nil)))))) pa_nil)) pa_nil))))
          (pss_cons (ps_dput hu (pv 5) (pe_ix ix_list (pv 3) (pv 8) (fun _ _ => rfl)) (pe_op op_add pe_int (pe_callB call_len_seq rfl B.len PySem.boot_len (pa_cons (pe_ix ix_tup (pv 9) pe_int (fun _ _ => rfl)) pa_nil))) rfl)
          (pss_one (ps_dput hu (pv 6) (pe_ix ix_list (pv 3) (pv 8) (fun _ _ => rfl)) pe_int rfl))))
        (pss_cons (ps_dput hu (pv 5) (pe_ix ix_list (pv 3) (pv 8) (fun _ _ => rfl)) (pe_op op_add pe_int (pe_op op_mul (pe_dget hu (pv 5) (pe_ix ix_tup (pv 9) pe_int (fun _ _ => rfl)) (fun _ _ => rfl)) (pe_dget hu (pv 5) (pe_ix ix_tup (pv 9) pe_int (fun _ _ => rfl)) (fun _ _ => rfl)))) rfl)
          (pss_one (ps_dput hu (pv 6) (pe_ix ix_list (pv 3) (pv 8) (fun _ _ => rfl)) (pe_op op_add pe_int (pe_callB (call_max2 rfl) rfl B.max boot_max' (pa_cons (pe_dget hu (pv 6) (pe_ix ix_tup (pv 9) pe_int (fun _ _ => rfl)) (fun _ _ => rfl)) (pa_cons (pe_dget hu (pv 6) (pe_ix ix_tup (pv 9) pe_int (fun _ _ => rfl)) (fun _ _ => rfl)) pa_nil)))) rfl))))
      (pss_one (ps_expr (pe_bm PySem.F.plainAttrs_list PySem.F.slot_list_append PySem.F.type_list_append mt_append (pv 7) (pa_cons (pe_tup (pa_cons (pe_ix ix_list (pv 3) (pv 8) (fun _ _ => rfl)) (pa_cons (pv 9) pa_nil))) pa_nil)))))))
    ) (pss_one (ps_ret (pe_tup (pa_cons (pv 7) (pa_cons (pv 5) pa_nil)))))))))), ?_⟩
  refine ⟨_, rfl, _, rfl, _, rfl, p, most, rfl, hs, by omega, by omega, fun r H1 r0 r1 b1 s1 => ?_⟩
  obtain ⟨rn, rfl⟩ : ∃ m : Nat, r = m := ⟨r.toNat, by omega⟩
  refine ⟨_, _, rfl, rfl, p, 1 + rn, (by show [V.ref p, V.int (1 + (rn : Int))] = [V.ref p, V.int ((1 + rn : Nat) : Int)]; push_cast; rfl), s1, by omega, fun nm ys H2 b2 s2 f2 np2 hnm hly wds => ?_⟩
  have lm : (ys.map V.str).length = ys.length := List.length_map _
  refine ⟨_, rfl, _, rfl, nm, _, rfl, .inl (SqL.of hnm), _, _, rfl, rfl, .inl ⟨by decide, by decide⟩, p, 4 * ys.length, 65, 2,
    (by rw [← great_abc, lm]; show [V.ref p, V.int (4 * (ys.length : Int)), _, V.int 2] = [V.ref p, V.int ((4 * ys.length : Nat) : Int), _, V.int 2]; push_cast; rfl), s2, .inr rfl, by decide, .inl ⟨by decide, by omega⟩, fun tg tgs H3 b3 s3 f3 np3 htg hlt wdt => ?_⟩
  intro cn hcn dp hdp
  refine ⟨by show 0 ≤ sizeLine; decide, fun kl hkl => ?_⟩
  have bH : SameB p H H3 := (b1.sb.trans b2).trans b3
  have hnm3 := b3 _ _ np2 hnm
  have cd : cn ≠ dp := fun e => by rw [← e, upd_same] at hdp; cases hdp
  have hdp3 : H3 dp = none := by rw [upd_ne (Ne.symm cd)] at hdp; exact hdp
  have kcn : kl ≠ cn := fun e => by rw [e, upd_ne cd, upd_same] at hkl; cases hkl
  have kdp : kl ≠ dp := fun e => by rw [e, upd_same] at hkl; cases hkl
  have hkl3 : H3 kl = none := by rw [upd_ne kdp, upd_ne kcn] at hkl; exact hkl
  have a : KA H p nm tg cn dp kl := ⟨b1.sb.free np2 f2, (b1.sb.trans b2).free np3 f3, bH.free (s3.ne hcn) hcn, bH.free (s3.ne hdp3) hdp3, bH.free (s3.ne hkl3) hkl3, np2, np3, s3.ne hcn, s3.ne hdp3, s3.ne hkl3, cd, ne_of_none hnm3 hkl3, ne_of_none htg hkl3⟩
  have nmc : nm ≠ cn := ne_of_none hnm3 hcn
  have nmd : nm ≠ dp := ne_of_none hnm3 hdp3
  have tgc : tg ≠ cn := ne_of_none htg hcn
  have tgd : tg ≠ dp := ne_of_none htg hdp3
  have hnm6 : upd (upd (upd H3 cn (.dK [])) dp (.dK [])) kl (.lst []) nm = some (.lst (ys.map V.str)) := by rw [upd_ne a.nkl, upd_ne nmd, upd_ne nmc]; exact hnm3
  refine ⟨_, rfl, nm, _, rfl, .inl (SqL.of hnm6), _, rfl, by omega, by omega, ?_⟩
  refine fl_range (n := (((ys.map V.str).length : Nat) : Int).toNat) (fun i σ H' => ∃ kc kd ks c d xs, KJ H p nm tg cn dp kl top ys tgs i kc kd ks c d xs H' ∧
    ∃ z1 z2, σ = [some (.ref p), some (.int most), some (.int top), some (.ref nm), some (.ref tg), some (.ref cn), some (.ref dp), some (.ref kl), z1, z2]) ?_ ?_ ?_
  · refine ⟨[], [], [], fun _ => 0, fun _ => 0, [], ⟨?_, ?_, hnm6, ?_, ?_, ?_, upd_same, Nat.le_refl _, Nat.le_refl _, fun y hy => by simp at hy, fun y hy => by simp at hy, rfl, fun i y s e => by simp at e, HasL.nil, fun i y s e => by simp at e, fun i j y z a b e => by simp at e⟩, _, _, rfl⟩
    · exact (((bH.put a.fc)).put a.fd).put a.fk
    · exact s3.keep (by rw [upd_ne (Ne.symm a.klp), upd_ne (Ne.symm a.dpp), upd_ne (Ne.symm a.cnp)])
    · rw [upd_ne a.tkl, upd_ne tgd, upd_ne tgc]; exact htg
    · rw [upd_ne (Ne.symm kcn), upd_ne cd, upd_same]
    · rw [upd_ne (Ne.symm kdp), upd_same]
  · rintro BB RR i σ H' hi ⟨kc, kd, ks, c, d, xs, j, z1, z2, rfl⟩
    have hi' : i < ys.length := by omega
    obtain ⟨y, hy⟩ : ∃ y, ys[i]? = some y := ⟨ys[i], List.getElem?_eq_getElem hi'⟩
    have i0 : (0 + (i : Int)) = (i : Int) := by omega
    have aty : atI (ys.map V.str) (0 + (i : Int)) = some (.str y) := by rw [i0]; exact atI_nat (by rw [List.getElem?_map, hy]; rfl)
    have ltop : i ≤ ys.length := Nat.le_of_lt hi'
    have ly8 : ys.length ≤ 6 := by omega
    refine asg_c ?_
    refine seq_named (fun s1 H1 => ∃ v, KJ H p nm tg cn dp kl top ys tgs i kc kd ks c d xs H1 ∧ s1 = [some (.ref p), some (.int most), some (.int top), some (.ref nm), some (.ref tg), some (.ref cn), some (.ref dp), some (.ref kl), some (.int (0 + (i : Int))), some v] ∧
      (v = .non ∨ ∃ (e g : Str) (r : Addr), v = .ref r ∧ H1 r = some (.tup [.str "pair", .str e, .str g]) ∧ e ∈ ys.take i ∧ g ∈ ys.take i ∧ 1 + max (d e) (d g) ≤ 2 ∧ 1 + c e * c g ≤ top ∧ Shp.pair e g ∉ ks.map (·.2))) ?_ ?_
    · rintro s1 H1 ⟨v, j1, rfl, hv⟩
      refine seq_named (fun s2 H2 => ∃ (H1 : Hp) (s : Shp) (v : V) (n m : Nat), KJ H p nm tg cn dp kl top ys tgs i kc kd ks c d xs H1 ∧ Has H1 v s.dat ∧ n ≤ 1000 ∧ m ≤ 1000 ∧
        KK1 top (fun z => if z = y then n else c z) (fun z => if z = y then m else d z) (ks.map (·.1)) y s ∧ (∀ ts, s = .tags ts → ∃ r, r < 4 ∧ ts = (tgs.drop (4 * i)).take (1 + r)) ∧ (∀ a b, s = .pair a b → s ∉ ks.map (·.2)) ∧ H2 = upd (upd H1 cn (.dK (putK kc (Sum.inr y) (.int n)))) dp (.dK (putK kd (Sum.inr y) (.int m))) ∧
        s2 = [some (.ref p), some (.int most), some (.int top), some (.ref nm), some (.ref tg), some (.ref cn), some (.ref dp), some (.ref kl), some (.int (0 + (i : Int))), some v]) ?_ ?_
      · rintro s2 H2 ⟨H1, s, v, n', m', j1, hv, hn', hm', k1, g1, g2, rfl, rfl⟩
        have kc1 : kl ≠ cn := kcn
        have nm1 : nm ≠ cn := nmc
        have hk2 : upd (upd H1 cn (.dK (putK kc (Sum.inr y) (.int n')))) dp (.dK (putK kd (Sum.inr y) (.int m'))) kl = some (.lst xs) := by rw [upd_ne kdp, upd_ne kcn]; exact j1.kls
        have hn2 : upd (upd H1 cn (.dK (putK kc (Sum.inr y) (.int n')))) dp (.dK (putK kd (Sum.inr y) (.int m'))) nm = some (.lst (ys.map V.str)) := by rw [upd_ne nmd, upd_ne nmc]; exact j1.nms
        refine ⟨_, rfl, .inl ⟨rfl, _, SqL.of hk2⟩, _, rfl, _, rfl, nm, _, _, _, rfl, rfl, SqL.of hn2, aty, _, rfl, by show 2 ≤ sizeLine; decide, fun t ht => ?_⟩
        have ktt : kl ≠ t := ne_of_none hk2 ht
        refine ⟨kl, xs, _, rfl, rfl, (upd_ne ktt).trans hk2, ?_, _, _, _, _, _, _, j1.step a wds.nd hy hv hn' hm' k1 g1 g2 ht, _, _, rfl⟩
        have lx := j1.hs.length
        rw [List.length_map] at lx
        have lk : ks.length = i := by
          have := congrArg List.length j1.nk
          rw [List.length_map, List.length_take] at this
          omega
        exact small1000 (by omega)
      · intro NX K2
        have ny : y ∉ ys.take i := fun hm => by
          have q' : (ys.take i ++ [y]).Nodup := by rw [← take_snoc hy]; exact wds.nd.sublist (List.take_sublist _ _)
          exact (List.nodup_append.mp q').2.2 y hm y (by simp) rfl
        refine ⟨_, rfl, rfl, _, rfl, ?_⟩
        rcases hv with rfl | ⟨e, g, r, rfl, hr1, he, hg, hdeep, hcnt, hnew⟩
        · refine iteP rfl ?_
          refine ⟨_, rfl, _, rfl, _, _, rfl, rfl, .inl ⟨by decide, by decide⟩, _, rfl, _, rfl, _, _, rfl, rfl, .inl ⟨by decide, by decide⟩, _, _, rfl, rfl, _, rfl, p, 4, rfl, j1.st, by decide, by decide, fun r H2 r0 r1 b2 s2 => ?_⟩
          obtain ⟨rn, rfl⟩ : ∃ m : Nat, r = m := ⟨r.toNat, by omega⟩
          have j2 := j1.sameB a b2.sb s2
          refine ⟨_, _, rfl, rfl, _, rfl, tg, _, rfl, SqL.of j2.tgS, fun q1 hq1 => ⟨q1, _, rfl, .inl ⟨SqL.of upd_same, fun l hl => ⟨by show 2 ≤ sizeLine; decide, fun t ht => ?_⟩⟩⟩⟩
          have e1 : (4 * (0 + (i : Int))) = ((4 * i : Nat) : Int) := by omega
          have e2 : (4 * (0 + (i : Int)) + 1 + (rn : Int)) = ((4 * i + 1 + rn : Nat) : Int) := by omega
          have lt : (tgs.map V.str).length = tgs.length := List.length_map _
          have ec : cutV (tgs.map V.str) (some (4 * (0 + (i : Int)))) (some (4 * (0 + (i : Int)) + 1 + (rn : Int))) = (((tgs.drop (4 * i)).take (1 + rn)).map V.str) := by
            rw [e2, e1, cut_mid _ _ _ (by omega) (by omega), List.map_take, List.map_drop]
            congr 1
            omega
          rw [ec] at hl ht ⊢
          generalize hts : (tgs.drop (4 * i)).take (1 + rn) = ts at hl ht ⊢
          have tnd : ts.Nodup := by rw [← hts]; exact List.Pairwise.sublist ((List.take_sublist _ _).trans (List.drop_sublist _ _)) wdt.nd
          have lts : ts.length = 1 + rn := by rw [← hts, List.length_take, List.length_drop]; omega
          have st1 := same_upd hq1 (.lst (ts.map V.str))
          have st2 := same_upd hl (.tup (ts.map V.str))
          have st3 := same_upd ht (.tup [.str "tags", .ref l])
          have st := (st1.trans st2).trans st3
          have s5 : Strm (upd (upd (upd H2 q1 (.lst (ts.map V.str))) l (.tup (ts.map V.str))) t (.tup [.str "tags", .ref l])) p := by
            obtain ⟨a1, a2, a3, a4, a5⟩ := j2.st
            exact ⟨a1, a2, a3, a4, st _ _ a5⟩
          have j5 := j2.sameB a st.sb s5
          have hl5 := st3 _ _ (upd_same (H := upd H2 q1 (.lst (ts.map V.str))) (a := l) (o := .tup (ts.map V.str)))
          generalize hH5 : upd (upd (upd H2 q1 (.lst (ts.map V.str))) l (.tup (ts.map V.str))) t (.tup [.str "tags", .ref l]) = H5 at j5 hl5 ⊢
          have ht5 : H5 t = some (.tup [.str "tags", .ref l]) := by rw [← hH5, upd_same]
          have en : (1 : Int) + (((ts.map V.str).length : Nat) : Int) = ((1 + ts.length : Nat) : Int) := by rw [List.length_map]; push_cast; rfl
          refine ⟨_, rfl, t, _, 1, _, rfl, rfl, SqT.of ht5, rfl, l, _, rfl, .inr (SqT.of hl5), _, _, rfl, rfl, ?_⟩
          dsimp only
          rw [en]
          have lc := j5.lc
          have ld := j5.ld
          refine ⟨_, rfl, _, rfl, _, rfl, nm, _, _, _, rfl, rfl, SqL.of j5.nms, aty, cn, _, rfl, DPut.k (k := Sum.inr y) j5.cns (small1000 (by omega)), ?_⟩
          refine ⟨_, rfl, _, rfl, _, rfl, nm, _, _, _, rfl, rfl, SqL.of ((upd_ne nmc).trans j5.nms), aty, dp, _, rfl, DPut.k (k := Sum.inr y) ((upd_ne (Ne.symm cd)).trans j5.dps) (small1000 (by omega)), ?_⟩
          refine K2 _ _ ⟨H5, .tags ts, .ref t, 1 + ts.length, 0, j5, ?_, by omega, by decide, ⟨by omega, by omega, if_pos rfl, if_pos rfl, tnd⟩, fun ts' e => ⟨rn, by omega, by cases e; exact hts.symm⟩, (fun _ _ e => nomatch e), rfl, rfl⟩
          unfold Shp.dat Has
          refine ⟨t, _, rfl, ht5, HasL.cons (by unfold Has; rfl) (HasL.cons ?_ HasL.nil)⟩
          unfold Has
          exact ⟨l, _, rfl, hl5, strs_has ts⟩
        · refine iteM (by simp) ?_
          have lc := j1.lc
          have ld := j1.ld
          obtain ⟨vce, ce1⟩ := j1.vc e he
          obtain ⟨vcg, cg1⟩ := j1.vc g hg
          obtain ⟨vde, de1⟩ := j1.vd e he
          obtain ⟨vdg, dg1⟩ := j1.vd g hg
          have gce : DGet H1 cn (.str e) (some (.int (c e))) := by rw [← vce]; exact DGet.k (k := Sum.inr e) j1.cns
          have gcg : DGet H1 cn (.str g) (some (.int (c g))) := by rw [← vcg]; exact DGet.k (k := Sum.inr g) j1.cns
          have en : (1 : Int) + (c e : Int) * (c g : Int) = ((1 + c e * c g : Nat) : Int) := by push_cast; rfl
          refine ⟨_, rfl, _, rfl, r, _, 1, _, rfl, rfl, SqT.of hr1, rfl, cn, _, rfl, gce, _, rfl, _, rfl, r, _, 2, _, rfl, rfl, SqT.of hr1, rfl, cn, _, rfl, gcg, _, _, rfl, rfl, .inl ⟨by omega, by omega⟩, _, _, rfl, rfl, ?_⟩
          dsimp only
          rw [en]
          refine ⟨_, rfl, _, rfl, _, rfl, nm, _, _, _, rfl, rfl, SqL.of j1.nms, aty, cn, _, rfl, DPut.k (k := Sum.inr y) j1.cns (small1000 (by omega)), ?_⟩
          have hr2 : upd H1 cn (.dK (putK kc (Sum.inr y) (.int ((1 + c e * c g : Nat) : Int)))) r = some (.tup [.str "pair", .str e, .str g]) := (upd_ne (ne_of hr1 j1.cns (fun z => nomatch z))).trans hr1
          have hd2 : upd H1 cn (.dK (putK kc (Sum.inr y) (.int ((1 + c e * c g : Nat) : Int)))) dp = some (.dK kd) := (upd_ne (Ne.symm cd)).trans j1.dps
          have gde : DGet (upd H1 cn (.dK (putK kc (Sum.inr y) (.int ((1 + c e * c g : Nat) : Int))))) dp (.str e) (some (.int (d e))) := by rw [← vde]; exact DGet.k (k := Sum.inr e) hd2
          have gdg : DGet (upd H1 cn (.dK (putK kc (Sum.inr y) (.int ((1 + c e * c g : Nat) : Int))))) dp (.str g) (some (.int (d g))) := by rw [← vdg]; exact DGet.k (k := Sum.inr g) hd2
          have em : (1 : Int) + (if (d g : Int) > (d e : Int) then (d g : Int) else (d e : Int)) = ((1 + max (d e) (d g) : Nat) : Int) := by
            split <;> omega
          refine ⟨_, rfl, _, rfl, r, _, 1, _, rfl, rfl, SqT.of hr2, rfl, dp, _, rfl, gde, _, rfl, _, rfl, r, _, 2, _, rfl, rfl, SqT.of hr2, rfl, dp, _, rfl, gdg, _, _, rfl, _, _, rfl, rfl, ?_⟩
          dsimp only
          rw [em]
          refine ⟨_, rfl, _, rfl, _, rfl, nm, _, _, _, rfl, rfl, SqL.of ((upd_ne nmc).trans j1.nms), aty, dp, _, rfl, DPut.k (k := Sum.inr y) hd2 (small1000 (by omega)), ?_⟩
          have ney : e ≠ y := fun z => ny (z ▸ he)
          have ngy : g ≠ y := fun z => ny (z ▸ hg)
          refine K2 _ _ ⟨H1, .pair e g, .ref r, 1 + c e * c g, 1 + max (d e) (d g), j1, ?_, by omega, by omega, ⟨by rw [j1.nk]; exact he, by rw [j1.nk]; exact hg, ?_, ?_, ?_, ?_⟩, (fun _ e => nomatch e), (fun _ _ _ => hnew), rfl, rfl⟩
          · unfold Shp.dat Has
            refine ⟨r, _, rfl, hr1, HasL.cons ?_ (HasL.cons ?_ (HasL.cons ?_ HasL.nil))⟩ <;> (unfold Has; rfl)
          · show (if y = y then _ else _) = 1 + (if e = y then _ else c e) * (if g = y then _ else c g)
            rw [if_pos rfl, if_neg ney, if_neg ngy]
          · show (if y = y then _ else _) ≤ top
            rw [if_pos rfl]; exact hcnt
          · show (if y = y then _ else _) = 1 + max (if e = y then _ else d e) (if g = y then _ else d g)
            rw [if_pos rfl, if_neg ney, if_neg ngy]
          · show (if y = y then _ else _) ≤ 2
            rw [if_pos rfl]; exact hdeep
    · intro NX K1
      refine ⟨_, rfl, _, _, rfl, rfl, _, rfl, ?_⟩
      refine ite2 (fun c0 => ?_) (fun c0 => ?_)
      · refine ⟨_, rfl, p, 2, rfl, j.st, by decide, by decide, fun r H1 r0 r1 b1 s1 => ?_⟩
        have j1 := j.sameB a b1.sb s1
        refine ⟨rfl, _, rfl, ?_⟩
        refine ite2 (fun c1 => ?_) (fun c1 => ?_)
        · have ec : cutV (ys.map V.str) none (some (0 + (i : Int))) = (ys.take i).map V.str := by
            rw [i0, cut_take _ _ (by omega), List.map_take]
          refine ⟨_, rfl, _, rfl, _, rfl, _, rfl, nm, _, rfl, SqL.of j1.nms, fun q1 hq1 => ?_⟩
          rw [ec]
          have sq := same_upd hq1 (.lst ((ys.take i).map V.str))
          have q1p : q1 ≠ p := s1.ne hq1
          have jq := j1.sameB a sq.sb (s1.keep (upd_ne (Ne.symm q1p)))
          have hq2 : upd H1 q1 (.lst ((ys.take i).map V.str)) q1 = some (.lst ((ys.take i).map V.str)) := upd_same
          generalize upd H1 q1 (.lst ((ys.take i).map V.str)) = Hq at jq hq2
          have lx := jq.hs.length
          rw [List.length_map] at lx
          have lk : ks.length = i := by
            have := congrArg List.length jq.nk
            rw [List.length_map, List.length_take] at this
            omega
          refine ⟨_, rfl, _, rfl, _, rfl, kl, rfl, ⟨_, SqL.of jq.kls⟩, ?_⟩
          refine comp_form xs.length (small1000 (by omega)) (fun m vs H' => H' = Hq ∧ vs.length = m ∧ HasL Hq vs (((ks.map (·.2)).map Shp.dat).take m)) ⟨rfl, rfl, by rw [List.take_zero]; exact HasL.nil⟩ (fun m vs H' z => z.2.1) ?_ ?_ ?_ ?_
          · rintro m vs H' hm ⟨rfl, _⟩
            exact ⟨xs, xs[m], SqL.of jq.kls, by simp [hm]⟩
          · rintro vs H' ⟨rfl, _⟩
            exact ⟨xs, SqL.of jq.kls, Nat.le_refl _⟩
          · rintro m vs H' x H'' R hm ⟨rfl, z2, z3⟩ yl hR
            obtain ⟨rfl, y'⟩ := yl
            have e1 := y' xs (SqL.of jq.kls)
            obtain ⟨d1, hd1, hx1⟩ := jq.hs.get e1
            rw [List.getElem?_map] at hd1
            cases hk : ks[m]? with
            | none => rw [hk] at hd1; cases hd1
            | some ys1 =>
              rw [hk] at hd1
              obtain ⟨y1, s1'⟩ := ys1
              cases hd1
              obtain ⟨a1, v1, rfl, ha1, hv1⟩ := has_kind hx1
              refine ⟨_, rfl, a1, _, 1, _, rfl, rfl, SqT.of ha1, rfl, hR _ _ ⟨rfl, by rw [List.length_append, z2]; rfl, ?_⟩⟩
              have e2 : ((ks.map (·.2)).map Shp.dat)[m]? = some s1'.dat := by rw [List.getElem?_map, List.getElem?_map, hk]; rfl
              rw [take_snoc e2]
              exact HasL.append z3 (HasL.one hv1)
          · rintro vs H' tk ⟨rfl, z2, z3⟩ htk
            have z4 : HasL H' vs ((ks.map (·.2)).map Shp.dat) := by
              rw [List.take_of_length_le (by rw [List.length_map, List.length_map]; omega)] at z3
              exact z3
            have st' := same_upd htk (.lst vs)
            have tkp : tk ≠ p := jq.st.ne htk
            have sc : Strm (upd H' tk (.lst vs)) p := jq.st.keep (upd_ne (Ne.symm tkp))
            have jc := jq.sameB a st'.sb sc
            have hi0 : 0 < i := by
              have z : (0 : Int) < 0 + (i : Int) := of_decide_eq_true c0
              omega
            have lti : (ys.take i).length = i := by rw [List.length_take]; omega
            refine ⟨_, rfl, p, q1, cn, dp, tk, top, ys.take i, ks.map (·.2), rfl, sc, st' _ _ hq2, by omega, by omega, ⟨kc, jc.cns, by rw [lti]; exact jc.lc, fun z hz => ⟨c z, (jc.vc z hz).1, Nat.zero_le _, (jc.vc z hz).2⟩⟩,
              ⟨kd, jc.dps, by rw [lti]; exact jc.ld, fun z hz => ⟨d z, (jc.vd z hz).1, Nat.zero_le _, (jc.vd z hz).2⟩⟩, lst_has upd_same (z4.mono st'), q1p, a.cnp, a.dpp, tkp, fun v H2 b2 s2 hv => ?_⟩
            refine K1 _ _ ⟨v, jc.sameB a b2 s2, rfl, ?_⟩
            rcases hv with hv | ⟨e, g, r', ca, cb, da, db, he, hg, rfl, _, hr2, hcc, hdd, h1, h2, h3⟩
            · exact .inl hv
            · refine .inr ⟨e, g, r', rfl, hr2, he, hg, ?_, ?_, h3⟩
              · obtain ⟨d1, d2⟩ := hdd kd jc.dps
                rw [(jc.vd e he).1] at d1
                rw [(jc.vd g hg).1] at d2
                injection d1 with d1
                injection d1 with d1
                injection d2 with d2
                injection d2 with d2
                have x1 : d e = da := by omega
                have x2 : d g = db := by omega
                rw [x1, x2]; exact h1
              · obtain ⟨d1, d2⟩ := hcc kc jc.cns
                rw [(jc.vc e he).1] at d1
                rw [(jc.vc g hg).1] at d2
                injection d1 with d1
                injection d1 with d1
                injection d2 with d2
                injection d2 with d2
                have x1 : c e = ca := by omega
                have x2 : c g = cb := by omega
                rw [x1, x2]; exact h2
        · exact K1 _ _ ⟨.non, j1, rfl, .inl rfl⟩
      · exact iteM (by simp) (K1 _ _ ⟨.non, j, rfl, .inl rfl⟩)
  · rintro σ H' ⟨kc, kd, ks, c, d, xs, j, z1, z2, rfl⟩
    have en : ((((ys.map V.str).length : Nat) : Int).toNat) = ys.length := by omega
    rw [en] at j
    refine ⟨_, rfl, _, rfl, by show 2 ≤ sizeLine; decide, fun t ht => ?_⟩
    have st := same_upd ht (.tup [.ref kl, .ref cn])
    have tp := j.st.ne ht
    have nk := j.nk
    rw [List.take_length] at nk
    have lk : ks.length = ys.length := by rw [← nk, List.length_map]
    exact q t kl cn ks c d xs _ (j.sb.trans st.sb) (j.st.keep (upd_ne (Ne.symm tp))) (j.sb.free tp ht) tp upd_same a.fk a.klp (st _ _ j.kls) (j.hs.mono st) j.kk (by rw [nk]; exact wds.nd) (by omega) (by omega) ⟨by rw [nk]; exact wds, ⟨tgs, wdt, j.tq⟩, j.pq⟩
end
end K4
namespace L2
open PySem
def shOf (ks : List (Str × Shp)) (y : Str) : Option Shp := (ks.find? fun k => decide (k.1 = y)).map (·.2)
def worths (ks : List (Str × Shp)) : Nat → Str → List W
  | 0, _ => []
  | n + 1, y => match shOf ks y with
    | none => []
    | some (.tags ts) => .non :: ts.map W.tag
    | some (.pair a b) => .non :: (worths ks n a).flatMap fun u => (worths ks n b).map fun v => .pair u v
theorem shOf_mem {ks : List (Str × Shp)} {y : Str} {s : Shp} (h : shOf ks y = some s) : (y, s) ∈ ks := by
  unfold shOf at h
  cases e : ks.find? fun k => decide (k.1 = y) with
  | none => rw [e] at h; cases h
  | some k =>
    rw [e] at h
    have h' : k.2 = s := Option.some.inj h
    have q := List.find?_some e
    have m := List.mem_of_find?_eq_some e
    have z : k.1 = y := of_decide_eq_true q
    rw [← h', ← z]; exact m
theorem shOf_of {ks : List (Str × Shp)} {y : Str} (h : y ∈ ks.map (·.1)) : ∃ s, shOf ks y = some s := by
  obtain ⟨k, hk, rfl⟩ := List.mem_map.mp h
  unfold shOf
  cases e : ks.find? fun z => decide (z.1 = k.1) with
  | none =>
    have q := List.find?_eq_none.mp e k hk
    simp at q
  | some z => exact ⟨z.2, rfl⟩
theorem KK.at {top : Nat} {c d : Str → Nat} {ks : List (Str × Shp)} (h : KK top c d ks) {y : Str} {s : Shp} (e : shOf ks y = some s) : KK1 top c d (ks.map (·.1)) y s := by
  obtain ⟨i, hi, ei⟩ := List.mem_iff_getElem.mp (shOf_mem e)
  have q := h i y s (by rw [List.getElem?_eq_getElem hi, ei])
  have sub : ∀ z, z ∈ (ks.take i).map (·.1) → z ∈ ks.map (·.1) := fun z hz => by
    obtain ⟨k, hk, rfl⟩ := List.mem_map.mp hz
    exact List.mem_map.mpr ⟨k, List.mem_of_mem_take hk, rfl⟩
  cases s with
  | tags ts => exact q
  | pair a b => exact ⟨sub a q.1, sub b q.2.1, q.2.2⟩
theorem flat_len {α : Type} (f : α → List W) (k : Nat) : ∀ (l : List α), (∀ a ∈ l, (f a).length = k) → (l.flatMap f).length = l.length * k
  | [], _ => by simp
  | a :: l, h => by
    rw [List.flatMap_cons, List.length_append, h a (by simp), flat_len f k l fun b hb => h b (by simp [hb]), List.length_cons, Nat.succ_mul, Nat.add_comm]
theorem worths_ok {top : Nat} {c d : Str → Nat} {ks : List (Str × Shp)} (h : KK top c d ks) : ∀ (n : Nat) (y : Str), y ∈ ks.map (·.1) → d y < n → (worths ks n y).length = c y ∧ 0 < c y ∧ ∀ u ∈ worths ks n y, u.dep ≤ d y
  | 0, y, _, hd => absurd hd (Nat.not_lt_zero _)
  | n + 1, y, hy, hd => by
    obtain ⟨s, hs⟩ := shOf_of hy
    have k1 := h.at hs
    unfold worths
    rw [hs]
    cases s with
    | tags ts =>
      obtain ⟨h1, h2, h3, h4, _⟩ := k1
      refine ⟨?_, by omega, fun u hu => ?_⟩
      · show (W.non :: ts.map W.tag).length = c y
        rw [List.length_cons, List.length_map]; omega
      · have hu' : u = .non ∨ u ∈ ts.map W.tag := List.mem_cons.mp hu
        rcases hu' with rfl | hu'
        · exact Nat.zero_le _
        · obtain ⟨x, _, rfl⟩ := List.mem_map.mp hu'
          exact Nat.zero_le _
    | pair a b =>
      obtain ⟨h1, h2, h3, h4, h5, h6⟩ := k1
      have m1 := Nat.le_max_left (d a) (d b)
      have m2 := Nat.le_max_right (d a) (d b)
      obtain ⟨la, pa, da⟩ := worths_ok h n a h1 (by omega)
      obtain ⟨lb, pb, db⟩ := worths_ok h n b h2 (by omega)
      refine ⟨?_, by omega, fun u hu => ?_⟩
      · show (W.non :: (worths ks n a).flatMap fun u => (worths ks n b).map fun v => .pair u v).length = c y
        rw [List.length_cons, flat_len _ (c b) _ (fun a _ => by rw [List.length_map, lb]), la]; omega
      · have hu' : u = .non ∨ u ∈ (worths ks n a).flatMap fun u => (worths ks n b).map fun v => .pair u v := List.mem_cons.mp hu
        rcases hu' with rfl | hu'
        · exact Nat.zero_le _
        · obtain ⟨x, hx, hu2⟩ := List.mem_flatMap.mp hu'
          obtain ⟨z, hz, rfl⟩ := List.mem_map.mp hu2
          have q1 := da x hx
          have q2 := db z hz
          show 1 + max x.dep z.dep ≤ d y
          have := Nat.max_le.mpr ⟨Nat.le_trans q1 m1, Nat.le_trans q2 m2⟩
          omega
theorem worths_fuel {top : Nat} {c d : Str → Nat} {ks : List (Str × Shp)} (h : KK top c d ks) : ∀ (n m : Nat) (y : Str), y ∈ ks.map (·.1) → d y < n → d y < m → worths ks n y = worths ks m y
  | 0, _, _, _, h1, _ => absurd h1 (Nat.not_lt_zero _)
  | _ + 1, 0, _, _, _, h2 => absurd h2 (Nat.not_lt_zero _)
  | n + 1, m + 1, y, hy, h1, h2 => by
    obtain ⟨s, hs⟩ := shOf_of hy
    have k1 := h.at hs
    unfold worths
    rw [hs]
    cases s with
    | tags ts => rfl
    | pair a b =>
      obtain ⟨q1, q2, q3, q4, q5, q6⟩ := k1
      have m1 := Nat.le_max_left (d a) (d b)
      have m2 := Nat.le_max_right (d a) (d b)
      show (W.non :: _) = (W.non :: _)
      rw [worths_fuel h n m a q1 (by omega) (by omega), worths_fuel h n m b q2 (by omega) (by omega)]
theorem strs_vals {H : Hp} : ∀ {ts : List Str} {zs : List V}, HasL H zs (ts.map Dat.str) → zs = ts.map V.str
  | [], [], _ => rfl
  | [], _ :: _, h => by rw [List.map_nil] at h; unfold HasL at h; exact h.elim
  | _ :: _, [], h => by rw [List.map_cons] at h; unfold HasL at h; exact h.elim
  | t :: ts, z :: zs, h => by
    rw [List.map_cons] at h
    unfold HasL at h
    obtain ⟨g1, g2⟩ := h
    unfold Has at g1
    rw [g1, strs_vals g2]; rfl
def wOf (ks : List (Str × Shp)) (n : Nat) : Shp → List W
  | .tags ts => .non :: ts.map W.tag
  | .pair a b => .non :: (worths ks n a).flatMap fun u => (worths ks n b).map fun v => .pair u v
theorem worths_eq {ks : List (Str × Shp)} {n : Nat} {y : Str} {s : Shp} (h : shOf ks y = some s) : worths ks (n + 1) y = wOf ks n s := by
  conv => lhs; unfold worths
  rw [h]
  cases s <;> rfl
theorem flat_snoc {α : Type} (f : α → List W) {l : List α} {i : Nat} {a : α} (h : l[i]? = some a) : (l.take (i + 1)).flatMap f = (l.take i).flatMap f ++ f a := by
  rw [take_snoc h, List.flatMap_append]; simp
theorem tags_has {H : Hp} : ∀ ts : List Str, HasL H (ts.map V.str) ((ts.map W.tag).map W.dat)
  | [] => HasL.nil
  | t :: ts => HasL.cons (by show Has H (.str t) (W.dat (.tag t)); unfold W.dat Has; rfl) (tags_has ts)
end L2
namespace L2
open PySem PySem.Spec PyProof.Rows
section
variable {X : Cx}
end
end L2
namespace L2
open PySem PySem.Spec PyProof.Rows
section
variable {prog : Program} {w : World} {A : Around} {E : Value → Shared → Prop} {s : Shared}
end
section
variable {prog : Program} {w : World} {A : Around} {P : Nat → Value → Prop} {St : Nat → Heap → Prop} {R : Result → Shared → Prop} {n : Nat} {I : Addr} {fp wr : List Addr}
end
section
variable {X : Cx}
end
end L2
namespace L2
open PySem PySem.Spec PyProof.Rows
section
variable {X : Cx}
theorem ps_comp {elt tg iter : Expr} {scope : Scope} {pos spos py : Pos} {wi : TI} {g : TG} {te : TE} {i0 : Nat} {x0 : Str} (own : List Str) (ix : List Nat) (hc : X.calm = true) (hN : X.N.Nodup) (hi0 : X.N[i0]? = some x0) (hx0 : Loc X.env.scope x0) (hi : PI X tg iter wi)
    (hkind : scope.kind = .function) (hnames : ∀ x ∈ scope.names, x.2 = .local → scope.names.lookup x.1 = some .local) (hcell : ∀ x ∈ scope.names, x.2 ≠ .cell)
    (hcap : ∀ x ∈ scope.names, x.2 = .free → X.env.scope.names.lookup x.1 = some .cell ∨ X.env.scope.names.lookup x.1 = some .free)
    (hix : ∀ j ∈ ix, ∃ y, X.N[j]? = some y ∧ scope.names.lookup y = some .free) (hgk : GK own.length g)
    (hg : ∀ cl C fp s H, PG (cxComp X (compN X own ix) scope cl C fp s H) tg g) (he : ∀ cl C fp s H, PE (cxComp X (compN X own ix) scope cl C fp s H) elt te)
    (hsw : swapsWith (.ListComp elt [⟨tg, iter, [], 0⟩] scope pos) (some (.Name x0 py)) spos.line X.env = pure true) (hf : X.fn x0 = true ∨ X.env.scope.names.lookup x0 = some .local)
    (hs : ∀ x, foldedSetIterable iter X.env x = pure x := by intro _; rfl) :
    PS X (.Assign [.Name x0 py] (.ListComp elt [⟨tg, iter, [], 0⟩] scope pos) spos) (tAsg (tComp own.length ix wi g te) (gName i0)) := by
  intro pins s σ H D0 I h
  have hcells : ∀ x ∈ scope.names, x.2 = .free → ∃ c, X.env.cells.lookup x.1 = some c := fun x hx hf => I.ok.has x.1 (hcap x hx hf)
  obtain ⟨cl, hcl, hcl1, hcl2⟩ := closure_of hcells
  have used := exec_Assign_Name_used _ _ _ _ hsw
  rw [used]
  refine wpAny_bind (wpAny_standAt (wpAny_bind (?_ : wpAny _ X.A (do let _ ← comprehension (.ListComp elt [⟨tg, iter, [], 0⟩] scope pos) scope X.env _ (newList []) false (eval iter X.env) (some (assign (.Name x0 py) X.env))) _ _ s)))
  refine wpAny_bind (wpAny_mono (wpAny_comprehension_free (use := some (assign (.Name x0 py) X.env)) (Q := fun _ s' => ∃ σ' H', Inv X pins σ' H' s' ∧ D0.nx σ' H') rfl hs hcl hkind hnames ?_) (fun _ s' hq => wpAny_pure (wpAny_pure hq)) fun _ _ e => e)
  refine thn (hi pins s σ H _ I h) fun v s1 h1 => thn h1 fun itv s2 h2 => ?_
  obtain ⟨it, fp, tn, J, H2, e, I2, T, st2, f2, W, ⟨m0, w0⟩, turn⟩ := h2
  subst e
  refine wpAny_newObj_type (wpAny_newFunctionEnv hcell (by intro y hy; simp at hy) (fun h4 hns hsb => ?_) hkind)
  dsimp only at hns hsb ⊢
  -- the list
  generalize hh3 : s2.heap.push { cls := .type "list", dict := none, data := .seq ([] : List Value).toArray } = h3 at hns hsb ⊢
  have sz3 : h3.objs.size = s2.heap.objs.size + 1 := by rw [← hh3, Heap.size_push]
  have k23 : ∀ b u, s2.heap.get? b = some u → h3.get? b = some u := fun b u q => by rw [← hh3]; exact Heap.get?_push_of_some _ q
  have D3 : h3.get? s2.heap.objs.size = some { cls := .type "list", data := .seq #[] } := by rw [← hh3]; exact Heap.get?_push_size _ rfl
  obtain ⟨D, hD⟩ : ∃ D, D = s2.heap.objs.size := ⟨_, rfl⟩
  obtain ⟨C, hC⟩ : ∃ C, C = h3.objs.size := ⟨_, rfl⟩
  rw [← hC] at hns hsb
  rw [← hD] at D3 sz3
  have hCD : C = D + 1 := hC.trans sz3
  let s3 : Shared := { s2 with heap := h3 }
  have I3 : Inv X pins σ H2 s3 := I2.kept (t' := s2.toks) k23
  have lt3 : ∀ b u, h3.get? b = some u → b < C := fun b u q => by rw [hC]; exact Heap.lt_size q
  have k34 : ∀ b u, h3.get? b = some u → h4.get? b = some u := fun b u q => hsb.extBut b u (Nat.ne_of_lt (lt3 b u q)) (Heap.get?_push_of_some _ q)
  have H2D : H2 D = none := I2.hok.fresh (by rw [hD]; exact Nat.le_refl _)
  have H2C : H2 C = none := I2.hok.fresh (by rw [hCD, hD]; exact Nat.le_succ _)
  have fD : FpOk X pins H2 D := I2.fpOk (by rw [hD]; exact Nat.le_refl _) H2D
  have cellsLt : ∀ x c, X.env.cells.lookup x = some c → c < D := fun x c e => by
    obtain ⟨v, z⟩ := I2.cell x c e
    rw [hD]; exact z.lt
  -- the iterator's own objects stand below the list
  have fpLt : ∀ b ∈ fp, b < D := fun b hb => by
    obtain ⟨o, e, _⟩ := T.obj 0 _ st2 b hb
    rw [hD]; exact Heap.lt_size e
  let X' : Cx := cxComp X (compN X own ix) scope cl C (D :: fp) s3 H2
  have stkLt : ∀ b ∈ frs X.stack, b ∉ D :: fp := fun b hb z => by
    rcases List.mem_cons.mp z with z | z
    · have q := I2.stack
      obtain ⟨_, o, e, _⟩ := q.mem hb
      have := Heap.lt_size e
      rw [z, hD] at this
      exact Nat.lt_irrefl _ this
    · rcases List.mem_cons.mp (I2.stkSub b hb) with q | q
      · exact (f2 b z).2.1 q
      · exact (f2 b z).2.2.1 q
  have ok' : X'.Ok := by
    refine ⟨I.ok.mod, hkind, I.ok.glob, I.ok.blt, ?_, fun x y c h1 h2 => I.ok.inj x y c (hcl1 x c h1) (hcl1 y c h2), fun x hx => hcl2 x (relabel_back (scope := scope) hx hcell), (fun x c z => Bool.noConfusion (show false = true from z)), I.ok.hd, I.ok.frames, .inl rfl, fun b hb => ⟨?_, fun x c h1 => ?_⟩, fun b o e => ?_, ?_, fun b o e hb => ?_, fun b hb z => stkLt b z hb, ?_, fun b hb => I2.stkFree b hb⟩
    · show h3.objs.size ≤ C
      rw [hC]; exact Nat.le_refl _
    · show b ≠ C
      rcases List.mem_cons.mp hb with z | z
      · rw [z, hCD]; exact Nat.ne_of_lt (Nat.lt_succ_self _)
      · rw [hCD]; exact Nat.ne_of_lt (Nat.lt_succ_of_lt (fpLt b z))
    · rcases List.mem_cons.mp hb with z | z
      · rw [z]; exact Nat.ne_of_lt (cellsLt x c (hcl1 x c h1))
      · exact (f2 b z).2.2.2.2.1 x c (hcl1 x c h1)
    · exact I3.bs b o e
    · show X.base.objs.size ≤ h3.objs.size
      have := Nat.le_trans I.ok.bsz I2.sz
      rw [← hD] at this
      rw [← hC, hCD]
      exact Nat.le_succ_of_le this
    · rcases List.mem_cons.mp hb with z | z
      · have := Heap.lt_size (I2.bk b o e)
        rw [z, hD] at this
        exact Nat.lt_irrefl _ this
      · rcases (f2 b z).2.2.2.1 with q | q
        · exact I.ok.noex b o e q
        · have := Nat.lt_of_lt_of_le (Heap.lt_size (I.ok.bs b o e).1) q
          exact Nat.lt_irrefl _ this
    · exact I3.stack
  have lenN : (compS own.length ix σ).length = (compN X own ix).length := by simp [compS, compN]
  have I4 : ∀ t, Inv X' [] (compS own.length ix σ) H2 { s2 with heap := h4, toks := t } := fun t => by
    refine ⟨ok', rfl, I2.bare, Un.kept k34, ⟨_, hns, fun i x v e1 e2 e3 => ?_⟩, fun x c e => ?_, H2C, fun x c e => I2.freeC x c (hcl1 x c e), fun p hp => absurd (show p ∈ ([] : List (Addr × Obj)) from hp) (by simp), (I3.hok).kept k34, lenN⟩
    · -- a name of the def that the block reads
      have hi' : own.length ≤ i := by
        apply Nat.le_of_not_lt
        intro hlt
        unfold compS at e2
        rw [List.getElem?_append_left (by simpa using hlt), List.getElem?_replicate, if_pos hlt] at e2
        cases e2
      have e1' : (ix.map fun j => X.N.getD j ("" : Str))[i - own.length]? = some x := by
        have z : (own ++ ix.map fun j => X.N.getD j ("" : Str))[i]? = some x := e1
        rwa [List.getElem?_append_right hi'] at z
      have e2' : (ix.map fun j => σ.getD j none)[i - own.length]? = some (some v) := by
        unfold compS at e2
        rw [List.getElem?_append_right (by simpa using hi')] at e2
        simpa using e2
      rw [List.getElem?_map] at e1' e2'
      cases hj : ix[i - own.length]? with
      | none => rw [hj] at e1'; cases e1'
      | some j =>
        rw [hj] at e1' e2'
        obtain ⟨y, hy, hfree⟩ := hix j (List.mem_of_getElem? hj)
        have ex : x = y := by
          have z : X.N.getD j ("" : Str) = x := Option.some.inj e1'
          rw [← z, List.getD_eq_getElem?_getD, hy]; rfl
        subst ex
        have ev : σ[j]? = some (some v) := by
          have z : σ.getD j none = some v := Option.some.inj e2'
          rw [List.getD_eq_getElem?_getD] at z
          cases q : σ[j]? with
          | none => rw [q] at z; cases z
          | some a => rw [q] at z; exact congrArg some z
        have hxm := PySem.mem_of_lookup hfree
        have hvis := hcap _ hxm rfl
        obtain ⟨m, hn, hl⟩ := I2.loc
        obtain ⟨u, r, lk⟩ := hl j x v hy ev (.inr hvis)
        refine ⟨u, r, .inr ⟨?_, ?_⟩⟩
        · rcases e3 with z | z
          · exact absurd z (relabel_fwd hfree)
          · exact z
        · rcases lk with ⟨k, _⟩ | ⟨_, c, hc1, z⟩
          · rcases hvis with q | q
            · exact absurd (k.symm.trans q) (by simp)
            · exact absurd (k.symm.trans q) (by simp)
          · obtain ⟨c', hc'⟩ := hcl2 x hxm
            have := hcl1 x c' hc'
            rw [hc1] at this
            cases this
            obtain ⟨o, ho, hd⟩ := z
            exact ⟨c, hc', o, k34 _ _ (k23 _ _ ho), hd⟩
    · obtain ⟨v, z⟩ := I3.cell x c (hcl1 x c e)
      obtain ⟨o, ho, hd⟩ := z
      exact ⟨v, o, k34 _ _ ho, hd⟩
  have nfp : ∀ b ∈ fp, b ≠ D := fun b hb => Nat.ne_of_lt (fpLt b hb)
  have fp' : ∀ {H' : Hp} {pl : List (Addr × Obj)}, (∀ p ∈ pl, p.1 = D) → (∀ b ∈ fp, H' b = none) → ∀ b ∈ fp, FpOk X' pl H' b := fun {H' pl} hp hn b hb =>
    ⟨hn b hb, (ok'.exf b (List.mem_cons_of_mem _ hb)).1, ok'.exfs b (List.mem_cons_of_mem _ hb), .inl (List.mem_cons_of_mem _ hb), (ok'.exf b (List.mem_cons_of_mem _ hb)).2, fun p hp' z => nfp b hb (z ▸ hp p (by
      have q : p ∈ ([] : List (Addr × Obj)) ++ pl := hp'
      simpa using q))⟩
  have dX : D ≠ X'.env.locals := (ok'.exf D List.mem_cons_self).1
  have dF : D ∉ X'.fs := ok'.exfs D List.mem_cons_self
  have loop : ∀ t, codeAny (model X.prog X.w) X.A (.compLoop (.ListComp elt [⟨tg, iter, [], 0⟩] scope pos) 0 (.ref it) (.ref D) (compEnvC scope cl C X.env))
      (compPost (model X.prog X.w) X.A X.xe (some (assign (.Name x0 py) X.env)) (fun _ s' => ∃ σ' H', Inv X pins σ' H' s' ∧ D0.nx σ' H') (.ref D) C) { s2 with heap := h4, toks := t } := fun t => by
    have st4 : tn 0 h4 := T.keep 0 _ _ st2 fun b _ o e => k34 _ _ (k23 _ _ e)
    refine compLoop_go (fun n s' => ∃ i ys its H', Inv X' [] (compS own.length ix σ) H' s' ∧ tn i s'.heap ∧ (∀ b ∈ fp, H' b = none) ∧ H' D = none ∧ s'.heap.PlainList D (List.toArray its) ∧ Vals ys its ∧ W i n ys H') ?_ m0
      ⟨0, [], [], H2, I4 t, st4, fun b hb => (f2 b hb).1, H2D, ⟨_, k34 _ _ D3⟩, .nil, w0⟩
    rintro n s5 ⟨i, ys, its, H5, I5, st5, fr5, d5, ⟨nn, l5⟩, v5, w5⟩
    obtain ⟨hz, hcase⟩ := turn i n ys H5 w5
    let oD : Obj := { cls := .type "list", data := .seq its.toArray nn }
    have onlyD : ∀ p ∈ [((D, oD) : Addr × Obj)], p.1 = D := fun p hp => by
      have e : p = (D, oD) := by simpa using hp
      rw [e]
    have I5' : Inv X' [(D, oD)] (compS own.length ix σ) H5 s5 := I5.pins_of fun p hp => by
      have e : p = (D, oD) := by simpa using hp
      subst e
      exact ⟨l5, d5, dX, dF, fun v z => nomatch z⟩
    rcases hcase with ⟨stop, qn⟩ | ⟨go, step⟩
    · refine thn (T.done X' rfl rfl rfl hc i _ s5 _ H5 _ I5' (fp' onlyD fr5) st5 stop) fun r s6 ⟨hr, I6⟩ => ?_
      subst hr
      obtain ⟨m, hn6, _⟩ := id I6.loc
      have I7 : Inv X pins σ H5 s6 := I3.call' (ch := D :: fp) I6.os I6.base I6.hok I6.bare fun b hb => by
        rcases List.mem_cons.mp hb with z | z
        · subst z
          exact ⟨fD.2.2.2.1, fD.2.1, fD.2.2.2.2.1, fD.2.2.2.2.2⟩
        · have f := f2 b z
          exact ⟨f.2.2.2.1, f.2.1, f.2.2.2.2.1, f.2.2.2.2.2⟩
      obtain ⟨gD, nD, _⟩ := I6.pin (D, oD) (by simp)
      have I8 := I7.retrack (o := .lst ys) nD ⟨nD, fD.2⟩ ⟨Nat.le_of_lt hz, its, nn, v5, gD⟩
      have fC : FpOk X pins (upd H5 D (.lst ys)) C := I2.fpOk (by rw [hCD, hD]; exact Nat.le_succ _) (by rw [upd_ne (by rw [hCD]; exact Nat.ne_of_gt (Nat.lt_succ_self _))]; exact I6.free)
      show wpAny _ X.A (assign (.Name x0 py) X.env (.ref D)) _ _ _
      refine wpAny_assign_Name (store_ok2 (v := .ref D) I8 hN hi0 hx0 rfl (fun s7 I9 hs7 => ?_) hf)
      obtain ⟨a, hs7, ha⟩ := hs7
      have hCa : C ≠ a := by
        rcases ha with ha | ha
        · rw [ha]; exact fC.2.1
        · exact fun z => fC.2.2.2.2.1 x0 a ha z.symm
      refine ⟨m, hn6.sameBut hs7 hCa, fun h' hs' => ⟨_, _, I9.turned (it := C) (t' := s7.toks) (fun b o hb e => (hs'.2 b hb).trans e) fC.1 fC.2.1 fC.2.2.2.1 fC.2.2.2.2.1 fC.2.2.2.2.2, qn D nD⟩⟩
    · refine thn (T.item X' rfl rfl rfl hc i _ s5 _ H5 _ I5' (fp' onlyD fr5) st5 go) fun r s6 ⟨u, hr, h6⟩ => ?_
      subst hr
      refine thn h6 fun _ s7 ⟨x, H7, I7, r7, y7, st7, fr7⟩ => ?_
      have I7' := I7.pinned (fp' onlyD fr7) (T.obj _ _ st7)
      refine thn (hg cl C (D :: fp) s3 H2 _ s7 _ H7 x u _ I7' r7 (hgk _ _ _ _ (step x H7 y7))) fun _ s8 ⟨σ8, H8, I8, q8, l8, k8⟩ => ?_
      refine thn (he cl C (D :: fp) s3 H2 _ s8 σ8 H8 _ I8 q8) fun yv s9 ⟨y, H9, I9, r9, m', hm', w9⟩ => ?_
      obtain ⟨gD, nD, _⟩ := I9.pin (D, oD) (by simp)
      have hlen : its.length = ys.length := v5.length.symm
      refine wpAny_list_append_plain (l := D) (items := its.toArray) ⟨nn, gD⟩ (fun h' hl' hs' => ?_) (by rw [List.size_toArray, hlen]; exact Nat.le_of_lt hz)
      have kp : ∀ b o, b ≠ D → s9.heap.get? b = some o → h'.get? b = some o := fun b o hb q => (hs'.2 b hb).trans q
      have I9' : Inv X' (pinsAt fp s7.heap) σ8 H9 s9 := I9.pins_of fun p hp => I9.pin p (by
        refine List.mem_append_right _ (List.mem_append_right _ hp))
      have pinNe : ∀ p ∈ X'.pn ++ pinsAt fp s7.heap, p.1 ≠ D := fun p hp => by
        have q : p ∈ ([] : List (Addr × Obj)) ++ pinsAt fp s7.heap := hp
        exact nfp _ (of_pinsAt (by simpa using q)).1
      have I10 : Inv X' (pinsAt fp s7.heap) σ8 H9 { s9 with heap := h', toks := s9.toks } := I9'.turned (it := D) kp nD dX (.inl List.mem_cons_self) (ok'.exf D List.mem_cons_self).2 pinNe
      refine ⟨m', hm', i + 1, ys ++ [y], its ++ [yv], H9, ?_, ?_, ?_, nD, ?_, v5.append (.cons r9 .nil), w9⟩
      · refine Inv.weak (I10.pins_of (pins' := []) fun p hp => nomatch hp) (by rw [l8]) fun j v hj => ?_
        by_cases hlt : j < own.length
        · unfold compS at hj
          rw [List.getElem?_append_left (by simpa using hlt), List.getElem?_replicate, if_pos hlt] at hj
          cases hj
        · have e : σ8[j]? = (compS own.length ix σ)[j]? := by
            have q := congrArg (fun l : List (Option V) => l[j - own.length]?) k8
            simp only [List.getElem?_drop] at q
            rwa [Nat.add_sub_cancel' (Nat.le_of_not_lt hlt)] at q
          rw [e]; exact hj
      · exact T.keep _ _ _ st7 fun b hb o e => (I10.pin (b, o) (List.mem_append_right _ (mem_pinsAt hb e))).1
      · intro b hb
        obtain ⟨o, e, d⟩ := T.obj _ _ st7 b hb
        exact (I10.pin (b, o) (List.mem_append_right _ (mem_pinsAt hb e))).2.1
      · have e : (its ++ [yv]).toArray = its.toArray.push yv := by simp
        rw [e]; exact hl'
  rw [← hC, ← hD]
  exact codeAny_compStart_list (loop _) (T.self _ 0 _ _ _ (T.keep 0 _ _ st2 fun b _ o e => k34 _ _ (k23 _ _ e)) (loop _))
theorem ps_cmpr {elt tg iter : Expr} {scope : Scope} {pos spos py : Pos} {wi : TI} {g : TG} {te : TE} {i0 : Nat} {x0 : Str} (own : List Str) (ix : List Nat) (hN : X.N.Nodup) (hi0 : X.N[i0]? = some x0) (hx0 : Loc X.env.scope x0) (hi : PI X tg iter wi) (hgk : GK own.length g)
    (hg : ∀ cl C fp s H, PG (cxComp X (compN X own ix) scope cl C fp s H) tg g) (he : ∀ cl C fp s H, PE (cxComp X (compN X own ix) scope cl C fp s H) elt te)
    (hc : X.calm = true := by rfl) (hkind : scope.kind = .function := by rfl) (hok : compOk scope X.env.scope.names X.N ix = true := by rfl)
    (hsw : swapsWith (.ListComp elt [⟨tg, iter, [], 0⟩] scope pos) (some (.Name x0 py)) spos.line X.env = pure true := by rfl) (hf : X.fn x0 = true ∨ X.env.scope.names.lookup x0 = some .local := by first | exact .inl rfl | exact .inr rfl | assumption)
    (hs : ∀ x, foldedSetIterable iter X.env x = pure x := by intro _; rfl) :
    PS X (.Assign [.Name x0 py] (.ListComp elt [⟨tg, iter, [], 0⟩] scope pos) spos) (tAsg (tComp own.length ix wi g te) (gName i0)) := by
  unfold compOk at hok
  rw [Bool.and_eq_true, List.all_eq_true, List.all_eq_true] at hok
  obtain ⟨h1, h2⟩ := hok
  refine ps_comp own ix hc hN hi0 hx0 hi hkind (fun x hx hl => ?_) (fun x hx => ?_) (fun x hx hf => ?_) (fun j hj => ?_) hgk hg he hsw hf hs
  · have q := h1 x hx
    simp only [Bool.and_eq_true, Bool.or_eq_true, decide_eq_true_eq] at q
    exact q.1.1.resolve_left fun z => z hl
  · have q := h1 x hx
    simp only [Bool.and_eq_true, Bool.or_eq_true, decide_eq_true_eq] at q
    exact q.1.2
  · have q := h1 x hx
    simp only [Bool.and_eq_true, Bool.or_eq_true, decide_eq_true_eq] at q
    rcases q.2 with (z | z) | z
    · exact absurd hf z
    · exact .inl z
    · exact .inr z
  · have q := h2 j hj
    cases e : X.N[j]? with
    | none => rw [e] at q; cases q
    | some y => rw [e] at q; exact ⟨y, rfl, of_decide_eq_true q⟩
end
end L2
namespace L2
open PySem PySem.Spec PyProof.Rows
section
variable {X : Cx}
end
theorem SameB.same {p : Addr} {H H' : Hp} (a : SameB p H H') (f : H p = none) : Same H H' := fun b o e => a b o (ne_of_none e f) e
end L2
namespace L2
open PySem PySem.Spec PyProof.Rows
abbrev two (elt tg iter tg2 iter2 : Expr) (scope : Scope) (pos : Pos) : Expr := .ListComp elt [⟨tg, iter, [], 0⟩, ⟨tg2, iter2, [], 0⟩] scope pos
section
variable {prog : Program} {w : World} {A : Around} {R : Result → Shared → Prop} {s : Shared} {elt tg iter tg2 iter2 : Expr} {scope : Scope} {pos : Pos} {it acc : Value} {env : Env}
theorem outer_turn : compTurn (two elt tg iter tg2 iter2 scope pos) 0 it acc env = (standAt iter.pos >>= fun _ => pyNext it >>= fun r => match r with
    | none => pure (.done .next)
    | some v => letOwnedTupleGo tg it v >>= fun _ => assign tg env v >>= fun _ => eval iter2 env >>= fun x => standAt iter2.pos >>= fun _ => foldedSetIterable iter2 env x >>= fun x => holding [x] (pyIter x) >>= fun j =>
        runOwn (.compStart (two elt tg iter tg2 iter2 scope pos) 1 j acc env) env >>= fun _ => again (.compLoop (two elt tg iter tg2 iter2 scope pos) 0 it acc env)) := by rfl
theorem inner_turn : compTurn (two elt tg iter tg2 iter2 scope pos) 1 it acc env = (standAt iter2.pos >>= fun _ => pyNext it >>= fun r => match r with
    | none => pure (.done .next)
    | some v => letOwnedTupleGo tg2 it v >>= fun _ => assign tg2 env v >>= fun _ => (eval elt env >>= fun x => call (.builtin "list.append") [acc, x] >>= fun _ => pure ()) >>= fun _ =>
        again (.compLoop (two elt tg iter tg2 iter2 scope pos) 1 it acc env)) := by rfl
theorem inner_go (I : Nat → Shared → Prop)
    (turn : ∀ n s, I n s → wpAny (model prog w) A (pyNext it) (fun r s1 => match r with
      | none => R (.ok .next) s1
      | some v => wpAny (model prog w) A (letOwnedTupleGo tg2 it v) (fun _ s2 => wpAny (model prog w) A (assign tg2 env v) (fun _ s3 => wpAny (model prog w) A (eval elt env) (fun x s4 =>
          wpAny (model prog w) A (call (.builtin "list.append") [acc, x]) (fun _ s5 => ∃ m, m < n ∧ I m s5) (fun _ _ => False) s4) (fun _ _ => False) s3) (fun _ _ => False) s2) (fun _ _ => False) s1) (fun _ _ => False) s)
    (n : Nat) (h : I n s) : codeAny (model prog w) A (.compLoop (two elt tg iter tg2 iter2 scope pos) 1 it acc env) R s := by
  refine codeAny_loop rfl I (fun n s hI => wpAny_noted (m := compTurn (two elt tg iter tg2 iter2 scope pos) 1 it acc env) ?_) n h
  rw [inner_turn]
  refine wpAny_bind (wpAny_standAt (wpAny_bind (wpAny_mono (turn n s hI) (fun r s1 h1 => ?_) fun _ _ z => z.elim)))
  cases r with
  | none => exact wpAny_pure h1
  | some v =>
    exact wpAny_bind (wpAny_mono h1 (fun _ s2 h2 => wpAny_bind (wpAny_mono h2 (fun _ s3 h3 => wpAny_bind (wpAny_bind (wpAny_mono h3 (fun x s4 h4 => wpAny_bind (wpAny_mono h4
      (fun _ s5 h5 => wpAny_pure (wpAny_pure ⟨rfl, h5⟩)) fun _ _ z => z.elim)) fun _ _ z => z.elim))) fun _ _ z => z.elim)) fun _ _ z => z.elim)
theorem inner_start (h0 : codeAny (model prog w) A (.compLoop (two elt tg iter tg2 iter2 scope pos) 1 it acc env) R s)
    (h : wpAny (model prog w) A (pyIter it) (fun j s' => codeAny (model prog w) A (.compLoop (two elt tg iter tg2 iter2 scope pos) 1 j acc env) R s') (fun _ _ => False) s) :
    codeAny (model prog w) A (.compStart (two elt tg iter tg2 iter2 scope pos) 1 it acc env) R s := by
  refine codeAny_of_tree (wpAny_notedAt (m := compStart (two elt tg iter tg2 iter2 scope pos) 1 it acc env) (pos := theWindowsPlace) ?_)
  simp only [compStart]
  refine wpAny_bind (m := ask) (wpAny_askSetting ?_)
  split
  · exact wpAny_bind (wpAny_pure (wpAny_pure ⟨rfl, h0⟩))
  · exact wpAny_bind (wpAny_rule (wpAny_bind (wpAny_standAt (wpAny_bind (wpAny_mono h (fun j s' h' => wpAny_pure ⟨rfl, h'⟩) fun _ _ z => z.elim)))))
theorem outer_go (I : Nat → Shared → Prop)
    (turn : ∀ n s, I n s → wpAny (model prog w) A (pyNext it) (fun r s1 => match r with
      | none => R (.ok .next) s1
      | some v => wpAny (model prog w) A (letOwnedTupleGo tg it v) (fun _ s2 => wpAny (model prog w) A (assign tg env v) (fun _ s3 => wpAny (model prog w) A (eval iter2 env) (fun x s4 =>
          wpAny (model prog w) A (pyIter x) (fun j s5 => codeAny (model prog w) (A.mark none) (.compStart (two elt tg iter tg2 iter2 scope pos) 1 j acc env) (fun r s6 => match r with | .ok _ => ∃ m, m < n ∧ I m s6 | .error _ => False) s5) (fun _ _ => False) s4) (fun _ _ => False) s3) (fun _ _ => False) s2) (fun _ _ => False) s1) (fun _ _ => False) s)
    (hs : ∀ x, foldedSetIterable iter2 env x = pure x) (n : Nat) (h : I n s) : codeAny (model prog w) A (.compLoop (two elt tg iter tg2 iter2 scope pos) 0 it acc env) R s := by
  refine codeAny_loop rfl I (fun n s hI => wpAny_noted (m := compTurn (two elt tg iter tg2 iter2 scope pos) 0 it acc env) ?_) n h
  rw [outer_turn]
  refine wpAny_bind (wpAny_standAt (wpAny_bind (wpAny_mono (turn n s hI) (fun r s1 h1 => ?_) fun _ _ z => z.elim)))
  cases r with
  | none => exact wpAny_pure h1
  | some v =>
    refine wpAny_bind (wpAny_mono h1 (fun _ s2 h2 => wpAny_bind (wpAny_mono h2 (fun _ s3 h3 => wpAny_bind (wpAny_mono h3 (fun x s4 h4 => wpAny_bind (wpAny_standAt ?_)) fun _ _ z => z.elim)) fun _ _ z => z.elim)) fun _ _ z => z.elim)
    rw [hs x]
    refine wpAny_bind (wpAny_pure (wpAny_bind (wpAny_holding (wpAny_mono h4 (fun j s5 h5 => wpAny_bind (wpAny_runOwn (codeAny_mono h5 fun r s6 h6 => ?_))) fun _ _ z => z.elim))))
    cases r with
    | error e => exact h6.elim
    | ok f => exact wpAny_pure ⟨rfl, h6⟩
end
end L2
namespace L2
open PySem PySem.Spec PyProof.Rows
def In2 (wi2 : TI) (te : TE) (W : Nat → Nat → List V → Hp → Prop) (i m : Nat) (ys : List V) : St → Hp → Prop := fun σ H => wi2 σ H fun J2 H3 => ∃ W2 : Nat → Nat → List V → Hp → Prop, (∃ m2, W2 0 m2 ys H3) ∧ ∀ j m2 zs H4, W2 j m2 zs H4 →
  zs.length < sizeLine ∧ ((J2.stop j H4 ∧ ∃ m', m' < m ∧ W (i + 1) m' zs H4) ∨
    (J2.go j H4 ∧ ∀ y H5, J2.yld j H4 y H5 → te (σ.set 1 (some y)) H5 fun v H6 => ∃ m2', m2' < m2 ∧ W2 (j + 1) m2' (zs ++ [v]) H6))
def CompW2 (J : It) (wi2 : TI) (te : TE) (s0 : St) (Q : VK) (H1 : Hp) : Prop := ∃ W : Nat → Nat → List V → Hp → Prop, (∃ m, W 0 m [] H1) ∧ ∀ i m ys H, W i m ys H →
  ys.length < sizeLine ∧ ((J.stop i H ∧ ∀ p, H p = none → Q (.ref p) (upd H p (.lst ys))) ∨
    (J.go i H ∧ ∀ x H', J.yld i H x H' → In2 wi2 te W i m ys (s0.set 0 (some x)) H'))
def tComp2 (ix : List Nat) (wi wi2 : TI) (te : TE) : TE := fun σ H Q => wi σ H fun J H1 => CompW2 J wi2 te (compS 2 ix σ) Q H1
theorem gn_eq {i : Nat} {x : V} {σ : St} {H : Hp} {Q : St → Hp → Prop} (h : gName i x σ H Q) : gName i x σ H fun σ2 H2 => Q σ2 H2 ∧ σ2 = σ.set i (some x) := ⟨h, rfl⟩
section
variable {X : Cx}
theorem pe_comp2 {elt iter iter2 : Expr} {x1 x2 : Str} {p1 p2 : Pos} {scope : Scope} {pos : Pos} {wi wi2 : TI} {te : TE} (ix : List Nat) (hc : X.calm = true) (hi : PI X (.Name x1 p1) iter wi)
    (hkind : scope.kind = .function) (hnames : ∀ x ∈ scope.names, x.2 = .local → scope.names.lookup x.1 = some .local) (hcell : ∀ x ∈ scope.names, x.2 ≠ .cell)
    (hcap : ∀ x ∈ scope.names, x.2 = .free → X.env.scope.names.lookup x.1 = some .cell ∨ X.env.scope.names.lookup x.1 = some .free)
    (hix : ∀ j ∈ ix, ∃ y, X.N[j]? = some y ∧ scope.names.lookup y = some .free) 
    (hg : ∀ cl C fp s H, PG (cxComp X (compN X [x1, x2] ix) scope cl C fp s H) (.Name x1 p1) (gName 0)) (hi2 : ∀ cl C fp s H, PI (cxComp X (compN X [x1, x2] ix) scope cl C fp s H) (.Name x2 p2) iter2 wi2)
    (hg2 : ∀ cl C fp s H, PG (cxComp X (compN X [x1, x2] ix) scope cl C fp s H) (.Name x2 p2) (gName 1)) (he : ∀ cl C fp s H, PE (cxComp X (compN X [x1, x2] ix) scope cl C fp s H) elt te)
    (hs : ∀ x, foldedSetIterable iter X.env x = pure x := by intro _; rfl) (hs2 : ∀ env x, foldedSetIterable iter2 env x = pure x := by intro _ _; rfl) :
    PE X (two elt (.Name x1 p1) iter (.Name x2 p2) iter2 scope pos) (tComp2 ix wi wi2 te) := by
  have hgk : GK ([x1, x2] : List Str).length (gName 0) := gk_name (i := 0) (by simp)
  intro pins s σ H Q I h
  have hcells : ∀ x ∈ scope.names, x.2 = .free → ∃ c, X.env.cells.lookup x.1 = some c := fun x hx hf => I.ok.has x.1 (hcap x hx hf)
  obtain ⟨cl, hcl, hcl1, hcl2⟩ := closure_of hcells
  rw [eval_ListComp]
  refine wpAny_comprehension_free (use := none) rfl hs hcl hkind hnames ?_
  refine thn (hi pins s σ H _ I h) fun v s1 h1 => thn h1 fun itv s2 h2 => ?_
  obtain ⟨it, fp, tn, J, H2, e, I2, T, st2, f2, W, ⟨m0, w0⟩, turn⟩ := h2
  subst e
  refine wpAny_newObj_type (wpAny_newFunctionEnv hcell (by intro y hy; simp at hy) (fun h4 hns hsb => ?_) hkind)
  dsimp only at hns hsb ⊢
  -- the list
  generalize hh3 : s2.heap.push { cls := .type "list", dict := none, data := .seq ([] : List Value).toArray } = h3 at hns hsb ⊢
  have sz3 : h3.objs.size = s2.heap.objs.size + 1 := by rw [← hh3, Heap.size_push]
  have k23 : ∀ b u, s2.heap.get? b = some u → h3.get? b = some u := fun b u q => by rw [← hh3]; exact Heap.get?_push_of_some _ q
  have D3 : h3.get? s2.heap.objs.size = some { cls := .type "list", data := .seq #[] } := by rw [← hh3]; exact Heap.get?_push_size _ rfl
  obtain ⟨D, hD⟩ : ∃ D, D = s2.heap.objs.size := ⟨_, rfl⟩
  obtain ⟨C, hC⟩ : ∃ C, C = h3.objs.size := ⟨_, rfl⟩
  rw [← hC] at hns hsb
  rw [← hD] at D3 sz3
  have hCD : C = D + 1 := hC.trans sz3
  let s3 : Shared := { s2 with heap := h3 }
  have I3 : Inv X pins σ H2 s3 := I2.kept (t' := s2.toks) k23
  have lt3 : ∀ b u, h3.get? b = some u → b < C := fun b u q => by rw [hC]; exact Heap.lt_size q
  have k34 : ∀ b u, h3.get? b = some u → h4.get? b = some u := fun b u q => hsb.extBut b u (Nat.ne_of_lt (lt3 b u q)) (Heap.get?_push_of_some _ q)
  have H2D : H2 D = none := I2.hok.fresh (by rw [hD]; exact Nat.le_refl _)
  have H2C : H2 C = none := I2.hok.fresh (by rw [hCD, hD]; exact Nat.le_succ _)
  have fD : FpOk X pins H2 D := I2.fpOk (by rw [hD]; exact Nat.le_refl _) H2D
  have cellsLt : ∀ x c, X.env.cells.lookup x = some c → c < D := fun x c e => by
    obtain ⟨v, z⟩ := I2.cell x c e
    rw [hD]; exact z.lt
  -- the iterator's own objects stand below the list
  have fpLt : ∀ b ∈ fp, b < D := fun b hb => by
    obtain ⟨o, e, _⟩ := T.obj 0 _ st2 b hb
    rw [hD]; exact Heap.lt_size e
  let X' : Cx := cxComp X (compN X [x1, x2] ix) scope cl C (D :: fp) s3 H2
  have stkLt : ∀ b ∈ frs X.stack, b ∉ D :: fp := fun b hb z => by
    rcases List.mem_cons.mp z with z | z
    · have q := I2.stack
      obtain ⟨_, o, e, _⟩ := q.mem hb
      have := Heap.lt_size e
      rw [z, hD] at this
      exact Nat.lt_irrefl _ this
    · rcases List.mem_cons.mp (I2.stkSub b hb) with q | q
      · exact (f2 b z).2.1 q
      · exact (f2 b z).2.2.1 q
  have ok' : X'.Ok := by
    refine ⟨I.ok.mod, hkind, I.ok.glob, I.ok.blt, ?_, fun x y c h1 h2 => I.ok.inj x y c (hcl1 x c h1) (hcl1 y c h2), fun x hx => hcl2 x (relabel_back (scope := scope) hx hcell), (fun x c z => Bool.noConfusion (show false = true from z)), I.ok.hd, I.ok.frames, .inl rfl, fun b hb => ⟨?_, fun x c h1 => ?_⟩, fun b o e => ?_, ?_, fun b o e hb => ?_, fun b hb z => stkLt b z hb, ?_, fun b hb => I2.stkFree b hb⟩
    · show h3.objs.size ≤ C
      rw [hC]; exact Nat.le_refl _
    · show b ≠ C
      rcases List.mem_cons.mp hb with z | z
      · rw [z, hCD]; exact Nat.ne_of_lt (Nat.lt_succ_self _)
      · rw [hCD]; exact Nat.ne_of_lt (Nat.lt_succ_of_lt (fpLt b z))
    · rcases List.mem_cons.mp hb with z | z
      · rw [z]; exact Nat.ne_of_lt (cellsLt x c (hcl1 x c h1))
      · exact (f2 b z).2.2.2.2.1 x c (hcl1 x c h1)
    · exact I3.bs b o e
    · show X.base.objs.size ≤ h3.objs.size
      have := Nat.le_trans I.ok.bsz I2.sz
      rw [← hD] at this
      rw [← hC, hCD]
      exact Nat.le_succ_of_le this
    · rcases List.mem_cons.mp hb with z | z
      · have := Heap.lt_size (I2.bk b o e)
        rw [z, hD] at this
        exact Nat.lt_irrefl _ this
      · rcases (f2 b z).2.2.2.1 with q | q
        · exact I.ok.noex b o e q
        · have := Nat.lt_of_lt_of_le (Heap.lt_size (I.ok.bs b o e).1) q
          exact Nat.lt_irrefl _ this
    · exact I3.stack
  have lenN : (compS ([x1, x2] : List Str).length ix σ).length = (compN X [x1, x2] ix).length := by simp [compS, compN]
  have I4 : ∀ t, Inv X' [] (compS ([x1, x2] : List Str).length ix σ) H2 { s2 with heap := h4, toks := t } := fun t => by
    refine ⟨ok', rfl, I2.bare, Un.kept k34, ⟨_, hns, fun i x v e1 e2 e3 => ?_⟩, fun x c e => ?_, H2C, fun x c e => I2.freeC x c (hcl1 x c e), fun p hp => absurd (show p ∈ ([] : List (Addr × Obj)) from hp) (by simp), (I3.hok).kept k34, lenN⟩
    · -- a name of the def that the block reads
      have hi' : ([x1, x2] : List Str).length ≤ i := by
        apply Nat.le_of_not_lt
        intro hlt
        unfold compS at e2
        rw [List.getElem?_append_left (by simpa using hlt), List.getElem?_replicate, if_pos hlt] at e2
        cases e2
      have e1' : (ix.map fun j => X.N.getD j ("" : Str))[i - ([x1, x2] : List Str).length]? = some x := by
        have z : ([x1, x2] ++ ix.map fun j => X.N.getD j ("" : Str))[i]? = some x := e1
        rwa [List.getElem?_append_right hi'] at z
      have e2' : (ix.map fun j => σ.getD j none)[i - ([x1, x2] : List Str).length]? = some (some v) := by
        unfold compS at e2
        rw [List.getElem?_append_right (by simpa using hi')] at e2
        simpa using e2
      rw [List.getElem?_map] at e1' e2'
      cases hj : ix[i - ([x1, x2] : List Str).length]? with
      | none => rw [hj] at e1'; cases e1'
      | some j =>
        rw [hj] at e1' e2'
        obtain ⟨y, hy, hfree⟩ := hix j (List.mem_of_getElem? hj)
        have ex : x = y := by
          have z : X.N.getD j ("" : Str) = x := Option.some.inj e1'
          rw [← z, List.getD_eq_getElem?_getD, hy]; rfl
        subst ex
        have ev : σ[j]? = some (some v) := by
          have z : σ.getD j none = some v := Option.some.inj e2'
          rw [List.getD_eq_getElem?_getD] at z
          cases q : σ[j]? with
          | none => rw [q] at z; cases z
          | some a => rw [q] at z; exact congrArg some z
        have hxm := PySem.mem_of_lookup hfree
        have hvis := hcap _ hxm rfl
        obtain ⟨m, hn, hl⟩ := I2.loc
        obtain ⟨u, r, lk⟩ := hl j x v hy ev (.inr hvis)
        refine ⟨u, r, .inr ⟨?_, ?_⟩⟩
        · rcases e3 with z | z
          · exact absurd z (relabel_fwd hfree)
          · exact z
        · rcases lk with ⟨k, _⟩ | ⟨_, c, hc1, z⟩
          · rcases hvis with q | q
            · exact absurd (k.symm.trans q) (by simp)
            · exact absurd (k.symm.trans q) (by simp)
          · obtain ⟨c', hc'⟩ := hcl2 x hxm
            have := hcl1 x c' hc'
            rw [hc1] at this
            cases this
            obtain ⟨o, ho, hd⟩ := z
            exact ⟨c, hc', o, k34 _ _ (k23 _ _ ho), hd⟩
    · obtain ⟨v, z⟩ := I3.cell x c (hcl1 x c e)
      obtain ⟨o, ho, hd⟩ := z
      exact ⟨v, o, k34 _ _ ho, hd⟩
  have nfp : ∀ b ∈ fp, b ≠ D := fun b hb => Nat.ne_of_lt (fpLt b hb)
  have fp' : ∀ {H' : Hp} {pl : List (Addr × Obj)}, (∀ p ∈ pl, p.1 = D) → (∀ b ∈ fp, H' b = none) → ∀ b ∈ fp, FpOk X' pl H' b := fun {H' pl} hp hn b hb =>
    ⟨hn b hb, (ok'.exf b (List.mem_cons_of_mem _ hb)).1, ok'.exfs b (List.mem_cons_of_mem _ hb), .inl (List.mem_cons_of_mem _ hb), (ok'.exf b (List.mem_cons_of_mem _ hb)).2, fun p hp' z => nfp b hb (z ▸ hp p (by
      have q : p ∈ ([] : List (Addr × Obj)) ++ pl := hp'
      simpa using q))⟩
  have dX : D ≠ X'.env.locals := (ok'.exf D List.mem_cons_self).1
  have dF : D ∉ X'.fs := ok'.exfs D List.mem_cons_self
  have loop : ∀ t, codeAny (model X.prog X.w) X.A (.compLoop (two elt (.Name x1 p1) iter (.Name x2 p2) iter2 scope pos) 0 (.ref it) (.ref D) (compEnvC scope cl C X.env))
      (compPost (model X.prog X.w) X.A X.xe none (EP X pins σ Q) (.ref D) C) { s2 with heap := h4, toks := t } := fun t => by
    have st4 : tn 0 h4 := T.keep 0 _ _ st2 fun b _ o e => k34 _ _ (k23 _ _ e)
    refine outer_go (fun n s' => ∃ i ys its H', Inv X' [] (compS ([x1, x2] : List Str).length ix σ) H' s' ∧ tn i s'.heap ∧ (∀ b ∈ fp, H' b = none) ∧ H' D = none ∧ s'.heap.PlainList D (List.toArray its) ∧ Vals ys its ∧ W i n ys H') ?_ (hs2 _) m0
      ⟨0, [], [], H2, I4 t, st4, fun b hb => (f2 b hb).1, H2D, ⟨_, k34 _ _ D3⟩, .nil, w0⟩
    rintro n s5 ⟨i, ys, its, H5, I5, st5, fr5, d5, ⟨nn, l5⟩, v5, w5⟩
    obtain ⟨hz, hcase⟩ := turn i n ys H5 w5
    let oD : Obj := { cls := .type "list", data := .seq its.toArray nn }
    have onlyD : ∀ p ∈ [((D, oD) : Addr × Obj)], p.1 = D := fun p hp => by
      have e : p = (D, oD) := by simpa using hp
      rw [e]
    have I5' : Inv X' [(D, oD)] (compS ([x1, x2] : List Str).length ix σ) H5 s5 := I5.pins_of fun p hp => by
      have e : p = (D, oD) := by simpa using hp
      subst e
      exact ⟨l5, d5, dX, dF, fun v z => nomatch z⟩
    rcases hcase with ⟨stop, qn⟩ | ⟨go, step⟩
    · refine thn (T.done X' rfl rfl rfl hc i _ s5 _ H5 _ I5' (fp' onlyD fr5) st5 stop) fun r s6 ⟨hr, I6⟩ => ?_
      subst hr
      obtain ⟨m, hn6, _⟩ := id I6.loc
      refine ⟨m, hn6, fun h' hs' => ?_⟩
      have ne : ∀ b u, h3.get? b = some u → h'.get? b = s6.heap.get? b := fun b u q => hs'.2 b (Nat.ne_of_lt (lt3 b u q))
      have b6 : Un (frs X.stack) (D :: fp) H2 H5 h3 s6.heap := I6.base
      have u6 : Un (frs X.stack) (D :: fp) H2 H5 h3 h' := ⟨fun b o q n hb hx => (ne b o q).trans (b6.keep b o q n hb hx), fun b o q n hb hx => by
          obtain ⟨sl, z⟩ := b6.slot b o q n hb hx
          exact ⟨sl, (ne b o q).trans z⟩, b6.free, fun b o q hx => by
          obtain ⟨o', z⟩ := b6.there b o q hx
          exact ⟨o', (ne b o q).trans z⟩, b6.tups, b6.frzs, b6.tbls⟩
      have hC6 : H5 C = none := I6.free
      have hok6 : HOk X.prog X.w H5 h' := fun b ob e => (I6.hok b ob e).stay (fun c w' hc q => (hs'.2 c (by
          rintro rfl
          rcases hc with rfl | hc
          · rw [hC6] at e; cases e
          · rw [hC6] at hc; cases hc)).trans q) (fun _ q => q) fun _ _ q => q
      have I7 : Inv X pins σ H5 { s6 with heap := h' } := I3.call' (s' := { s6 with heap := h' }) (ch := D :: fp) I6.os u6 hok6 I6.bare fun b hb => by
        rcases List.mem_cons.mp hb with z | z
        · subst z
          exact ⟨fD.2.2.2.1, fD.2.1, fD.2.2.2.2.1, fD.2.2.2.2.2⟩
        · have f := f2 b z
          exact ⟨f.2.2.2.1, f.2.1, f.2.2.2.2.1, f.2.2.2.2.2⟩
      obtain ⟨gD, nD, _⟩ := I6.pin (D, oD) (by simp)
      have gD' : h'.get? D = some oD := (hs'.2 D (by rw [hCD]; exact Nat.ne_of_lt (Nat.lt_succ_self _))).trans gD
      exact ⟨.ref D, _, I7.retrack (o := .lst ys) nD ⟨nD, fD.2⟩ ⟨Nat.le_of_lt hz, its, nn, v5, gD'⟩, rfl, qn D nD⟩
    · refine thn (T.item X' rfl rfl rfl hc i _ s5 _ H5 _ I5' (fp' onlyD fr5) st5 go) fun r s6 ⟨u, hr, h6⟩ => ?_
      subst hr
      refine thn h6 fun _ s7 ⟨x, H7, I7, r7, y7, st7, fr7⟩ => ?_
      have I7' := I7.pinned (fp' onlyD fr7) (T.obj _ _ st7)
      refine thn (hg cl C (D :: fp) s3 H2 _ s7 _ H7 x u _ I7' r7 (hgk _ _ _ _ (gn_eq (Q := In2 wi2 te W i n ys) (step x H7 y7)))) fun _ s8 ⟨σ8, H8, I8, q8, l8, k8⟩ => ?_
      have e8 : σ8 = (compS ([x1, x2] : List Str).length ix σ).set 0 (some x) := by exact q8.2
      replace q8 := q8.1
      refine thn (hi2 cl C (D :: fp) s3 H2 _ s8 σ8 H8 _ I8 q8) fun v9 s9 h9 => thn h9 fun jv s10 h10 => ?_
      obtain ⟨it2, fp2, tn2, J2, H10, ej, I10, T2, st10, f10, W2, ⟨m20, w20⟩, turn2⟩ := h10
      subst ej
      rw [Around.mark_none]
      obtain ⟨gD0, nD0, _⟩ := I10.pin (D, oD) (by simp)
      have n2D : ∀ b ∈ fp2, b ≠ D := fun b hb z => (f10 b hb).2.2.2.2.2 (D, oD) (by simp) z.symm
      have cut : ∀ {H9 : Hp} {σ9 : St} {s9 : Shared} {more : List (Addr × Obj)}, Inv X' (([(D, oD)] ++ pinsAt fp s7.heap) ++ more) σ9 H9 s9 → Inv X' (pinsAt fp s7.heap) σ9 H9 s9 := fun {H9 σ9 s9 more} I9 =>
        I9.pins_of fun p hp => I9.pin p (List.mem_append_right _ (List.mem_append_left _ (List.mem_append_right _ hp)))
      have pinNe : ∀ p ∈ X'.pn ++ pinsAt fp s7.heap, p.1 ≠ D := fun p hp => by
        have q : p ∈ ([] : List (Addr × Obj)) ++ pinsAt fp s7.heap := hp
        exact nfp _ (of_pinsAt (by simpa using q)).1
      have fpP : ∀ {H9 : Hp} {o9 : Obj}, (∀ b ∈ fp2, H9 b = none) → ∀ b ∈ fp2, FpOk X' ([(D, o9)] ++ pinsAt fp s7.heap) H9 b := fun {H9 o9} hn b hb => by
        obtain ⟨_, k1, k2, k3, k4, k5⟩ := f10 b hb
        refine ⟨hn b hb, k1, k2, k3, k4, fun p hp => ?_⟩
        have hp' : p = (D, o9) ∨ p ∈ pinsAt fp s7.heap := by
          have q : p ∈ ([] : List (Addr × Obj)) ++ ([(D, o9)] ++ pinsAt fp s7.heap) := hp
          simpa using q
        rcases hp' with rfl | hp'
        · exact (n2D b hb).symm
        · exact k5 p (by
            show p ∈ ([] : List (Addr × Obj)) ++ ([(D, oD)] ++ pinsAt fp s7.heap)
            simp [hp'])
      let R2 : Result → Shared → Prop := fun r s6 => match r with
        | .ok _ => ∃ m, m < n ∧ ∃ i ys its H', Inv X' [] (compS ([x1, x2] : List Str).length ix σ) H' s6 ∧ tn i s6.heap ∧ (∀ b ∈ fp, H' b = none) ∧ H' D = none ∧ s6.heap.PlainList D (List.toArray its) ∧ Vals ys its ∧ W i m ys H'
        | .error _ => False
      have inner : ∀ (sA : Shared), (Inv X' (pinsAt fp s7.heap) σ8 H10 sA ∧ tn2 0 sA.heap ∧ sA.heap.PlainList D (List.toArray its)) → codeAny (model X.prog X.w) X.A (.compLoop (two elt (.Name x1 p1) iter (.Name x2 p2) iter2 scope pos) 1 (.ref it2) (.ref D) (compEnvC scope cl C X.env)) R2 sA := fun sA hA => by
        refine inner_go (fun k s' => ∃ j zs us H', Inv X' (pinsAt fp s7.heap) σ8 H' s' ∧ tn2 j s'.heap ∧ (∀ b ∈ fp2, H' b = none) ∧ H' D = none ∧ s'.heap.PlainList D (List.toArray us) ∧ Vals zs us ∧ W2 j k zs H') ?_ m20
          ⟨0, ys, its, H10, hA.1, hA.2.1, fun b hb => (f10 b hb).1, nD0, hA.2.2, v5, w20⟩
        rintro k sB ⟨j, zs, us, HB, IB, stB, frB, dB, ⟨nB, lB⟩, vB, wB⟩
        obtain ⟨hzB, hcB⟩ := turn2 j k zs HB wB
        let oB : Obj := { cls := .type "list", data := .seq us.toArray nB }
        have IB' : Inv X' ([(D, oB)] ++ pinsAt fp s7.heap) σ8 HB sB := IB.pins_of fun p hp => by
          rcases List.mem_append.mp hp with here | there
          · have e : p = (D, oB) := by simpa using here
            subst e
            exact ⟨lB, dB, dX, dF, fun v z => nomatch z⟩
          · exact IB.pin p (List.mem_append_right _ there)
        rcases hcB with ⟨stop2, m', hm', wO⟩ | ⟨go2, step2⟩
        · refine thn (T2.done X' rfl rfl rfl hc j _ sB _ HB _ IB' (fpP frB) stB stop2) fun r sC ⟨hr, IC⟩ => ?_
          subst hr
          obtain ⟨gC, nC, _⟩ := IC.pin (D, oB) (by
            show (D, oB) ∈ ([] : List (Addr × Obj)) ++ ([(D, oB)] ++ pinsAt fp s7.heap)
            simp)
          have IC' : Inv X' (pinsAt fp s7.heap) σ8 HB sC := IC.pins_of fun p hp => IC.pin p (List.mem_append_right _ (List.mem_append_right _ hp))
          refine ⟨m', hm', i + 1, zs, us, HB, ?_, ?_, ?_, nC, ⟨nB, gC⟩, vB, wO⟩
          · refine Inv.weak (IC'.pins_of (pins' := []) fun p hp => nomatch hp) (by rw [l8]) fun j v hj => ?_
            by_cases hlt : j < ([x1, x2] : List Str).length
            · unfold compS at hj
              rw [List.getElem?_append_left (by simpa using hlt), List.getElem?_replicate, if_pos hlt] at hj
              cases hj
            · have e : σ8[j]? = (compS ([x1, x2] : List Str).length ix σ)[j]? := by
                have q := congrArg (fun l : List (Option V) => l[j - ([x1, x2] : List Str).length]?) k8
                simp only [List.getElem?_drop] at q
                rwa [Nat.add_sub_cancel' (Nat.le_of_not_lt hlt)] at q
              rw [e]; exact hj
          · exact T.keep _ _ _ st7 fun b hb o e => (IC'.pin (b, o) (List.mem_append_right _ (mem_pinsAt hb e))).1
          · intro b hb
            obtain ⟨o, e, d⟩ := T.obj _ _ st7 b hb
            exact (IC'.pin (b, o) (List.mem_append_right _ (mem_pinsAt hb e))).2.1
        · refine thn (T2.item X' rfl rfl rfl hc j _ sB _ HB _ IB' (fpP frB) stB go2) fun r sC ⟨u2, hr, hC6⟩ => ?_
          subst hr
          refine thn hC6 fun _ sD ⟨y2, HD, ID, rD, yD, stD, frD⟩ => ?_
          have ID' := ID.pinned (fpP frD) (T2.obj _ _ stD)
          refine thn (hg2 cl C (D :: fp) s3 H2 _ sD _ HD y2 u2 _ ID' rD (gn_eq (Q := fun σ H => te σ H fun v H6 => ∃ m2', m2' < k ∧ W2 (j + 1) m2' (zs ++ [v]) H6) (step2 y2 HD yD))) fun _ sE ⟨σE, HE, IE, qE⟩ => ?_
          have eE : σE = σ8.set 1 (some y2) := by exact qE.2
          replace qE := qE.1
          refine thn (he cl C (D :: fp) s3 H2 _ sE σE HE _ IE qE) fun yv sF ⟨yy, HF, IF, rF, m2', hm2', wF⟩ => ?_
          obtain ⟨gD, nD, _⟩ := IF.pin (D, oB) (by
            show (D, oB) ∈ ([] : List (Addr × Obj)) ++ (([(D, oB)] ++ pinsAt fp s7.heap) ++ pinsAt fp2 sD.heap)
            simp)
          have hlen : us.length = zs.length := vB.length.symm
          refine wpAny_list_append_plain (l := D) (items := us.toArray) ⟨nB, gD⟩ (fun h' hl' hs' => ?_) (by rw [List.size_toArray, hlen]; exact Nat.le_of_lt hzB)
          have kp : ∀ b o, b ≠ D → sF.heap.get? b = some o → h'.get? b = some o := fun b o hb q => (hs'.2 b hb).trans q
          have IF' : Inv X' (pinsAt fp s7.heap) σE HF sF := IF.pins_of fun p hp => IF.pin p (List.mem_append_right _ (List.mem_append_left _ (List.mem_append_right _ hp)))
          have IG : Inv X' (pinsAt fp s7.heap) σE HF { sF with heap := h', toks := sF.toks } := IF'.turned (it := D) kp nD dX (.inl List.mem_cons_self) (ok'.exf D List.mem_cons_self).2 pinNe
          have at2 : ∀ b ∈ fp2, ∀ o, sD.heap.get? b = some o → sF.heap.get? b = some o ∧ HF b = none := fun b hb o q => by
            have z := IF.pin (b, o) (List.mem_append_right _ (List.mem_append_right _ (mem_pinsAt hb q)))
            exact ⟨z.1, z.2.1⟩
          refine ⟨m2', hm2', j + 1, zs ++ [yy], us ++ [yv], HF, ?_, ?_, ?_, nD, ?_, vB.append (.cons rF .nil), wF⟩
          · refine Inv.weak IG (by rw [eE, List.length_set]) fun q v hq => ?_
            rw [eE]
            have ne1 : q ≠ 1 := fun z => by
              subst z
              rw [e8] at hq
              simp [compS, List.getElem?_append] at hq
            rw [List.getElem?_set_ne (Ne.symm ne1)]
            exact hq
          · exact T2.keep _ _ _ stD fun b hb o q => kp b o (n2D b hb) (at2 b hb o q).1
          · intro b hb
            obtain ⟨o, q, _⟩ := T2.obj _ _ stD b hb
            exact (at2 b hb o q).2
          · have e : (us ++ [yv]).toArray = us.toArray.push yv := by simp
            rw [e]; exact hl'
      have st0 : Inv X' (pinsAt fp s7.heap) σ8 H10 s10 ∧ tn2 0 s10.heap ∧ s10.heap.PlainList D (List.toArray its) := ⟨I10.pins_of fun p hp => I10.pin p (List.mem_append_right _ (List.mem_append_right _ hp)), st10, ⟨nn, gD0⟩⟩
      exact inner_start (inner s10 st0) (T2.self _ 0 _ _ _ st10 (inner s10 st0))
  rw [← hC, ← hD]
  exact codeAny_compStart_list (loop _) (T.self _ 0 _ _ _ (T.keep 0 _ _ st2 fun b _ o e => k34 _ _ (k23 _ _ e)) (loop _))
end
end L2
namespace L2
open PySem PySem.Spec PyProof.Rows
section
variable {X : Cx}
theorem pe_cmp2 {elt iter iter2 : Expr} {x1 x2 : Str} {p1 p2 : Pos} {scope : Scope} {pos : Pos} {wi wi2 : TI} {te : TE} (ix : List Nat) (hi : PI X (.Name x1 p1) iter wi)
    (hg : ∀ cl C fp s H, PG (cxComp X (compN X [x1, x2] ix) scope cl C fp s H) (.Name x1 p1) (gName 0)) (hi2 : ∀ cl C fp s H, PI (cxComp X (compN X [x1, x2] ix) scope cl C fp s H) (.Name x2 p2) iter2 wi2)
    (hg2 : ∀ cl C fp s H, PG (cxComp X (compN X [x1, x2] ix) scope cl C fp s H) (.Name x2 p2) (gName 1)) (he : ∀ cl C fp s H, PE (cxComp X (compN X [x1, x2] ix) scope cl C fp s H) elt te)
    (hc : X.calm = true := by rfl) (hkind : scope.kind = .function := by rfl) (hok : compOk scope X.env.scope.names X.N ix = true := by rfl)
    (hs : ∀ x, foldedSetIterable iter X.env x = pure x := by intro _; rfl) (hs2 : ∀ env x, foldedSetIterable iter2 env x = pure x := by intro _ _; rfl) :
    PE X (.ListComp elt [⟨.Name x1 p1, iter, [], 0⟩, ⟨.Name x2 p2, iter2, [], 0⟩] scope pos) (tComp2 ix wi wi2 te) := by
  unfold compOk at hok
  rw [Bool.and_eq_true, List.all_eq_true, List.all_eq_true] at hok
  have each := fun x hx => hok.1 x hx
  simp only [Bool.and_eq_true, Bool.or_eq_true, decide_eq_true_eq] at each
  refine pe_comp2 ix hc hi hkind (fun x hx hl => (each x hx).1.1.resolve_left fun z => z hl) (fun x hx => (each x hx).1.2) (fun x hx hf => ?_) (fun j hj => ?_) hg hi2 hg2 he hs hs2
  · rcases (each x hx).2 with (z | z) | z
    · exact absurd hf z
    · exact .inl z
    · exact .inr z
  · have q := hok.2 j hj
    cases e : X.N[j]? with
    | none => rw [e] at q; cases q
    | some y => rw [e] at q; exact ⟨y, rfl, of_decide_eq_true q⟩
end
theorem comp2_form {J : It} {wi2 : TI} {te : TE} {s0 : St} {Q : VK} {H : Hp} (n : Nat) (Pv : Nat → List V → Hp → Prop) (h0 : Pv 0 [] H) (hlen : ∀ i vs H, Pv i vs H → vs.length < sizeLine)
    (hgo : ∀ i vs H, i < n → Pv i vs H → J.go i H) (hstop : ∀ vs H, Pv n vs H → J.stop n H)
    (hs : ∀ i vs H x H' (R : List V → Hp → Prop), i < n → Pv i vs H → J.yld i H x H' → (∀ zs H3, Pv (i + 1) zs H3 → R zs H3) → wi2 (s0.set 0 (some x)) H' fun J2 H3 => ∃ W2 : Nat → Nat → List V → Hp → Prop, (∃ m2, W2 0 m2 vs H3) ∧ ∀ j m2 zs H4, W2 j m2 zs H4 →
      zs.length < sizeLine ∧ ((J2.stop j H4 ∧ R zs H4) ∨ (J2.go j H4 ∧ ∀ y H5, J2.yld j H4 y H5 → te ((s0.set 0 (some x)).set 1 (some y)) H5 fun v H6 => ∃ m2', m2' < m2 ∧ W2 (j + 1) m2' (zs ++ [v]) H6)))
    (hd : ∀ vs H p, Pv n vs H → H p = none → Q (.ref p) (upd H p (.lst vs))) : CompW2 J wi2 te s0 Q H := by
  refine ⟨fun i m vs H => m = n - i ∧ i ≤ n ∧ Pv i vs H, ⟨n, by simp, Nat.zero_le _, h0⟩, fun i m vs H z => ?_⟩
  obtain ⟨rfl, hi, p⟩ := z
  refine ⟨hlen i vs H p, ?_⟩
  rcases Nat.lt_or_ge i n with hlt | hge
  · exact .inr ⟨hgo i vs H hlt p, fun x H' y => hs i vs H x H' _ hlt p y fun zs H3 p3 => ⟨n - (i + 1), by omega, rfl, hlt, p3⟩⟩
  · have e : i = n := by omega
    subst e
    exact .inl ⟨hstop vs H p, fun b hb => hd vs H b p hb⟩
theorem in2_form {J2 : It} {te : TE} {s1 : St} {ys : List V} {H3 : Hp} {R : List V → Hp → Prop} (n : Nat) (Pv : Nat → List V → Hp → Prop) (h0 : Pv 0 ys H3) (hlen : ∀ j zs H, Pv j zs H → zs.length < sizeLine)
    (hgo : ∀ j zs H, j < n → Pv j zs H → J2.go j H) (hstop : ∀ zs H, Pv n zs H → J2.stop n H)
    (hs : ∀ j zs H y H' (T : V → Hp → Prop), j < n → Pv j zs H → J2.yld j H y H' → (∀ v H6, Pv (j + 1) (zs ++ [v]) H6 → T v H6) → te (s1.set 1 (some y)) H' T) (hd : ∀ zs H, Pv n zs H → R zs H) :
    ∃ W2 : Nat → Nat → List V → Hp → Prop, (∃ m2, W2 0 m2 ys H3) ∧ ∀ j m2 zs H4, W2 j m2 zs H4 →
      zs.length < sizeLine ∧ ((J2.stop j H4 ∧ R zs H4) ∨ (J2.go j H4 ∧ ∀ y H5, J2.yld j H4 y H5 → te (s1.set 1 (some y)) H5 fun v H6 => ∃ m2', m2' < m2 ∧ W2 (j + 1) m2' (zs ++ [v]) H6)) := by
  refine ⟨fun j m zs H => m = n - j ∧ j ≤ n ∧ Pv j zs H, ⟨n, by simp, Nat.zero_le _, h0⟩, fun j m zs H z => ?_⟩
  obtain ⟨rfl, hi, p⟩ := z
  refine ⟨hlen j zs H p, ?_⟩
  rcases Nat.lt_or_ge j n with hlt | hge
  · exact .inr ⟨hgo j zs H hlt p, fun y H5 yl => hs j zs H y H5 _ hlt p yl fun v H6 p6 => ⟨n - (j + 1), by omega, rfl, hlt, p6⟩⟩
  · have e : j = n := by omega
    subst e
    exact .inl ⟨hstop zs H p, hd zs H p⟩
end L2
namespace L2
open PySem PySem.Spec PyProof.Rows SeqAt
mutual
def Dat.pq : Dat → Dat → Bool
  | .non, .non => true
  | .bl a, .bl b => a == b
  | .bl a, .int b => (if a then 1 else 0) == b
  | .int a, .bl b => a == (if b then 1 else 0)
  | .int a, .int b => a == b
  | .str a, .str b => a == b
  | .tup a, .tup b => Dat.pqs a b
  | .lst a, .lst b => Dat.pqs a b
  | _, _ => false
def Dat.pqs : List Dat → List Dat → Bool
  | [], [] => true
  | a :: as, b :: bs => Dat.pq a b && Dat.pqs as bs
  | _, _ => false
end
mutual
theorem Dat.pq_self : ∀ a : Dat, a.pq a = true
  | .non => by unfold Dat.pq; rfl
  | .bl b => by unfold Dat.pq; exact beq_self_eq_true b
  | .int i => by unfold Dat.pq; exact beq_self_eq_true i
  | .str x => by unfold Dat.pq; exact beq_self_eq_true x
  | .tup ds => by unfold Dat.pq; exact Dat.pqs_self ds
  | .lst ds => by unfold Dat.pq; exact Dat.pqs_self ds
theorem Dat.pqs_self : ∀ a : List Dat, Dat.pqs a a = true
  | [] => by unfold Dat.pqs; rfl
  | a :: as => by unfold Dat.pqs; rw [Dat.pq_self a, Dat.pqs_self as]; rfl
end
mutual
def Dat.nb : Dat → Bool
  | .bl _ => false
  | .tup ds => Dat.nbs ds
  | .lst ds => Dat.nbs ds
  | _ => true
def Dat.nbs : List Dat → Bool
  | [] => true
  | d :: ds => d.nb && Dat.nbs ds
end
mutual
theorem Dat.pq_eq : ∀ (a b : Dat), a.nb = true → b.nb = true → a.pq b = true → a = b
  | .non, b, _, hb, h => by cases b <;> unfold Dat.pq at h <;> first | rfl | cases h
  | .bl _, _, ha, _, _ => by unfold Dat.nb at ha; cases ha
  | .int i, b, _, hb, h => by cases b <;> unfold Dat.pq at h <;> first | (cases h; done) | (unfold Dat.nb at hb; cases hb; done) | rw [beq_iff_eq.mp h]
  | .str i, b, _, hb, h => by cases b <;> unfold Dat.pq at h <;> first | (cases h; done) | rw [beq_iff_eq.mp h]
  | .tup ds, b, ha, hb, h => by
    cases b with
    | tup es => unfold Dat.pq at h; unfold Dat.nb at ha hb; rw [Dat.pqs_eq ds es ha hb h]
    | _ => unfold Dat.pq at h; cases h
  | .lst ds, b, ha, hb, h => by
    cases b with
    | lst es => unfold Dat.pq at h; unfold Dat.nb at ha hb; rw [Dat.pqs_eq ds es ha hb h]
    | _ => unfold Dat.pq at h; cases h
theorem Dat.pqs_eq : ∀ (a b : List Dat), Dat.nbs a = true → Dat.nbs b = true → Dat.pqs a b = true → a = b
  | [], [], _, _, _ => rfl
  | [], _ :: _, _, _, h => by unfold Dat.pqs at h; cases h
  | _ :: _, [], _, _, h => by unfold Dat.pqs at h; cases h
  | a :: as, b :: bs, ha, hb, h => by
    unfold Dat.pqs at h
    unfold Dat.nbs at ha hb
    rw [Bool.and_eq_true] at h ha hb
    rw [Dat.pq_eq a b ha.1 hb.1 h.1, Dat.pqs_eq as bs ha.2 hb.2 h.2]
end
theorem pqs_min : ∀ (as bs : List Dat), ((List.range (min as.length bs.length)).all (fun i => ((as[i]?).getD .non).pq ((bs[i]?).getD .non)) && as.length == bs.length) = Dat.pqs as bs
  | [], [] => by unfold Dat.pqs; rfl
  | [], _ :: _ => by unfold Dat.pqs; simp
  | _ :: _, [] => by unfold Dat.pqs; simp
  | a :: as, b :: bs => by
    have ih := pqs_min as bs
    have e : min (a :: as).length (b :: bs).length = min as.length bs.length + 1 := by simp only [List.length_cons]; omega
    rw [e, List.range_succ_eq_map, List.all_cons, List.all_map]
    unfold Dat.pqs
    rw [← ih]
    have e2 : ((a :: as).length == (b :: bs).length) = (as.length == bs.length) := by simp
    rw [e2, Bool.and_assoc]
    rfl
theorem pqs_len {as bs : List Dat} (h : as.length = bs.length) : (List.range as.length).all (fun i => ((as[i]?).getD .non).pq ((bs[i]?).getD .non)) = Dat.pqs as bs := by
  rw [← pqs_min as bs, h]; simp
theorem pqs_ne {as bs : List Dat} (h : as.length ≠ bs.length) : Dat.pqs as bs = false := by
  rw [← pqs_min as bs]; simp [h]
theorem tup_at' {P : Program} {w : World} {H : Hp} {s : Shared} (ok : HOk P w H s.heap) {a : Addr} {xs : List V} (h : H a = some (.tup xs)) : ∃ its : List Value, Vals xs its ∧ s.heap.IsTuple a its.toArray := by
  obtain ⟨_, its, r, p⟩ := (show ObjOk P w H s.heap a (.tup xs) from ok a _ h)
  exact ⟨its, r, p.is⟩
theorem lst_at' {P : Program} {w : World} {H : Hp} {s : Shared} (ok : HOk P w H s.heap) {a : Addr} {xs : List V} (h : H a = some (.lst xs)) : ∃ its : List Value, Vals xs its ∧ s.heap.IsList a its.toArray := by
  obtain ⟨_, its, n, r, p⟩ := (show ObjOk P w H s.heap a (.lst xs) from ok a _ h)
  exact ⟨its, r, _, p, rfl, n, rfl⟩
structure Cmp (A : Around) (s : Shared) (u v : Value) (b : Bool) : Prop where
  eq : EqAt A s u v b
  rc : RcAt A s u v b
  ne : RcNeAt A s u v (!b)
theorem cmp_any {P : Program} {w : World} {H : Hp} {s : Shared} (ok : HOk P w H s.heap) : ∀ (n : Nat) (d1 d2 : Dat) (A : Around) {x y : V} {u v : Value}, d1.dep ≤ n → Has H x d1 → Has H y d2 → RelV x u → RelV y v → Room (n + 1) A → Cmp A s u v (d1.pq d2)
  | n, d1, d2, A, x, y, u, v, hn, hx, hy, ru, rv, hr => by
    have hu := hr.units0
    cases d1 with
    | non =>
      unfold Has at hx; subst hx; cases ru
      cases d2 with
      | non => unfold Has at hy; subst hy; cases rv; unfold Dat.pq; exact ⟨.same _, .none_none, .none_none⟩
      | bl b => unfold Has at hy; subst hy; cases rv; unfold Dat.pq; exact ⟨.none_bool _, .none_bool _, .none_bool _⟩
      | int b => unfold Has at hy; subst hy; obtain ⟨t', rfl⟩ := rv; unfold Dat.pq; exact ⟨.none_int _ _, .none_int _ _, .none_int _ _⟩
      | str b => unfold Has at hy; subst hy; obtain ⟨t', rfl⟩ := rv; unfold Dat.pq; exact ⟨.none_str _ _, .none_str _ _, .none_str _ _⟩
      | tup es => unfold Has at hy; obtain ⟨p, ys, rfl, hp, _⟩ := hy; cases rv; obtain ⟨its, r, pt⟩ := tup_at' ok hp; unfold Dat.pq; exact ⟨.none_tuple pt hu, .none_tuple pt hu, .none_tuple pt hu⟩
      | lst es => unfold Has at hy; obtain ⟨p, ys, rfl, hp, _⟩ := hy; cases rv; obtain ⟨its, r, pt⟩ := lst_at' ok hp; unfold Dat.pq; exact ⟨.none_list pt hu, .none_list pt hu, .none_list pt hu⟩
    | bl a =>
      unfold Has at hx; subst hx; cases ru
      cases d2 with
      | non => unfold Has at hy; subst hy; cases rv; unfold Dat.pq; exact ⟨.bool_none _, .bool_none _, .bool_none _⟩
      | bl b => unfold Has at hy; subst hy; cases rv; unfold Dat.pq; exact ⟨.bool_bool _ _, .bool_bool _ _, .bool_bool _ _⟩
      | int b => unfold Has at hy; subst hy; obtain ⟨t', rfl⟩ := rv; unfold Dat.pq; exact ⟨.bool_int _ _ _, .bool_int _ _ _, .bool_int _ _ _⟩
      | str b => unfold Has at hy; subst hy; obtain ⟨t', rfl⟩ := rv; unfold Dat.pq; exact ⟨.bool_str _ _ _, .bool_str _ _ _, .bool_str _ _ _⟩
      | tup es => unfold Has at hy; obtain ⟨p, ys, rfl, hp, _⟩ := hy; cases rv; obtain ⟨its, r, pt⟩ := tup_at' ok hp; unfold Dat.pq; exact ⟨.bool_tuple _ pt hu, .bool_tuple _ pt hu, .bool_tuple _ pt hu⟩
      | lst es => unfold Has at hy; obtain ⟨p, ys, rfl, hp, _⟩ := hy; cases rv; obtain ⟨its, r, pt⟩ := lst_at' ok hp; unfold Dat.pq; exact ⟨.bool_list _ pt hu, .bool_list _ pt hu, .bool_list _ pt hu⟩
    | int a =>
      unfold Has at hx; subst hx; obtain ⟨t, rfl⟩ := ru
      cases d2 with
      | non => unfold Has at hy; subst hy; cases rv; unfold Dat.pq; exact ⟨.int_none _ _, .int_none _ _, .int_none _ _⟩
      | bl b => unfold Has at hy; subst hy; cases rv; unfold Dat.pq; exact ⟨.int_bool _ _ _, .int_bool _ _ _, .int_bool _ _ _⟩
      | int b => unfold Has at hy; subst hy; obtain ⟨t', rfl⟩ := rv; unfold Dat.pq; exact ⟨.int_int _ _ _ _, .int_int _ _ _ _, .int_int _ _ _ _⟩
      | str b => unfold Has at hy; subst hy; obtain ⟨t', rfl⟩ := rv; unfold Dat.pq; exact ⟨.int_str _ _ _ _, .int_str _ _ _ _, .int_str _ _ _ _⟩
      | tup es => unfold Has at hy; obtain ⟨p, ys, rfl, hp, _⟩ := hy; cases rv; obtain ⟨its, r, pt⟩ := tup_at' ok hp; unfold Dat.pq; exact ⟨.int_tuple _ _ pt hu, .int_tuple _ _ pt hu, .int_tuple _ _ pt hu⟩
      | lst es => unfold Has at hy; obtain ⟨p, ys, rfl, hp, _⟩ := hy; cases rv; obtain ⟨its, r, pt⟩ := lst_at' ok hp; unfold Dat.pq; exact ⟨.int_list _ _ pt hu, .int_list _ _ pt hu, .int_list _ _ pt hu⟩
    | str a =>
      unfold Has at hx; subst hx; obtain ⟨t, rfl⟩ := ru
      cases d2 with
      | non => unfold Has at hy; subst hy; cases rv; unfold Dat.pq; exact ⟨.str_none _ _, .str_none _ _, .str_none _ _⟩
      | bl b => unfold Has at hy; subst hy; cases rv; unfold Dat.pq; exact ⟨.str_bool _ _ _, .str_bool _ _ _, .str_bool _ _ _⟩
      | int b => unfold Has at hy; subst hy; obtain ⟨t', rfl⟩ := rv; unfold Dat.pq; exact ⟨.str_int _ _ _ _, .str_int _ _ _ _, .str_int _ _ _ _⟩
      | str b => unfold Has at hy; subst hy; obtain ⟨t', rfl⟩ := rv; unfold Dat.pq; exact ⟨.str_str _ _ _ _, .str_str _ _ _ _, .str_str _ _ _ _⟩
      | tup es => unfold Has at hy; obtain ⟨p, ys, rfl, hp, _⟩ := hy; cases rv; obtain ⟨its, r, pt⟩ := tup_at' ok hp; unfold Dat.pq; exact ⟨.str_tuple _ _ pt hu, .str_tuple _ _ pt hu, .str_tuple _ _ pt hu⟩
      | lst es => unfold Has at hy; obtain ⟨p, ys, rfl, hp, _⟩ := hy; cases rv; obtain ⟨its, r, pt⟩ := lst_at' ok hp; unfold Dat.pq; exact ⟨.str_list _ _ pt hu, .str_list _ _ pt hu, .str_list _ _ pt hu⟩
    | tup ds =>
      unfold Has at hx
      obtain ⟨p, xs, rfl, hp, hxs⟩ := hx
      cases ru
      obtain ⟨its, r, pt⟩ := tup_at' ok hp
      cases d2 with
      | non => unfold Has at hy; subst hy; cases rv; unfold Dat.pq; exact ⟨.tuple_none pt hu, .tuple_none pt hu, .tuple_none pt hu⟩
      | bl b => unfold Has at hy; subst hy; cases rv; unfold Dat.pq; exact ⟨.tuple_bool _ pt hu, .tuple_bool _ pt hu, .tuple_bool _ pt hu⟩
      | int b => unfold Has at hy; subst hy; obtain ⟨t', rfl⟩ := rv; unfold Dat.pq; exact ⟨.tuple_int _ _ pt hu, .tuple_int _ _ pt hu, .tuple_int _ _ pt hu⟩
      | str b => unfold Has at hy; subst hy; obtain ⟨t', rfl⟩ := rv; unfold Dat.pq; exact ⟨.tuple_str _ _ pt hu, .tuple_str _ _ pt hu, .tuple_str _ _ pt hu⟩
      | lst es => unfold Has at hy; obtain ⟨q, ys, rfl, hq, _⟩ := hy; cases rv; obtain ⟨its2, r2, pt2⟩ := lst_at' ok hq; unfold Dat.pq; exact ⟨.tuple_list pt pt2 hu, .tuple_list pt pt2 hu, .tuple_list pt pt2 hu⟩
      | tup es =>
        unfold Has at hy
        obtain ⟨p2, ys, rfl, hp2, hys⟩ := hy
        cases rv
        obtain ⟨its2, r2, pt2⟩ := tup_at' ok hp2
        have l1 := hxs.length
        have l2 := hys.length
        have l3 := r.length
        have l4 := r2.length
        have dd : Dat.deps ds + 1 ≤ n := by unfold Dat.dep at hn; omega
        obtain ⟨m, rfl⟩ : ∃ m, n = m + 1 := ⟨n - 1, by omega⟩
        have it : ∀ j (h1 : j < its.toArray.size) (h2 : j < its2.toArray.size), EqAt A.in1 s its.toArray[j] its2.toArray[j] ((fun i => ((ds[i]?).getD .non).pq ((es[i]?).getD .non)) j) := by
          intro j h1 h2
          rw [List.size_toArray] at h1 h2
          have j1 : j < xs.length := by omega
          have j2 : j < ys.length := by omega
          obtain ⟨d, hd, hh⟩ := hxs.get (List.getElem?_eq_getElem j1)
          obtain ⟨d', hd', hh'⟩ := hys.get (List.getElem?_eq_getElem j2)
          obtain ⟨u1, hu1, ru1⟩ := r.get (List.getElem?_eq_getElem j1)
          obtain ⟨u2, hu2, ru2⟩ := r2.get (List.getElem?_eq_getElem j2)
          have i1 : its.toArray[j] = u1 := by have z := (List.getElem?_eq_some_iff.mp hu1).2; simpa using z
          have i2 : its2.toArray[j] = u2 := by have z := (List.getElem?_eq_some_iff.mp hu2).2; simpa using z
          dsimp only
          rw [i1, i2, hd, hd']
          have c1 := Dat.deps_get hd
          exact (cmp_any ok m d d' A.in1 (by omega) hh hh' ru1 ru2 hr.in1).eq
        have k1 : its.toArray.size = ds.length := by rw [List.size_toArray]; omega
        have k2 : its2.toArray.size = es.length := by rw [List.size_toArray]; omega
        have q := RcAt.tuples (A := A) pt pt2 hu it
        have qn := RcNeAt.tuples (A := A) pt pt2 hu it
        rw [k1, k2, pqs_min] at q qn
        have e0 : (Dat.tup ds).pq (Dat.tup es) = Dat.pqs ds es := by conv => lhs; unfold Dat.pq
        rw [e0]
        refine ⟨?_, q, qn⟩
        by_cases e : p = p2
        · subst e
          rw [hp] at hp2
          cases hp2
          rw [HasL.inj ds es hxs hys, Dat.pqs_self]
          exact EqAt.same _
        · exact EqAt.of_refs e q
    | lst ds =>
      unfold Has at hx
      obtain ⟨p, xs, rfl, hp, hxs⟩ := hx
      cases ru
      obtain ⟨its, r, pt⟩ := lst_at' ok hp
      cases d2 with
      | non => unfold Has at hy; subst hy; cases rv; unfold Dat.pq; exact ⟨.list_none pt hu, .list_none pt hu, .list_none pt hu⟩
      | bl b => unfold Has at hy; subst hy; cases rv; unfold Dat.pq; exact ⟨.list_bool _ pt hu, .list_bool _ pt hu, .list_bool _ pt hu⟩
      | int b => unfold Has at hy; subst hy; obtain ⟨t', rfl⟩ := rv; unfold Dat.pq; exact ⟨.list_int _ _ pt hu, .list_int _ _ pt hu, .list_int _ _ pt hu⟩
      | str b => unfold Has at hy; subst hy; obtain ⟨t', rfl⟩ := rv; unfold Dat.pq; exact ⟨.list_str _ _ pt hu, .list_str _ _ pt hu, .list_str _ _ pt hu⟩
      | tup es => unfold Has at hy; obtain ⟨q, ys, rfl, hq, _⟩ := hy; cases rv; obtain ⟨its2, r2, pt2⟩ := tup_at' ok hq; unfold Dat.pq; exact ⟨.list_tuple pt pt2 hu, .list_tuple pt pt2 hu, .list_tuple pt pt2 hu⟩
      | lst es =>
        unfold Has at hy
        obtain ⟨p2, ys, rfl, hp2, hys⟩ := hy
        cases rv
        obtain ⟨its2, r2, pt2⟩ := lst_at' ok hp2
        have l1 := hxs.length
        have l2 := hys.length
        have l3 := r.length
        have l4 := r2.length
        have dd : Dat.deps ds + 1 ≤ n := by unfold Dat.dep at hn; omega
        obtain ⟨m, rfl⟩ : ∃ m, n = m + 1 := ⟨n - 1, by omega⟩
        have it : ∀ j (h1 : j < its.toArray.size) (h2 : j < its2.toArray.size), EqAt A.in1 s its.toArray[j] its2.toArray[j] ((fun i => ((ds[i]?).getD .non).pq ((es[i]?).getD .non)) j) := by
          intro j h1 h2
          rw [List.size_toArray] at h1 h2
          have j1 : j < xs.length := by omega
          have j2 : j < ys.length := by omega
          obtain ⟨d, hd, hh⟩ := hxs.get (List.getElem?_eq_getElem j1)
          obtain ⟨d', hd', hh'⟩ := hys.get (List.getElem?_eq_getElem j2)
          obtain ⟨u1, hu1, ru1⟩ := r.get (List.getElem?_eq_getElem j1)
          obtain ⟨u2, hu2, ru2⟩ := r2.get (List.getElem?_eq_getElem j2)
          have i1 : its.toArray[j] = u1 := by have z := (List.getElem?_eq_some_iff.mp hu1).2; simpa using z
          have i2 : its2.toArray[j] = u2 := by have z := (List.getElem?_eq_some_iff.mp hu2).2; simpa using z
          dsimp only
          rw [i1, i2, hd, hd']
          have c1 := Dat.deps_get hd
          exact (cmp_any ok m d d' A.in1 (by omega) hh hh' ru1 ru2 hr.in1).eq
        have k1 : its.toArray.size = ds.length := by rw [List.size_toArray]; omega
        have k2 : its2.toArray.size = es.length := by rw [List.size_toArray]; omega
        have e0 : (Dat.lst ds).pq (Dat.lst es) = Dat.pqs ds es := by conv => lhs; unfold Dat.pq
        rw [e0]
        have qq : RcAt A s (.ref p) (.ref p2) (Dat.pqs ds es) ∧ RcNeAt A s (.ref p) (.ref p2) (!Dat.pqs ds es) := by
          by_cases e : ds.length = es.length
          · have q := RcAt.lists (A := A) pt pt2 (by omega) hu it
            have qn := RcNeAt.lists (A := A) pt pt2 (by omega) hu it
            rw [k1, pqs_len e] at q qn
            exact ⟨q, qn⟩
          · have z : (its.toArray.size != its2.toArray.size) = true := by rw [k1, k2]; simp [e]
            rw [pqs_ne e]
            exact ⟨RcAt.lists_lengths (A := A) pt pt2 z hu, RcNeAt.lists_lengths (A := A) pt pt2 z hu⟩
        refine ⟨?_, qq.1, qq.2⟩
        by_cases e : p = p2
        · subst e
          rw [hp] at hp2
          cases hp2
          rw [HasL.inj ds es hxs hys, Dat.pqs_self]
          exact EqAt.same _
        · exact EqAt.of_refs e qq.1
  termination_by n => n
section
variable {X : Cx}
def rEqD (k : Nat) : R2 := fun x y H Q => ∃ d e, Has H x d ∧ Has H y e ∧ d.dep ≤ k ∧ Q (.bl (d.pq e)) H
def rNeD (k : Nat) : R2 := fun x y H Q => ∃ d e, Has H x d ∧ Has H y e ∧ d.dep ≤ k ∧ Q (.bl (!d.pq e)) H
theorem op_eqD {k : Nat} (hr : Room (k + 1) X.A) : OpR X (compareOp .Eq) (rEqD k) := by
  intro pins s σ H x y v u Q I rx ry h
  obtain ⟨d, e, hd, he, hk, q⟩ := h
  exact (cmp_any I.hok k d e X.A hk hd he rx ry hr).rc _ _ _ _ ⟨.bl _, H, I, rfl, q⟩
theorem op_neD {k : Nat} (hr : Room (k + 1) X.A) : OpR X (compareOp .NotEq) (rNeD k) := by
  intro pins s σ H x y v u Q I rx ry h
  obtain ⟨d, e, hd, he, hk, q⟩ := h
  exact (cmp_any I.hok k d e X.A hk hd he rx ry hr).ne _ _ _ _ ⟨.bl _, H, I, rfl, q⟩
end
end L2
namespace L2
open PySem PySem.Spec PyProof.Rows
def Its (x : Str) : It := ⟨fun i _ => i < x.cps.size, fun i H v H' => H' = H ∧ ∃ c, x.cps[i]? = some c ∧ v = .str ⟨#[c]⟩, fun i _ => x.cps.size ≤ i⟩
def SIt (it : Addr) (x : Str) (i : Nat) (h : Heap) : Prop := ∃ ty t, (ty = "str_ascii_iterator" ∨ ty = "str_iterator") ∧ h.IsStrIter it ty x t i
theorem go_str {M : Model} {A : Around} {E : Value → Shared → Prop} {s : Shared} {tg : Expr} {it : Value} {y : Str} {t : Tok} {Q : Unit → Shared → Prop} (h : Q () s) : wpAny M A (letOwnedTupleGo tg it (.str y t)) Q E s := by
  unfold letOwnedTupleGo
  cases tg <;> cases it <;> exact wpAny_pure h
theorem turn_str {P : Program} {w : World} {K : PySem.W.Frag} {tg : Expr} (it : Addr) (x : Str) : Turn P w K tg (Its x) [it] it (SIt it x) where
  mem := by simp
  obj := fun i h ⟨ty, t, _, o, ho, _, hd⟩ b hb => by
    cases List.mem_singleton.mp hb
    exact ⟨o, ho, fun v z => by rw [hd] at z; cases z⟩
  keep := fun i h h' ⟨ty, t, hty, o, ho, r⟩ k => ⟨ty, t, hty, o, k it (by simp) o ho, r⟩
  item := by
    intro X hP hw hK hc i pins s σ H E I hf ⟨ty, t, hty, st⟩ hg
    subst hP hw hK
    obtain ⟨f0, f1, _, f3, f4, f5⟩ := hf it (by simp)
    have fin : ∀ (v : Value) (h' : Heap) (tk : Nat), SignAt x i v → SIt it x (i + 1) h' → (∀ b o, b ∉ [it] → s.heap.get? b = some o → h'.get? b = some o) →
        (∃ u, some v = some u ∧ wpAny (model X.prog X.w) X.A (letOwnedTupleGo tg (.ref it) u) (fun _ s2 => ∃ y H', Inv X pins σ H' s2 ∧ RelV y u ∧ (Its x).yld i H y H' ∧ SIt it x (i + 1) s2.heap ∧ ∀ b ∈ [it], H' b = none) E { s with heap := h', toks := tk }) := fun v h' tk hv st' kk => by
      obtain ⟨c, u, hx, rfl⟩ := hv
      exact ⟨_, rfl, go_str ⟨.str ⟨#[c]⟩, H, I.turned (fun b o hb e => kk b o (by simpa using hb) e) f0 f1 f3 f4 f5, ⟨_, rfl⟩, ⟨rfl, c, hx, rfl⟩, st', fun b hb => (hf b hb).1⟩⟩
    rcases hty with rfl | rfl
    · exact (Walks.strAscii (I.ok.hd hc) it x t).item i s _ _ hg st fun v h' tk hv st' kk => fin v h' tk hv ⟨_, t, .inl rfl, st'⟩ kk
    · exact (Walks.strWide (I.ok.hd hc) it x t).item i s _ _ hg st fun v h' tk hv st' kk => fin v h' tk hv ⟨_, t, .inr rfl, st'⟩ kk
  done := by
    intro X hP hw hK hc i pins s σ H E I hf ⟨ty, t, hty, st⟩ hg
    subst hP hw hK
    obtain ⟨f0, f1, _, f3, f4, f5⟩ := hf it (by simp)
    have none' : x.cps[i]? = none := by
      have z : x.cps.size ≤ i := hg
      simp [z]
    rcases hty with rfl | rfl
    · exact wpAny_pyNext_ascii_end (I.ok.hd hc) st none' fun h' eb => ⟨rfl, I.turned (t' := s.toks) (fun b o hb e => eb b o hb e) f0 f1 f3 f4 f5⟩
    · exact wpAny_pyNext_wide_end (I.ok.hd hc) st none' fun h' eb => ⟨rfl, I.turned (t' := s.toks) (fun b o hb e => eb b o hb e) f0 f1 f3 f4 f5⟩
  self := fun _ _ _ _ _ ⟨ty, t, hty, st⟩ h => by
    rcases hty with rfl | rfl
    · exact wpAny_pyIter_striter_ascii st h
    · exact wpAny_pyIter_striter_wide st h
section
variable {X : Cx} {tg : Expr}
def iStr (tl : TE) : TI := fun σ H R => tl σ H fun v H1 => ∃ x, v = .str x ∧ R (Its x) H1
theorem pi_str {l : Expr} {tl : TE} (hl : PE X l tl) : PI X tg l (iStr tl) := by
  intro pins s σ H R I h
  refine thn (hl pins s σ H _ I h) fun v s1 ⟨y, H1, I1, r1, x, e, q⟩ => ?_
  subst e
  obtain ⟨t, rfl⟩ := r1
  have fp : ∀ b ∈ [s1.heap.objs.size], FpOk X pins H1 b := fun b hb => by
    cases List.mem_singleton.mp hb
    exact I1.fpOk (Nat.le_refl _) (I1.hok.fresh (Nat.le_refl _))
  have go : ∀ (ty : String), (ty = "str_ascii_iterator" ∨ ty = "str_iterator") → PIE X pins σ tg R (.ref s1.heap.objs.size) { s1 with heap := s1.heap.push { cls := .type ty, data := .fields #[.str x t, .int 0 0] } } := fun ty hty =>
    ⟨_, [s1.heap.objs.size], _, _, H1, rfl, I1.kept (t' := s1.toks) (fun b o e => Heap.get?_push_of_some _ e), turn_str _ x, ⟨ty, t, hty, _, Heap.get?_push_size _ rfl, rfl, rfl⟩, fp, q⟩
  cases ha : x.cps.all (fun c => c < 128)
  · exact wpAny_pyIter_wide ha (go _ (.inr rfl))
  · exact wpAny_pyIter_ascii ha (go _ (.inl rfl))
end
theorem ObjOk.dk_ex {P : Program} {w : World} {H : Hp} {h : Heap} {d : Addr} {kvs : List (Key × V)} (x : ObjOk P w H h d (.dK kvs)) : ∃ u, h.get? d = some u := let ⟨_, _, _, _, o, _, _, e, _⟩ := x; ⟨o, e⟩
def epO (o : Obj) : Nat := match o.data with | .dict _ ep => ep | _ => 0
section
variable {X : Cx} {pins : List (Addr × Obj)} {σ : St} {H : Hp} {s : Shared} {d : Addr} {o : Obj}
theorem Inv.freeze {kvs : List (Key × V)} (I : Inv X pins σ H s) (hd : H d = some (.dK kvs)) (ho : s.heap.get? d = some o) : Inv X pins σ (upd H d (.frz o (.dK kvs))) s := by
  have ne : ∀ b u, H b = some u → (∀ l, u ≠ .dK l) → b ≠ d := fun b u e n z => by subst z; rw [hd] at e; cases e; exact n kvs rfl
  have nd : ∀ b, H b = none → b ≠ d := fun b e z => by subst z; rw [hd] at e; cases e
  have J := I.un (H' := upd H d (.frz o (.dK kvs))) (h' := s.heap) (t' := s.toks)
    ⟨fun b u q _ _ _ => q, fun b u q _ _ _ => ⟨u.slots, q⟩, fun b u q n _ => by rw [upd_ne (nd b n)]; exact n, fun b u q _ => ⟨u, q⟩, fun b xs q => by rw [upd_ne (ne b _ q (fun l => by intro z; cases z))]; exact q,
      fun b u v q => by rw [upd_ne (ne b _ q (fun l => by intro z; cases z))]; exact q, fun b ps q => ⟨#[], by rw [upd_ne (ne b _ q (fun l => by intro z; cases z)), q]; simp⟩⟩ ?_
  · exact J
  · intro a u e
    by_cases z : a = d
    · subst z
      rw [upd_same] at e
      cases e
      exact ⟨ho, I.hok a _ hd⟩
    · rw [upd_ne z] at e
      exact (I.hok a u e).stay (fun b v _ q => q) (fun b q => by rw [upd_ne (ne b _ q (fun l => by intro z; cases z))]; exact q) fun b xs q => by rw [upd_ne (ne b _ q (fun l => by intro z; cases z))]; exact q
theorem Inv.thaw {kvs : List (Key × V)} (I : Inv X pins σ H s) (hd : H d = some (.frz o (.dK kvs))) (h0 : ∀ o' u', X.H₀ d ≠ some (.frz o' u')) : Inv X pins σ (upd H d (.dK kvs)) s := by
  have ne : ∀ b u, H b = some u → (∀ o l, u ≠ .frz o l) → b ≠ d := fun b u e n z => by subst z; rw [hd] at e; cases e; exact n _ _ rfl
  have nd : ∀ b, H b = none → b ≠ d := fun b e z => by subst z; rw [hd] at e; cases e
  have B := I.base
  refine ⟨I.ok, I.os, I.bare, ⟨B.keep, B.slot, fun b u q n hx => ?_, B.there, fun b xs q => ?_, fun b u v q => ?_, fun b ps q => ?_⟩, I.loc, I.cell, ?_, fun x c e => ?_, fun p hp => ?_, fun a u e => ?_, I.len⟩
  · have z := B.free b u q n hx
    rw [upd_ne (nd b z)]; exact z
  · have z := B.tups b xs q
    rw [upd_ne (ne b _ z (fun _ _ => by intro z; cases z))]; exact z
  · have z := B.frzs b u v q
    rw [upd_ne (fun w => by subst w; exact h0 _ _ q)]; exact z
  · obtain ⟨more, z⟩ := B.tbls b ps q
    exact ⟨more, by rw [upd_ne (ne b _ z (fun _ _ => by intro z; cases z))]; exact z⟩
  · rw [upd_ne (nd _ I.free)]; exact I.free
  · have z := I.freeC x c e
    rw [upd_ne (nd _ z)]; exact z
  · obtain ⟨e, n, r⟩ := I.pin p hp
    exact ⟨e, by rw [upd_ne (nd _ n)]; exact n, r⟩
  · by_cases z : a = d
    · subst z
      rw [upd_same] at e
      cases e
      exact (show ObjOk X.prog X.w H s.heap a (.frz o (.dK kvs)) from I.hok a _ hd).2
    · rw [upd_ne z] at e
      exact (I.hok a u e).stay (fun b v _ q => q) (fun b q => by rw [upd_ne (ne b _ q (fun _ _ => by intro z; cases z))]; exact q) fun b xs q => by rw [upd_ne (ne b _ q (fun _ _ => by intro z; cases z))]; exact q
end
def Itd (d : Addr) (o : Obj) (kvs : List (Key × V)) : It :=
  ⟨fun i H => H d = some (.frz o (.dK kvs)) ∧ i < kvs.length, fun i H x H' => H' = H ∧ ∃ kv, kvs[i]? = some kv ∧ x = kV kv.1, fun i H => H d = some (.frz o (.dK kvs)) ∧ kvs.length = i⟩
theorem key_rel {k : Key} {v : Value} (h : keyIs k v = true) : RelV (kV k) v := by
  rcases keyIs_shape h with ⟨i, t, rfl, rfl⟩ | ⟨x, t, rfl, rfl⟩
  · exact ⟨t, rfl⟩
  · exact ⟨t, rfl⟩
theorem go_key {M : Model} {A : Around} {E : Value → Shared → Prop} {s : Shared} {tg : Expr} {it v : Value} {k : Key} {Q : Unit → Shared → Prop} (hk : keyIs k v = true) (h : Q () s) : wpAny M A (letOwnedTupleGo tg it v) Q E s := by
  rcases keyIs_shape hk with ⟨i, t, rfl, rfl⟩ | ⟨x, t, rfl, rfl⟩
  · unfold letOwnedTupleGo
    cases tg <;> cases it <;> exact wpAny_pure h
  · exact go_str h
section
variable {X : Cx} {pins : List (Addr × Obj)} {σ : St} {H : Hp} {s : Shared} {d : Addr} {o : Obj} {kvs : List (Key × V)}
theorem Inv.dict_at (I : Inv X pins σ H s) (hd : H d = some (.frz o (.dK kvs))) : ∃ vs, s.heap.DictAt (mixKind X.prog X.w) d vs (epO o) ∧ KV kvs vs ∧ (d == sysModules) = false := by
  obtain ⟨ho, _, hm, vs, rv, o', es, ep, ho', r1, r2, r3⟩ := (show ObjOk X.prog X.w H s.heap d (.frz o (.dK kvs)) from I.hok d _ hd)
  rw [ho] at ho'
  cases ho'
  have e : epO o = ep := by unfold epO; rw [r2]
  exact ⟨vs, ⟨o, es, ho, r1, by rw [e]; exact r2, r3⟩, rv, hm⟩
end
theorem kv_len {κ : Type} {kvs : List (κ × V)} {vs : List (κ × Value)} (r : KV kvs vs) : kvs.length = vs.length := Paired.length r
theorem kv_get {κ : Type} : ∀ {kvs : List (κ × V)} {vs : List (κ × Value)} (i : Nat) (k : κ) (u : Value), KV kvs vs → vs[i]? = some (k, u) → ∃ v, kvs[i]? = some (k, v)
  | _, _, i, k, u, .nil, e => by simp at e
  | _, _, 0, k, u, .cons (a := p) (b := q) r _, e => by
    have e' : some q = some (k, u) := e
    cases e'
    obtain ⟨k', v⟩ := p
    have z : k' = k := r.1
    subst z
    exact ⟨v, rfl⟩
  | _, _, i + 1, k, u, .cons _ t, e => kv_get i k u t e
theorem turn_dict {P : Program} {w : World} {K : PySem.W.Frag} {tg : Expr} (it d : Addr) (o : Obj) (kvs : List (Key × V)) : Turn P w K tg (Itd d o kvs) [it] it (fun i h => h.IsKeyIter it d i kvs.length (epO o)) where
  mem := by simp
  obj := fun i h ⟨ob, ho, _, hd⟩ b hb => by
    cases List.mem_singleton.mp hb
    exact ⟨ob, ho, fun v z => by rw [hd] at z; cases z⟩
  keep := fun i h h' ⟨ob, ho, r⟩ k => ⟨ob, k it (by simp) ob ho, r⟩
  item := by
    intro X hP hw hK hc i pins s σ H E I hf st hg
    subst hP hw hK
    obtain ⟨f0, f1, _, f3, f4, f5⟩ := hf it (by simp)
    obtain ⟨vs, hat, rv, _⟩ := I.dict_at hg.1
    have hl := kv_len rv
    rw [hl] at st
    have hi : i < vs.length := by have z : i < kvs.length := hg.2; omega
    have hx : vs[i]? = some (vs[i].1, vs[i].2) := List.getElem?_eq_getElem hi
    obtain ⟨v', hk'⟩ := kv_get i _ _ rv hx
    refine wpAny_pyNext_dict_item st hat hx fun key h' hkey st' sb => ?_
    rw [← hl] at st'
    exact ⟨key, rfl, go_key hkey ⟨_, H, I.turned (t' := s.toks) (fun b o hb e => (sb.2 b hb).trans e) f0 f1 f3 f4 f5, key_rel hkey, ⟨rfl, _, hk', rfl⟩, st', fun b hb => (hf b hb).1⟩⟩
  done := by
    intro X hP hw hK hc i pins s σ H E I hf st hg
    subst hP hw hK
    obtain ⟨f0, f1, _, f3, f4, f5⟩ := hf it (by simp)
    obtain ⟨vs, hat, rv, _⟩ := I.dict_at hg.1
    have hl := kv_len rv
    rw [hl] at st
    have hi : kvs.length = i := hg.2
    exact wpAny_pyNext_dict_end (I.ok.hd hc) st hat (List.getElem?_eq_none_iff.mpr (by omega)) fun h' eb => ⟨rfl, I.turned (t' := s.toks) (fun b o hb e => eb b o hb e) f0 f1 f3 f4 f5⟩
  self := fun _ _ _ _ _ st h => wpAny_pyIter_keyiter st h
section
variable {X : Cx} {tg : Expr}
def iDict (tl : TE) : TI := fun σ H R => tl σ H fun v H1 => ∃ d kvs, v = .ref d ∧ H1 d = some (.dK kvs) ∧ ∀ o, R (Itd d o kvs) (upd H1 d (.frz o (.dK kvs)))
theorem pi_dict {l : Expr} {tl : TE} (hl : PE X l tl) : PI X tg l (iDict tl) := by
  intro pins s σ H R I h
  refine thn (hl pins s σ H _ I h) fun v s1 ⟨y, H1, I1, r1, d, kvs, e, hd, q⟩ => ?_
  subst e
  cases r1
  obtain ⟨o, ho⟩ := (show ObjOk X.prog X.w H1 s1.heap d (.dK kvs) from I1.hok d _ hd).dk_ex
  have J := I1.freeze hd ho
  obtain ⟨vs, hat, rv, hm⟩ := J.dict_at upd_same
  refine wpAny_pyIter_dict hm hat ?_
  rw [← kv_len rv]
  refine ⟨_, [s1.heap.objs.size], _, _, _, rfl, J.kept (t' := s1.toks) (fun b o e => Heap.get?_push_of_some _ e), turn_dict _ d o kvs, ⟨_, Heap.get?_push_size _ rfl, rfl, rfl⟩, fun b hb => ?_, q o⟩
  cases List.mem_singleton.mp hb
  exact J.fpOk (Nat.le_refl _) (J.hok.fresh (Nat.le_refl _))
def Thaw (H₀ H H' : Hp) : Prop := H' = H ∨ ∃ d o kvs, H d = some (.frz o (.dK kvs)) ∧ (∀ o' u', H₀ d ≠ some (.frz o' u')) ∧ H' = upd H d (.dK kvs)
theorem Inv.thawed {pins : List (Addr × Obj)} {σ : St} {H H' : Hp} {s : Shared} (I : Inv X pins σ H s) (h : Thaw X.H₀ H H') : Inv X pins σ H' s := by
  rcases h with rfl | ⟨d, o, kvs, hd, h0, rfl⟩
  · exact I
  · exact I.thaw hd h0
def tThE (H₀ : Hp) (t : TE) : TE := fun σ H Q => t σ H fun v H1 => ∃ H2, Thaw H₀ H1 H2 ∧ Q v H2
theorem pe_thaw {e : Expr} {t : TE} (h : PE X e t) : PE X e (tThE X.H₀ t) := by
  intro pins s σ H Q I q
  refine thn (h pins s σ H _ I q) fun u s1 ⟨v, H1, I1, r1, H2, th, q2⟩ => ⟨v, H2, I1.thawed th, r1, q2⟩
end
end L2
namespace PySem.W
open PySem PyProof.Rows
section
variable {prog : Program} {w : World} {A : Around} {E : Value → Shared → Prop} {s : Shared} {K : Frag} {x D : Addr} {ox : Obj} {odo : Option Obj}
theorem findObj_any {name : Str} {a g : Value} (hc : (clsIn K D).isSome = true) (ha : findIn K (.ref D) name = some (some a)) (hn : specialIn K a "__get__" = some (some g)) (htk : takesIn K a = some true) : findObj K D odo name = some (.bind g a) := by
  obtain ⟨cd, e⟩ := Option.isSome_iff_exists.mp hc
  simp only [findObj, e, ha, Option.bind_some, hn, htk]
structure ExcC (K : Frag) (D : Addr) : Prop where
  cls : (clsIn K D).isSome = true
  ga : findIn K (.ref D) "__getattribute__" = some (some (.builtin "BaseException.__getattribute__"))
  gn : findIn K (.ref D) "__getattr__" = some none
  base : mroIn K D (.type "BaseException") = some true
  obj : mroIn K D (.type "object") = some true
  ha : findIn K (.ref D) "__class__" = some (some (.builtin "object.__class__"))
  hn : specialIn K (.builtin "object.__class__") "__get__" = some (some (.builtin "getset_descriptor.__get__"))
  htk : takesIn K (.builtin "object.__class__") = some true
theorem cls_at {h : Heap} (X : K.In h) (hc : (clsIn K D).isSome = true) : ∃ c d cd sl, h.get? D = some ⟨c, d, .cls cd, sl⟩ := by
  unfold clsIn at hc
  split at hc
  case h_1 c d cd sl ho => exact ⟨c, d, cd, sl, X D _ ho⟩
  case h_2 => cases hc
theorem cls_looks {M : Model} {h : Heap} (X : K.In h) (hc : (clsIn K D).isSome = true) : Looks M h (isType (.ref D)) true := by
  obtain ⟨c, d, cd, sl, ho⟩ := cls_at X hc
  intro A' Q' E' s' k q
  simp only [isType, loadHead]
  exact wpAny_bind (wpAny_loadPart (k D _ ho) (wpAny_pure q))
theorem ga_kind : builtinKind "BaseException.__getattribute__" = some .slot := by decide +kernel
theorem ga_split : splitId "BaseException.__getattribute__" = some ("BaseException", "__getattribute__") := by decide +kernel
theorem ga_not : (Value.builtin "BaseException.__getattribute__" == .builtin "object.__getattribute__") = false := by decide +kernel
theorem exc_check {M : Model} {nameV : Value} {Q : Unit → Shared → Prop} (C : ExcC K D) (X : K.In s.heap) (I : InstAt s.heap x ox D odo) (hq : Q () s) :
    wpAny M A (checkBuiltinCall "BaseException.__getattribute__" ⟨[.ref x, nameV], []⟩) Q E s := by
  have hs := looks_mroIn (M := M) X C.base
  have hn := F.args_bexc_ga (.ref x) nameV
  have ht := I.type (M := M)
  unfold checkBuiltinCall
  simp only [ga_kind, ga_split, isInstance]
  obtain ⟨h, g, d, t, os⟩ := s
  refine wpAny_bind (wpAny_bind (ht.at (hs.at ?_)))
  repeat any_goals first | exact hn | exact hq | wp_step
theorem exc_class {Q : Option Value → Shared → Prop} (C : ExcC K D) (X : K.In s.heap) (I : InstAt s.heap x ox D odo) (h : Q (some (.ref D)) { s with toks := s.toks + 1 }) :
    wpAny (model prog w) A (getAttr? (.ref x) "__class__") Q E s := by
  obtain ⟨hh, g, d, t, os⟩ := s
  have ht := I.type (M := model prog w)
  have l1 := looks_findIn (M := model prog w) X C.ga
  have l2 := looks_findIn (M := model prog w) X C.gn
  have l3 := looks_find (M := model prog w) X I (findObj_any C.cls C.ha C.hn C.htk)
  have sl := F.attr_ValueError.ga
  have bs := sl.bind (.ref x)
  simp only [getAttr?, getAttrBy?, getAttrBy]
  refine wpAny_bind (wpAny_mkText (wpAny_bind (wpAny_attempt (wpAny_holding (wpAny_bind (ht.at ?_))))))
  refine wpAny_bind (l1.at ?_)
  simp only [ga_not, Bool.and_false, Bool.false_eq_true, if_false, getAttrByItsOwn, hookBefore]
  refine wpAny_bind (l2.at (wpAny_bind (wpAny_attempt (wpAny_holding ?_))))
  simp only [callGetattribute, boundAndCalled, Bool.false_and, Bool.false_eq_true, if_false]
  rw [bs]
  refine wpAny_bind (wpAny_pure (wpAny_call (codeAny_call_builtin sl.plain F.entry_bexc_ga (exc_check C X I ?_))))
  simp only [Builtin.«object.__getattribute__»]
  repeat (first | (with_reducible refine wpAny_call (class_get (s := ⟨hh, g, d, t + 1, os⟩) X I C.obj ?_)) | lk)
  exact h
theorem cls_no_tuple {h : Heap} {tp : Addr} {dd : Option Addr} {its : List Value} {n : Nat} {sl : Array (Option Value)} (X : K.In h) (hc : (clsIn K D).isSome = true) (htp : h.get? tp = some ⟨.type "tuple", dd, .seq its.toArray n, sl⟩) : (Value.ref D == .ref tp) = false := by
  obtain ⟨c, d, cd, sl', ho⟩ := cls_at X hc
  cases hb : (Value.ref D == Value.ref tp) with
  | false => rfl
  | true => cases beq_iff_eq.mp hb; cases ho.symm.trans htp
theorem kitx_exc (C : ExcC K D) : KitX K (.ref x) (.ref D) (fun h => ∃ ox odo, InstAt h x ox D odo) :=
  ⟨fun _ _ _ ⟨_, _, I⟩ => I.type, fun _ _ X _ => cls_looks X C.cls, fun _ _ _ _ _ _ X ht => cls_no_tuple X C.cls ht, fun X ⟨_, _, I⟩ k => exc_class C X I k⟩
theorem exc_matches {M : Model} {N : Addr} {b : Bool} {Q : Bool → Shared → Prop} (X : K.In s.heap) (I : InstAt s.heap x ox D odo)
    (hN : (clsIn K N).isSome = true) (hT : typeIn K (.ref N) = some (.type "type")) (hB : mroIn K N (.type "BaseException") = some true) (hS : subIn K (.ref D) (.ref N) = some b) (hq : Q b s) :
    wpAny M A (excMatches (.ref x) (.ref N)) Q E s := by
  have ht := I.type (M := M)
  have l1 := looks_typeIn (M := M) X hT
  have l2 := looks_mroIn (M := M) X hB
  have l3 := looks_subIn (M := M) X hS
  have l4 := cls_looks (M := M) X hN
  have nt := tc_notTuple
  obtain ⟨h, g, d, t, os⟩ := s
  simp only [excMatches, isInstance, isExcClass]
  repeat any_goals first | assumption | lk
  cases b <;> (repeat any_goals first | assumption | lk)
end
end PySem.W
namespace L2
open PySem PySem.Spec PyProof.Rows
def Trc (old : Heap) (H : Hp) (h : Heap) (ea : Addr) (vs : Array Value) : Prop :=
  vs[1]? = some .none ∨ ∃ T oT ts, vs[1]? = some (.ref T) ∧ T ≠ ea ∧ old.get? T = none ∧ H T = none ∧ h.get? T = some oT ∧ oT.data = .fields ts ∧ ts[3]? = some .none
structure Fly (old : Heap) (H : Hp) (h : Heap) (ea C : Addr) (dx : Option Addr) : Prop where
  new : old.get? ea = none
  free : H ea = none
  obj : ∃ oe vs, h.get? ea = some oe ∧ oe.cls = .ref C ∧ oe.dict = dx ∧ oe.data = .fields vs ∧ 1 < vs.size ∧ Trc old H h ea vs
section
variable {M : Model} {A : Around} {s : Shared} {E : Value → Shared → Prop}
def tbO (head : Value) (L : Addr) (pl : List Value) : Obj := { cls := .type "traceback", dict := none, data := .fields ([head, .ref L, .none, rawInt L, .none] ++ (if pl.isEmpty then List.replicate 6 Value.none else pl)).toArray }
def tbH (g : Heap) (head : Value) (L ea : Addr) (pl : List Value) : Heap :=
  ((g.push (tbO head L pl)).update ea (Obj.mapFields (·.setIfInBounds 1 (.ref g.objs.size)))).update g.objs.size (Obj.mapFields (·.setIfInBounds 3 ((none : Option Addr).elim Value.none fun f => rawInt f)))
section
variable {g : Heap} {head : Value} {L ea : Addr} {pl : List Value} {oe : Obj} {vs : Array Value}
theorem tb_other {b : Addr} {o : Obj} (hb : b ≠ ea) (q : g.get? b = some o) : (tbH g head L ea pl).get? b = some o :=
  (Heap.get?_update_other _ _ (Nat.ne_of_gt (Heap.lt_size q))).trans ((Heap.get?_update_other _ _ (Ne.symm hb)).trans (Heap.get?_push_of_some _ q))
theorem tb_exc0 (q : g.get? ea = some oe) (hd : oe.data = .fields vs) : ((g.push (tbO head L pl)).update ea (Obj.mapFields (·.setIfInBounds 1 (.ref g.objs.size)))).get? ea = some (oe.mapFields (·.setIfInBounds 1 (.ref g.objs.size))) :=
  Heap.get?_update_self _ (Heap.get?_push_of_some _ q) (Obj.isFreed_of_fields (Obj.data_mapFields hd _))
theorem tb_exc (q : g.get? ea = some oe) (hd : oe.data = .fields vs) : (tbH g head L ea pl).get? ea = some (oe.mapFields (·.setIfInBounds 1 (.ref g.objs.size))) :=
  (Heap.get?_update_other _ _ (Nat.ne_of_gt (Heap.lt_size q))).trans (tb_exc0 q hd)
theorem tb_self0 (q : g.get? ea = some oe) : ((g.push (tbO head L pl)).update ea (Obj.mapFields (·.setIfInBounds 1 (.ref g.objs.size)))).get? g.objs.size = some (tbO head L pl) :=
  (Heap.get?_update_other _ _ (Nat.ne_of_lt (Heap.lt_size q))).trans (Heap.get?_push_size g rfl)
theorem tb_self (q : g.get? ea = some oe) : ∃ o ts, (tbH g head L ea pl).get? g.objs.size = some o ∧ o.data = .fields ts ∧ ts[3]? = some Value.none :=
  ⟨_, _, Heap.get?_update_self _ (tb_self0 q) (Obj.isFreed_of_fields (Obj.data_mapFields rfl _)), Obj.data_mapFields rfl _, by
    rw [Array.getElem?_setIfInBounds_self_of_lt (by simp)]; rfl⟩
end
theorem entry_x {base : Heap} {env : Env} {outer : List Env} {L ea : Addr} {oe : Obj} {vs : Array Value} {head : Value} {hadNext : Bool} {Q : Unit → Shared → Prop}
    (fr : A.frames = some (env :: outer)) (ff : s.heap.FunFrames base (env :: outer)) (fl : env.frame = some L)
    (he : s.heap.get? ea = some oe) (hd : oe.data = .fields vs) (hsz : 1 < vs.size)
    (h : ∀ h' T oT ts, s.heap.get? T = none → (∀ b o, b ≠ ea → b ∉ frs (env :: outer) → s.heap.get? b = some o → h'.get? b = some o) → (∀ b o, b ≠ ea → s.heap.get? b = some o → ∃ sl, h'.get? b = some { o with slots := sl }) →
      h'.get? ea = some (oe.mapFields (·.setIfInBounds 1 (.ref T))) → h'.get? T = some oT → oT.data = .fields ts → ts[3]? = some .none → Q () { s with heap := h' }) :
    wpAny M A (do let a ← frameOf env; let pl ← entryPlaceOf L hadNext; let b ← EntryCells.newEntry head a .none (rawInt L) .none pl; setField (.ref ea) 1 b) (fun _ s' => wpAny M A (setFlight (.ref ea) none) Q E s') E s := by
  have apart : ea ∉ frs (env :: outer) := fun z => (ff.mem z).2.elim fun o q => q.2 vs (by have e := he.symm.trans q.1; cases e; exact hd)
  refine wpAny_bind (wpAny_frameOf_fun fr ff fl fun g hg => wpAny_bind (wpAny_entryPlaceOf fun pl hp => ?_))
  have hea : g.get? ea = some oe := (hg.2.1 ea apart).trans he
  obtain ⟨oT, ts, q1, q2, q3⟩ := tb_self (head := head) (L := L) (pl := pl) hea
  simp only [EntryCells.newEntry, newFields]
  refine wpAny_bind (wpAny_newObj_type (wpAny_setField (Heap.get?_push_of_some _ hea) hd hsz ?_) (hp.sizeOk5 _ _ _ _ _))
  simp only [setFlight]
  refine wpAny_bind (wpAny_field (tb_exc0 (head := head) (L := L) (pl := pl) hea hd) (Obj.data_mapFields hd _) (x := .ref g.objs.size) (by simp [hsz]) ?_)
  rw [if_pos (by simp)]
  refine wpAny_setField (tb_self0 hea) rfl (by simp) ?_
  refine h (tbH g head L ea pl) g.objs.size oT ts (Heap.get?_none_of_le (Nat.le_of_eq hg.1.symm)) (fun b o hb nf q => tb_other hb ((hg.2.1 b nf).trans q)) (fun b o hb q => ?_) (tb_exc hea hd) q1 q2 q3
  obtain ⟨sl, q'⟩ := hg.2.2 b o q
  exact ⟨sl, tb_other hb q'⟩
theorem note_x {base : Heap} {env : Env} {outer : List Env} {L ea C : Addr} {dx : Option Addr} {old : Heap} {H : Hp} {Q : Unit → Shared → Prop}
    (hfr : A.frames = some (env :: outer)) (hl : s.heap.FunFrames base (env :: outer)) (hf : env.frame = some L) (F : Fly old H s.heap ea C dx) (hT : ∀ b o, old.get? b = some o → ∃ u, s.heap.get? b = some u) (hH : ∀ b o, H b = some o → ∃ u, s.heap.get? b = some u)
    (h : ∀ h', (∀ b o, (H b ≠ none ∨ ∃ u, old.get? b = some u) → b ∉ frs (env :: outer) → s.heap.get? b = some o → h'.get? b = some o) →
      (∀ b o, (∀ vs, o.data ≠ .fields vs) → s.heap.get? b = some o → ∃ sl, h'.get? b = some { o with slots := sl }) → Fly old H h' ea C dx → Q () { s with heap := h' }) :
    wpAny M A (noteFrame (.ref ea) env) (fun _ s₂ => wpAny M A (setFlight (.ref ea) none) Q E s₂) E s := by
  obtain ⟨hnew, hfree, oe, vs, he, hc, hdx, hd, hsz, ht⟩ := F
  unfold noteFrame
  simp only [hf]
  have done : ∀ h1 : Heap, (∀ b o, b ≠ ea → (H b ≠ none ∨ (∃ u, old.get? b = some u) ∨ ∀ vs, o.data ≠ .fields vs) → s.heap.get? b = some o → h1.get? b = some o) → (∀ b, (∃ u, s.heap.get? b = some u) → ∃ u, h1.get? b = some u) →
      ∀ h' T oT ts, h1.get? T = none → (∀ b o, b ≠ ea → b ∉ frs (env :: outer) → h1.get? b = some o → h'.get? b = some o) → (∀ b o, b ≠ ea → h1.get? b = some o → ∃ sl, h'.get? b = some { o with slots := sl }) →
      h'.get? ea = some (oe.mapFields (·.setIfInBounds 1 (.ref T))) → h'.get? T = some oT → oT.data = .fields ts → ts[3]? = some .none → Q () { s with heap := h' } := by
    intro h1 k1 k2 h' T oT ts hTn hk hsl hea hTo hTd hT3
    have dead : ∀ b, h1.get? b = none → s.heap.get? b = none := fun b hb => by
      cases q : s.heap.get? b with
      | none => rfl
      | some u => obtain ⟨v, hv⟩ := k2 b ⟨u, q⟩; rw [hb] at hv; cases hv
    have hTs := dead T hTn
    refine h h' (fun b o hb hnf hq => ?_) (fun b o hnd hq => ?_) ⟨hnew, hfree, _, _, hea, ?_, ?_, Obj.data_mapFields hd _, by simpa using hsz, .inr ⟨T, oT, ts, by simp [hsz], ?_, ?_, ?_, hTo, hTd, hT3⟩⟩
    · have hne : b ≠ ea := by
        rintro rfl
        rcases hb with z | ⟨u, z⟩
        · exact z hfree
        · rw [hnew] at z; cases z
      exact hk b o hne hnf (k1 b o hne (by rcases hb with z | z; exact .inl z; exact .inr (.inl z)) hq)
    · have hne : b ≠ ea := by
        rintro rfl
        rw [he] at hq; cases hq; exact hnd _ hd
      exact hsl b o hne (k1 b o hne (.inr (.inr hnd)) hq)
    · rw [Obj.cls_mapFields]; exact hc
    · rw [← hdx]; obtain ⟨c, d, dt, sl⟩ := oe; cases dt <;> rfl
    · rintro rfl; rw [he] at hTs; cases hTs
    · cases q : old.get? T with
      | none => rfl
      | some u => obtain ⟨v, hv⟩ := hT T u q; rw [hTs] at hv; cases hv
    · cases q : H T with
      | none => rfl
      | some u => obtain ⟨v, hv⟩ := hH T u q; rw [hTs] at hv; cases hv
  rcases ht with h1 | ⟨T, oT, ts, h1, hTe, hnT, hfT, hTo, hdT, h3⟩
  · refine wpAny_bind (wpAny_field he hd h1 ?_)
    rw [if_neg (by decide)]
    exact entry_x hfr hl hf he hd hsz (done s.heap (fun b o _ _ q => q) (fun b q => q))
  · refine wpAny_bind (wpAny_field he hd h1 ?_)
    rw [if_pos (by simp)]
    refine wpAny_bind (wpAny_field hTo hdT h3 ?_)
    rw [if_neg (by simp [rawInt])]
    have lt3 := (Array.getElem?_eq_some_iff.mp h3).1
    have other : ∀ b, b ≠ T → (s.heap.update T (Obj.mapFields fun a => a.setIfInBounds 3 .none)).get? b = s.heap.get? b := fun b z => Heap.get?_update_other _ _ z.symm
    refine wpAny_bind (wpAny_setField hTo hdT lt3 ?_)
    refine entry_x hfr (hl.of_keeps fun b o hb hnf => ⟨o, (other b fun q => by rw [q, hTo] at hb; cases hb; exact hnf _ hdT).trans hb, rfl⟩) hf ((other ea (Ne.symm hTe)).trans he) hd hsz
      (done _ (fun b o hne hb hq => ?_) (fun b hb => ?_))
    · refine (other b ?_).trans hq
      rintro rfl
      rcases hb with z | ⟨u, z⟩ | z
      · exact z hfT
      · rw [hnT] at z; cases z
      · rw [hTo] at hq; cases hq; exact z _ hdT
    · by_cases e : b = T
      · subst e
        exact ⟨_, Heap.get?_update_self _ hTo (Obj.isFreed_of_fields (Obj.data_mapFields hdT _))⟩
      · obtain ⟨u, hu⟩ := hb
        exact ⟨u, (other b e).trans hu⟩
end
end L2
namespace L2
open PySem PySem.Spec PyProof.Rows
section
variable {P : Program} {w : World} {H : Hp} {h : Heap} {a : Addr} {o : HO}
theorem ObjOk.ex (x : ObjOk P w H h a o) : ∃ u, h.get? a = some u := by
  cases o with
  | lst xs => obtain ⟨_, _, _, _, e⟩ := x; exact ⟨_, e⟩
  | tup xs => obtain ⟨_, _, _, o, e, _⟩ := x; exact ⟨_, e⟩
  | dK kvs => obtain ⟨_, _, _, _, o, _, _, e, _⟩ := x; exact ⟨_, e⟩
  | dT kvs => obtain ⟨_, _, _, _, o, _, _, e, _⟩ := x; exact ⟨_, e⟩
  | set S n => obtain ⟨o, _, _, _, e, _⟩ := x; exact ⟨_, e⟩
  | ins C dx fs => obtain ⟨_, _, _, e, _⟩ := x; exact ⟨_, e⟩
  | own y => exact x
  | xd fs => obtain ⟨_, ⟨_, _, _, e, _⟩, _⟩ := x; exact ⟨_, e⟩
  | rng lo hi => obtain ⟨_, _, _, e⟩ := x; exact ⟨_, e⟩
  | frz ob u => obtain ⟨e, _⟩ := x; exact ⟨_, e⟩
  | tbl ps => exact ⟨_, x⟩
  | met f y => exact ⟨_, x⟩
  | ext φ => obtain ⟨_, e, _⟩ := x; exact e
end
def CX1 (P : Program) (w : World) : CXT := fun outer H s E e s' => ∃ ea C dx H', e = .ref ea ∧ s'.os = s.os ∧ AllBare s'.gens ∧ Un (frs outer) [] H H' s.heap s'.heap ∧ HOk P w H' s'.heap ∧ Fly s.heap H' s'.heap ea C dx ∧ E (.ref C) dx H'
def Lets (X : Cx) (E : XK) : Prop := ∀ (pins : List (Addr × Obj)) (σ : St) (H : Hp) (s : Shared) (ea C : Addr) (dx : Option Addr), Inv X pins σ H s → Fly X.s₀.heap H s.heap ea C dx → E (.ref C) dx H → X.xe (.ref ea) s
theorem Fly.older {old old' : Heap} {H : Hp} {h : Heap} {ea C : Addr} {dx : Option Addr} (F : Fly old H h ea C dx) (k : ∀ b u, old'.get? b = some u → ∃ v, old.get? b = some v) : Fly old' H h ea C dx := by
  have dead : ∀ b, old.get? b = none → old'.get? b = none := fun b hb => by
    cases q : old'.get? b with
    | none => rfl
    | some u => obtain ⟨v, hv⟩ := k b u q; rw [hb] at hv; cases hv
  obtain ⟨hnew, hfree, oe, vs, he, hc, hdx, hd, hsz, ht⟩ := F
  refine ⟨dead _ hnew, hfree, oe, vs, he, hc, hdx, hd, hsz, ?_⟩
  rcases ht with h1 | ⟨T, oT, ts, h1, hTe, hnT, r⟩
  · exact .inl h1
  · exact .inr ⟨T, oT, ts, h1, hTe, dead _ hnT, r⟩
section
variable {P : Program} {w : World} {K : PySem.W.Frag} {mg : Str → Option Value} {base : Heap} {N : List Str} {qual : Str} {scope : Scope} {f : Addr} {cd : Value} {A : Around} {outer : List Env} {s₀ : Shared} {H₀ : Hp} {E : XK}
theorem lets_cx : Lets (cxOf (CX1 P w) P w K mg base N qual scope f cd A outer s₀ H₀ E) E := by
  intro pins σ H s ea C dx I F q
  have there : ∀ b u, s₀.heap.get? b = some u → ∃ v, s.heap.get? b = some v := fun b u e => I.base.there b u e (by simp [cxOf])
  show wpAny _ _ (leaving _ _) _ _ s
  unfold leaving
  refine wpAny_bind (note_x (base := base) (outer := outer) I.ok.frames I.stack rfl F there (fun b o e => (I.hok b o e).ex) fun h' hk hsl F' => ?_)
  have fr : ∀ b ∈ frs (envOfC qual scope s₀.heap.objs.size f cd :: outer), H b = none := I.stkFree
  have nofr : ∀ b o, H b = some o → b ∉ frs (envOfC qual scope s₀.heap.objs.size f cd :: outer) := fun b o e z => by rw [fr b z] at e; cases e
  have tk : ∀ b o u, H b = some o → s.heap.get? b = some u → h'.get? b = some u := fun b o u e q => hk b u (.inl (by rw [e]; simp)) (nofr b o e) q
  have B := I.base
  refine ⟨ea, C, dx, H, rfl, I.os, I.bare, ⟨fun b o e n hb _ => ?_, fun b o e n hb _ => ?_, fun b o e n _ => B.free b o e n (by simp [cxOf]), fun b o e _ => ?_, B.tups, B.frzs, B.tbls⟩, fun a o e => ?_, F', q⟩
  · refine hk b o (.inr ⟨o, e⟩) ?_ (B.keep b o e n hb (by simp [cxOf]))
    intro z
    have z' : b ∈ (s₀.heap.objs.size :: frs outer) := z
    rcases List.mem_cons.mp z' with rfl | z'
    · exact (Nat.lt_irrefl _ (Heap.lt_size e)).elim
    · exact hb z'
  · obtain ⟨sl, e1⟩ := B.slot b o e n hb (by simp [cxOf])
    have nd : ∀ vs, o.data ≠ .fields vs := fun vs z => by
      obtain ⟨_, o', ho', hd'⟩ := I.stack.mem (b := b) (by show b ∈ (s₀.heap.objs.size :: frs outer); exact List.mem_cons_of_mem _ hb)
      rw [e1] at ho'; cases ho'; exact hd' vs z
    obtain ⟨sl2, e2⟩ := hsl b { o with slots := sl } nd e1
    exact ⟨sl2, e2⟩
  · by_cases hb : b ∈ frs (envOfC qual scope s₀.heap.objs.size f cd :: outer)
    · obtain ⟨_, o', ho', hd'⟩ := I.stack.mem hb
      obtain ⟨sl, e2⟩ := hsl b o' hd' ho'
      exact ⟨_, e2⟩
    · obtain ⟨o', e1⟩ := there b o e
      exact ⟨o', hk b o' (.inr ⟨o, e⟩) hb e1⟩
  · refine (I.hok a o e).stay (fun b u hb q => ?_) (fun _ q => q) fun _ _ q => q
    rcases hb with rfl | hb
    · exact tk _ _ _ e q
    · exact tk _ _ _ hb q
end
section
variable {X : Cx} {E : XK}
theorem Lets.passes (h : Lets X E) (hex : X.ex = []) : Passes (CX1 X.prog X.w) X E := by
  intro pins σ H s e s' I hx
  obtain ⟨ea, C, dx, H', rfl, os, bare, un, hok, F, q⟩ := hx
  obtain ⟨hh, g, d, t, os'⟩ := s'
  obtain rfl : os' = s.os := os
  exact h pins σ H' _ ea C dx (I.call (h' := hh) (g' := g) (d' := d) (t' := t) (ch := []) un hok bare (fun b z => absurd z (by simp))) (F.older fun b u q => I.base.there b u q (by rw [hex]; simp)) q
end
end L2
namespace L2
open PySem PySem.Spec PyProof.Rows
abbrev vErr : List Value := [.type "ValueError", .type "Exception", .type "BaseException", .type "object"]
abbrev IsX (K : PySem.W.Frag) (C : Addr) : Prop := PySem.W.excIn K C vErr "ValueError.__new__" = true
theorem cls_obj {K : PySem.W.Frag} {h : Heap} {C : Addr} (X : K.In h) (q : IsX K C) :
    ∃ tl N nm qn bs hd sn sub ab col dd k0 k1 k2 k3 k5 mN, h.get? C = some (excClassObj nm qn C N bs tl hd sn sub ab col dd k0 k1 k2 k3 k5 "ValueError.__new__") ∧ h.Ns N mN ∧ mN "__init__" = none ∧ OwnTail h vErr tl := by
  unfold IsX PySem.W.excIn at q
  split at q
  case h_1 dd cd sl ho =>
    split at q
    case h_1 C2 tl k0 k1 k2 k3 n k5 hm hs =>
      rw [Bool.and_eq_true, Bool.and_eq_true, Bool.and_eq_true, Bool.and_eq_true, Bool.and_eq_true] at q
      obtain ⟨⟨⟨⟨⟨q1, q2⟩, q3⟩, q4⟩, q5⟩, q6⟩ := q
      have e1 : C2 = C := beq_iff_eq.mp q1
      have e2 : n = "ValueError.__new__" := beq_iff_eq.mp q2
      subst e1 e2
      cases cd with
      | mk nm bs mro ns qn hd sn sub ab col del =>
        have e3 : mro = .ref C2 :: tl := hm
        have e4 : del = false := by cases del with
          | false => rfl
          | true => cases q3
        subst e3 e4
        have e5 : sl = #[k0, k1, k2, k3, some (.builtin "ValueError.__new__"), k5] := by
          cases sl with
          | mk l => exact congrArg Array.mk hs
        subst e5
        exact ⟨tl, ns, nm, qn, bs, hd, sn, sub, ab, col, dd, k0, k1, k2, k3, k5, h.nsMap ns, X _ _ ho, .of_isNs (PySem.W.isNs_of_in X q5), PySem.W.nsMap_none_of_in X q5 (beq_iff_eq.mp q6), PySem.W.tail_of_in X q4⟩
    case h_2 => cases q
  case h_2 => cases q
section
variable {X : Cx} {E : XK} {x : Str} {C : Addr} {e : Expr} {es : List Expr} {t : TA} {np cpos pos : Pos}
def tRaise (C : Addr) (E : XK) (t : TA) : TS := fun _ σ H => t σ H fun vs H1 => vs.length ≤ sizeLine ∧ E (.ref C) none H1
theorem ps_raise (hl : Lets X E) (hex : X.ex = []) (hc : X.calm = true) (hg : Gl X x) (hm : X.mg x = some (.ref C)) (hC : IsX X.K C) (ha : PA X (e :: es) t)
    (hdb : (x == ("__debug__" : Str)) = false := by decide) (he : starEach (e :: es) X.env = (false, eval e X.env) :: starEach es X.env := by rfl)
    (hpl : (backTo cpos (starEach es X.env)).any (·.1) = false := by rfl) :
    PS X (.Raise (some (.Call (.Name x np) (e :: es) [] cpos)) none pos) (tRaise C E t) := by
  intro pins s σ H D I h
  obtain ⟨tl, N, nm, qn, bs, hd, sn, sub, ab, col, dd, k0, k1, k2, k3, k5, mN, hCo, hN, hni, T⟩ := cls_obj I.ok.mod.kin hC
  refine wpAny_Raise_call_subT (C := C) (nm := nm) (q := qn) (N := N) (bs := bs) (bm := tl) (hdct := hd) (sn := sn) (sub := sub) (ab := ab) (col := col) (dd := dd) (k0 := k0) (k1 := k1) (k2 := k2) (k3 := k3) (k5 := k5)
    F.excBase_ValueError (mN := mN) (T.hasType F.excBase_ValueError.hasBase) (I.ok.hd hc) ?_ hni (ld_glob I hg hm ⟨rfl, ?_⟩ hdb)
  · rw [he]
    show (false || (backTo cpos (starEach es X.env)).any (·.1)) = false
    rw [hpl]; rfl
  · have ha' := ha cpos pins s σ H _ I h
    rw [he] at ha' ⊢
    refine Calls.evalArgs_plain (wpAny_mono ha' (fun us s2 ⟨vs, H1, I1, r1, hz, q1⟩ => ⟨rfl, by show us.length ≤ sizeLine; rw [← r1.length]; exact hz, I1.bk _ _ hCo, hN.keeps I1.bk, T.keeps I1.bk, fun h' ea hx => ?_⟩) fun _ _ z => z)
    obtain ⟨tt, ht, _, _⟩ := hx.there
    refine hl pins σ H1 _ ea C none (I1.kept (h' := h') (t' := s2.toks) hx.keeps) ⟨?_, ?_, _, _, ht, rfl, rfl, rfl, (by show 1 < 6; decide), .inl rfl⟩ q1
    · cases q : X.s₀.heap.get? ea with
      | none => rfl
      | some u => obtain ⟨v, hv⟩ := I1.base.there ea u q (by rw [hex]; simp); rw [hx.new] at hv; cases hv
    · cases q : H1 ea with
      | none => rfl
      | some u => obtain ⟨v, hv⟩ := (I1.hok ea u q).ex; rw [hx.new] at hv; cases hv
def tFmt (t : TE) : TE := fun σ H Q => t σ H fun v H1 => ∃ x, v = .str x ∧ x.length ≤ 1000 ∧ Q (.str x) H1
theorem pe_fmt {v : Expr} {tv : TE} (hv : PE X v tv) : PE X (.FormattedValue v (-1) none pos) (tFmt tv) := by
  intro pins s σ H Q I h
  refine wpAny_FormattedValue_plain (thn (hv pins s σ H _ I h) fun u s1 ⟨y, H1, I1, r1, z, hz, hl, q⟩ => ?_)
  subst hz
  obtain ⟨tk, rfl⟩ := r1
  exact wpAny_formatField_str ⟨.str z, H1, I1, ⟨_, rfl⟩, q⟩ ⟨.str z, H1, I1.tok _, ⟨_, rfl⟩, q⟩ (Nat.le_trans hl (by decide))
def tJoin : List TE → Str → TE
  | [], acc => fun _ H Q => Q (.str acc) H
  | t :: ts, acc => fun σ H Q => t σ H fun v H1 => ∃ x, v = .str x ∧ (acc ++ x).length ≤ sizeLine ∧ tJoin ts (acc ++ x) σ H1 Q
inductive PEs (X : Cx) : List Expr → List TE → Prop where
  | nil : PEs X [] []
  | cons {e : Expr} {t : TE} {es : List Expr} {ts : List TE} : PE X e t → PEs X es ts → PEs X (e :: es) (t :: ts)
theorem joins_ok {pins : List (Addr × Obj)} {σ : St} {Q : VK} : ∀ {es : List Expr} {ts : List TE} (hp : PEs X es ts) (acc : Str) (s : Shared) (H : Hp), acc.length ≤ sizeLine → Inv X pins σ H s → tJoin ts acc σ H Q →
    Joins (model X.prog X.w) X.A X.xe (evalEach es X.env) acc (fun out s₁ => out.length ≤ sizeLine ∧ EP X pins σ Q (.str out s₁.toks) { s₁ with toks := s₁.toks + 1 }) s
  | _, _, .nil, acc, s, H, hz, I, h => by
    unfold evalEach
    exact ⟨hz, .str acc, H, I.tok _, ⟨_, rfl⟩, h⟩
  | _, _, .cons (e := e) (es := es) hp hr, acc, s, H, hz, I, h => by
    unfold evalEach
    refine thn (hp pins s σ H _ I h) fun u s1 ⟨y, H1, I1, r1, x, hx, hl, q⟩ => ?_
    subst hx
    obtain ⟨tk, rfl⟩ := r1
    exact ⟨x, tk, rfl, hl, joins_ok hr (acc ++ x) s1 H1 hl I1 q⟩
theorem pe_joined {v1 v2 : Expr} {vs : List Expr} {ts : List TE} (hp : PEs X (v1 :: v2 :: vs) ts) : PE X (.JoinedStr (v1 :: v2 :: vs) pos) (tJoin ts Str.empty) := by
  intro pins s σ H Q I h
  exact wpAny_JoinedStr (joins_ok hp Str.empty s H (by decide) I h)
end
end L2
namespace L2
open PySem PySem.Spec PyProof.Rows
def excO (ea C : Addr) (dx : Option Addr) : HO := .ext fun h => ∃ ox, h.get? ea = some ox ∧ ox.cls = .ref C ∧ PySem.W.notCls ox = true ∧ ox.dict = dx
section
variable {P : Program} {w : World} {M : Model} {A : Around} {E : Value → Shared → Prop} {s s' : Shared} {H H' : Hp} {l : List Env} {ea C : Addr} {dx : Option Addr}
theorem note_un {base : Heap} {env : Env} {outer : List Env} {L : Addr} {Q : Unit → Shared → Prop} (hfr : A.frames = some (env :: outer)) (hl : s'.heap.FunFrames base (env :: outer)) (hf : env.frame = some L)
    (hH : ∀ b ∈ frs (env :: outer), H' b = none) (un : Un (frs (env :: outer)) [] H H' s.heap s'.heap) (hok : HOk P w H' s'.heap) (F : Fly s.heap H' s'.heap ea C dx)
    (h : ∀ h', Un (frs (env :: outer)) [] H H' s.heap h' → HOk P w H' h' → Fly s.heap H' h' ea C dx → Q () { s' with heap := h' }) :
    wpAny M A (noteFrame (.ref ea) env) (fun _ s₂ => wpAny M A (setFlight (.ref ea) none) Q E s₂) E s' := by
  have there : ∀ b u, s.heap.get? b = some u → ∃ v, s'.heap.get? b = some v := fun b u e => un.there b u e (by simp)
  refine note_x hfr hl hf F there (fun b o e => (hok b o e).ex) fun h' hk hsl F' => ?_
  have nofr : ∀ b o, H' b = some o → b ∉ frs (env :: outer) := fun b o e z => by rw [hH b z] at e; cases e
  have tk : ∀ b o u, H' b = some o → s'.heap.get? b = some u → h'.get? b = some u := fun b o u e q => hk b u (.inl (by rw [e]; simp)) (nofr b o e) q
  refine h h' ⟨fun b o e n hb hx => hk b o (.inr ⟨o, e⟩) hb (un.keep b o e n hb hx), fun b o e n hb hx => ?_, un.free, fun b o e hx => ?_, un.tups, un.frzs, un.tbls⟩ (fun a o e => ?_) F'
  · obtain ⟨sl, e1⟩ := un.slot b o e n hb hx
    have nd : ∀ vs, o.data ≠ .fields vs := fun vs z => by
      obtain ⟨_, o', ho', hd'⟩ := hl.mem hb
      rw [e1] at ho'; cases ho'; exact hd' vs z
    obtain ⟨sl2, e2⟩ := hsl b { o with slots := sl } nd e1
    exact ⟨sl2, e2⟩
  · by_cases hb : b ∈ frs (env :: outer)
    · obtain ⟨_, o', ho', hd'⟩ := hl.mem hb
      obtain ⟨sl, e2⟩ := hsl b o' hd' ho'
      exact ⟨_, e2⟩
    · obtain ⟨o', e1⟩ := there b o e
      exact ⟨o', hk b o' (.inr ⟨o, e⟩) hb e1⟩
  · refine (hok a o e).stay (fun b u hb q => ?_) (fun _ q => q) fun _ _ q => q
    rcases hb with rfl | hb
    · exact tk _ _ _ e q
    · exact tk _ _ _ hb q
theorem flight_un {Q : Unit → Shared → Prop} {fs : List Addr} (un : Un fs [] H H' s.heap s'.heap) (hok : HOk P w H' s'.heap) (F : Fly s.heap H' s'.heap ea C dx) (hT : ∀ b ∈ fs, ∀ o vs, s'.heap.get? b = some o → o.data ≠ .fields vs)
    (h : ∀ h', Un fs [] H H' s.heap h' → HOk P w H' h' → Fly s.heap H' h' ea C dx → Q () { s' with heap := h' }) :
    wpAny M A (setFlight (.ref ea) none) Q E s' := by
  obtain ⟨hnew, hfree, oe, vs, he, hc, hdx, hd, hsz, ht⟩ := id F
  unfold setFlight
  rcases ht with h1 | ⟨T, oT, ts, h1, hTe, hnT, hfT, hTo, hdT, h3⟩
  · refine wpAny_bind (wpAny_field he hd h1 ?_)
    rw [if_neg (by decide)]
    obtain ⟨hh, g, d, t, os⟩ := s'
    exact wpAny_pure (h hh un hok F)
  · refine wpAny_bind (wpAny_field he hd h1 ?_)
    rw [if_pos (by simp)]
    have hlt := (Array.getElem?_eq_some_iff.mp h3).1
    have other : ∀ b, b ≠ T → (s'.heap.update T (Obj.mapFields (·.setIfInBounds 3 ((none : Option Addr).elim Value.none fun f => rawInt f)))).get? b = s'.heap.get? b := fun b z => Heap.get?_update_other _ _ (Ne.symm z)
    have self := Heap.get?_update_self (Obj.mapFields (·.setIfInBounds 3 ((none : Option Addr).elim Value.none fun f => rawInt f))) hTo (Obj.isFreed_of_fields (Obj.data_mapFields hdT _))
    have old : ∀ b o, s.heap.get? b = some o → b ≠ T := fun b o e z => by rw [z, hnT] at e; cases e
    refine wpAny_setField hTo hdT hlt (h _ ⟨fun b o e n hb hx => (other b (old b o e)).trans (un.keep b o e n hb hx), fun b o e n hb hx => ?_, un.free, fun b o e hx => ?_, un.tups, un.frzs, un.tbls⟩ (fun a o e => ?_)
      ⟨hnew, hfree, oe, vs, (other ea (Ne.symm hTe)).trans he, hc, hdx, hd, hsz, .inr ⟨T, _, _, h1, hTe, hnT, hfT, self, Obj.data_mapFields hdT _, by simp [hlt]⟩⟩)
    · obtain ⟨sl, e1⟩ := un.slot b o e n hb hx
      exact ⟨sl, (other b (old b o e)).trans e1⟩
    · obtain ⟨o', e1⟩ := un.there b o e hx
      exact ⟨o', (other b (old b o e)).trans e1⟩
    · refine (hok a o e).stay (fun b u hb q => ?_) (fun _ q => q) fun _ _ q => q
      refine (other b ?_).trans q
      rintro rfl
      rcases hb with rfl | hb
      · rw [hfT] at e; cases e
      · rw [hfT] at hb; cases hb
theorem Fly.track {fs : List Addr} {old h : Heap} (F : Fly old H' h ea C dx) (un : Un fs [] H H' old h) (hok : HOk P w H' h) : Un fs [] H (upd H' ea (excO ea C dx)) old h ∧ HOk P w (upd H' ea (excO ea C dx)) h := by
  obtain ⟨hnew, hfree, oe, vs, he, hc, hdx, hd, hsz, ht⟩ := F
  have ne : ∀ b o, H' b = some o → b ≠ ea := fun b o e z => by rw [z, hfree] at e; cases e
  refine ⟨⟨un.keep, un.slot, fun b o e n hx => ?_, un.there, fun b xs e => ?_, fun b o u e => ?_, fun b ps e => ?_⟩, fun a o e => ?_⟩
  · rw [upd_ne (fun z => by rw [z, hnew] at e; cases e)]; exact un.free b o e n hx
  · rw [upd_ne (ne b _ (un.tups b xs e))]; exact un.tups b xs e
  · rw [upd_ne (ne b _ (un.frzs b o u e))]; exact un.frzs b o u e
  · obtain ⟨more, q⟩ := un.tbls b ps e
    exact ⟨more, by rw [upd_ne (ne b _ q)]; exact q⟩
  · by_cases z : a = ea
    · subst z
      rw [upd_same] at e
      cases e
      refine ⟨⟨oe, he, hc, ?_, hdx⟩, ⟨oe, he⟩, fun h1 h2 ⟨ox, q1, q2⟩ k => ⟨ox, k ox q1, q2⟩⟩
      unfold PySem.W.notCls; rw [hd]
    · rw [upd_ne z] at e
      exact (hok a o e).stay (fun b u _ q => q) (fun b q => by rw [upd_ne (ne b _ q)]; exact q) fun b xs q => by rw [upd_ne (ne b _ q)]; exact q
end
abbrev Cx.sui (X : Cx) (A' : Around) : Cx := { X with A := A', calm := false, xe := fun _ _ => False }
section
variable {X : Cx} {pins : List (Addr × Obj)} {σ : St} {H : Hp} {s : Shared}
theorem Inv.sui {A' : Around} (I : Inv X pins σ H s) (hA : A'.frames = some X.stack) : Inv (X.sui A') pins σ H s :=
  ⟨⟨I.ok.mod, I.ok.kind, I.ok.glob, I.ok.blt, I.ok.above, I.ok.inj, I.ok.has, I.ok.cab, fun z => absurd z (by simp), hA, I.ok.stk, I.ok.exf, I.ok.bs, I.ok.bsz, I.ok.noex, I.ok.exfs, I.ok.funs, I.ok.frf⟩,
    I.os, I.bare, I.base, I.loc, I.cell, I.free, I.freeC, I.pin, I.hok, I.len⟩
theorem Inv.unsui {A' : Around} (I : Inv (X.sui A') pins σ H s) (ok : X.Ok) : Inv X pins σ H s :=
  ⟨ok, I.os, I.bare, I.base, I.loc, I.cell, I.free, I.freeC, I.pin, I.hok, I.len⟩
theorem name_goes {M : Model} {A : Around} {E : Value → Shared → Prop} {i : Nat} {x : Str} {pos : Pos} {Q : Unit → Shared → Prop} (I : Inv X pins σ H s) (hN : X.N.Nodup) (hi : X.N[i]? = some x) (hx : X.env.kindOf x = some .local)
    (h : ∀ s', Inv X pins (σ.set i none) H s' → Q () s') : wpAny M A (do bindName X.env x .none; unbindBehindTheSuite X.env x pos) Q E s := by
  obtain ⟨m, hn, hl⟩ := id I.loc
  have hcls : (X.env.scope.kind == .class || (X.env.scope.kind == .module && X.env.locals != X.env.globals)) = false := by rw [I.ok.kind]; rfl
  refine wpAny_nameGoes_keeps hx hn hcls fun h' v hn' hs => h _ ?_
  have oth : ∀ b, b ≠ X.env.locals → h'.get? b = s.heap.get? b := fun b z => hs.2 b z
  have nel : ∀ b o, X.s₀.heap.get? b = some o → b ≠ X.env.locals := fun b o e => Nat.ne_of_lt (Nat.lt_of_lt_of_le (Heap.lt_size e) I.ok.above)
  have tk : ∀ b o, H b = some o → b ≠ X.env.locals := fun b o e z => by rw [z, I.free] at e; cases e
  have B := I.base
  refine ⟨I.ok, I.os, I.bare, ⟨fun b o e n hb hx => (oth b (nel b o e)).trans (B.keep b o e n hb hx), fun b o e n hb hx => ?_, B.free, fun b o e hx => ?_, B.tups, B.frzs, B.tbls⟩, ⟨_, hn', fun j y u hj hσ hv => ?_⟩, fun y c e => ?_, I.free, I.freeC, fun p hp => ?_, fun a o e => ?_, ?_⟩
  · obtain ⟨sl, e1⟩ := B.slot b o e n hb hx
    exact ⟨sl, (oth b (nel b o e)).trans e1⟩
  · obtain ⟨o', e1⟩ := B.there b o e hx
    exact ⟨o', (oth b (nel b o e)).trans e1⟩
  · by_cases hji : j = i
    · subst hji
      rw [List.getElem?_set_self' ] at hσ
      cases q : σ[j]? with
      | none => rw [q] at hσ; cases hσ
      | some z => rw [q] at hσ; cases hσ
    · rw [List.getElem?_set_ne (Ne.symm hji)] at hσ
      obtain ⟨u', ru, lk⟩ := hl j y u hj hσ hv
      have hyx : y ≠ x := fun z => hji (nodup_ix hN hj (z ▸ hi))
      refine ⟨u', ru, ?_⟩
      rcases lk with ⟨k1, k2⟩ | ⟨k1, c, k2, k3⟩
      · exact .inl ⟨k1, by show (if y = x then v else m y) = some u'; rw [if_neg hyx]; exact k2⟩
      · refine .inr ⟨k1, c, k2, k3.sameBut hs ?_⟩
        exact I.cne y c k2
  · obtain ⟨v', hv'⟩ := I.cell y c e
    exact ⟨v', hv'.sameBut hs (I.cne y c e)⟩
  · obtain ⟨e, n, ne, nf, d⟩ := I.pin p hp
    exact ⟨(oth p.1 ne).trans e, n, ne, nf, d⟩
  · refine (I.hok a o e).stay (fun b u hb q => ?_) (fun _ q => q) fun _ _ q => q
    refine (oth b ?_).trans q
    rcases hb with rfl | hb
    · exact tk _ _ e
    · exact tk _ _ hb
  · rw [List.length_set]; exact I.len
end
end L2
namespace L2
open PySem PySem.Spec PyProof.Rows
def PassesS (CX : CXT) (X : Cx) (σ : St) (E : XK) : Prop := ∀ (pins : List (Addr × Obj)) (H : Hp) (s : Shared) (e : Value) (s' : Shared), Inv X pins σ H s → CX X.stack H s E e s' → X.xe e s'
section
variable {X : Cx} {CX : CXT} {k : Nat} {f C : Addr} {fd : FuncData} {ps : List Str} {sp : Sp} {dvs : List V} {ds : List Value} {E : St → XK} {x m : Str} {p pos apos : Pos} {e o : Expr} {es : List Expr} {ta : TE} {t : TA}
end
structure HandC (K : PySem.W.Frag) (N : Addr) : Prop where
  cls : (PySem.W.clsIn K N).isSome = true
  ty : PySem.W.typeIn K (.ref N) = some (.type "type")
  base : PySem.W.mroIn K N (.type "BaseException") = some true
def tTry (K : PySem.W.Frag) (Nc : Addr) (i : Nat) (tb : (St → XK) → TS) (ts : TS) : TS := fun D σ H =>
  tb (fun σ' cls dx H' => ∃ C, cls = .ref C ∧ PySem.W.subIn K (.ref C) (.ref Nc) = some true ∧ (∀ d, dx = some d → ∃ o, H' d = some o) ∧
    ∀ ea, H' ea = none → ts { nx := fun σ H => D.nx (σ.set i none) H, rt := D.rt, bk := fun σ H => D.bk (σ.set i none) H, ct := fun σ H => D.ct (σ.set i none) H } (σ'.set i (some (.ref ea))) (upd H' ea (excO ea C dx))) D σ H
section
variable {X : Cx} {i : Nat} {x n : Str} {Nc : Addr} {body suite : List Stmt} {b₀ : Stmt} {np hpos pos : Pos} {tb : (St → XK) → TS} {ts : TS}
theorem mark_frames {A : Around} {v : Option Value} {l : List Env} (h : A.frames = some l) : (A.mark v).frames = some l := h
abbrev Cx.tried (X : Cx) (pn : List (Addr × Obj)) (W : Value → Shared → Prop) : Cx := { X with pn := pn, xe := W }
theorem Inv.tried {pins : List (Addr × Obj)} {σ : St} {H : Hp} {s : Shared} {W : Value → Shared → Prop} (I : Inv X pins σ H s) : Inv (X.tried (X.pn ++ pins) W) [] σ H s :=
  ⟨⟨I.ok.mod, I.ok.kind, I.ok.glob, I.ok.blt, I.ok.above, I.ok.inj, I.ok.has, I.ok.cab, I.ok.hd, I.ok.frames, I.ok.stk, I.ok.exf, I.ok.bs, I.ok.bsz, I.ok.noex, I.ok.exfs, I.ok.funs, I.ok.frf⟩,
    I.os, I.bare, I.base, I.loc, I.cell, I.free, I.freeC, fun p hp => I.pin p (by rw [List.append_nil] at hp; exact hp), I.hok, I.len⟩
theorem Inv.untried {pins pins' : List (Addr × Obj)} {σ : St} {H : Hp} {s : Shared} {W : Value → Shared → Prop} (I : Inv (X.tried (X.pn ++ pins) W) pins' σ H s) (ok : X.Ok) : Inv X pins σ H s :=
  ⟨ok, I.os, I.bare, I.base, I.loc, I.cell, I.free, I.freeC, fun p hp => I.pin p (List.mem_append_left _ hp), I.hok, I.len⟩
theorem ps_try (hst : X.stack = X.env :: X.outer) (hfr : X.env.frame = some X.env.locals) (hN : X.N.Nodup) (hi : X.N[i]? = some n) (hk : X.env.kindOf n = some .local) (hg : Gl X x) (hm : X.mg x = some (.ref Nc)) (hC : HandC X.K Nc)
    (hb : ∀ (EX : St → XK) (pn : List (Addr × Obj)) (W : Value → Shared → Prop), (∀ σ, PassesS (CX1 X.prog X.w) (X.tried pn W) σ (EX σ)) → PSs (X.tried pn W) body (tb EX)) (hs : ∀ A', PSs (X.sui A') (b₀ :: suite) ts)
    (hdb : (x == ("__debug__" : Str)) = false := by decide) :
    PS X (.Try body [.ExceptHandler (some (.Name x np)) (some n) (b₀ :: suite) hpos] [] [] pos) (tTry X.K Nc i tb ts) := by
  intro pins s σ H D I h
  refine wpAny_Try_except ?_
  let EX : St → XK := fun σ' cls dx H' => ∃ C, cls = .ref C ∧ PySem.W.subIn X.K (.ref C) (.ref Nc) = some true ∧ (∀ d, dx = some d → ∃ o, H' d = some o) ∧
    ∀ ea, H' ea = none → ts { nx := fun σ H => D.nx (σ.set i none) H, rt := D.rt, bk := fun σ H => D.bk (σ.set i none) H, ct := fun σ H => D.ct (σ.set i none) H } (σ'.set i (some (.ref ea))) (upd H' ea (excO ea C dx))
  let W : Value → Shared → Prop := fun e s' => ∃ σ' H1 s1, Inv X pins σ' H1 s1 ∧ CX1 X.prog X.w X.stack H1 s1 (EX σ') e s'
  have hp : ∀ σ, PassesS (CX1 X.prog X.w) (X.tried (X.pn ++ pins) W) σ (EX σ) := fun σ' pins' H1 s1 e s' I1 hx => ⟨σ', H1, s1, I1.untried I.ok, hx⟩
  refine wpAny_mono (hb EX (X.pn ++ pins) W hp [] s σ H D I.tried h) (fun fl s1 q => ?_) fun e s1 q => ?_
  · cases fl with
    | next =>
      obtain ⟨σ', H', I', q⟩ := q
      exact wpAny_execs_nil ⟨σ', H', I'.untried I.ok, q⟩
    | brk => obtain ⟨σ', H', I', q⟩ := q; exact ⟨σ', H', I'.untried I.ok, q⟩
    | cont => obtain ⟨σ', H', I', q⟩ := q; exact ⟨σ', H', I'.untried I.ok, q⟩
    | ret u => obtain ⟨v, σ', H', I', q⟩ := q; exact ⟨v, σ', H', I'.untried I.ok, q⟩
  · obtain ⟨σ', H1, s0, I0, ea, C, dx, H', rfl, os, bare, un, hok, F, C', hC', hsub, hdx, q⟩ := q
    cases hC'
    have frm : X.A.frames = some (X.env :: X.outer) := hst ▸ I.ok.frames
    have hJ : ∀ h' t', Un (frs X.stack) [] H1 H' s0.heap h' → HOk X.prog X.w H' h' → Inv X pins σ' H' { s1 with heap := h', toks := t' } := fun h' t' u k =>
      I0.call' (s' := { s1 with heap := h', toks := t' }) os u k bare (fun b z => absurd z (by simp))
    have J1 := hJ s1.heap s1.toks un hok
    have un' : Un (frs (X.env :: X.outer)) [] H1 H' s0.heap s1.heap := hst ▸ un
    refine note_un (P := X.prog) (w := X.w) (base := X.base) (s := s0) frm (hst ▸ J1.stack) hfr (hst ▸ J1.stkFree) un' hok F fun h2 un2 hok2 F2 => ?_
    have un2' : Un (frs X.stack) [] H1 H' s0.heap h2 := hst ▸ un2
    have J2 := hJ h2 s1.toks un2' hok2
    obtain ⟨ut, kt⟩ := F2.track un2' hok2
    have inst : ∀ h3, HOk X.prog X.w (upd H' ea (excO ea C dx)) h3 → ∃ ox odo, PySem.W.InstAt h3 ea ox C odo := fun h3 k3 => by
      obtain ⟨⟨ox, e1, e2, e3, e4⟩, _⟩ := (show ObjOk X.prog X.w _ h3 ea (excO ea C dx) from k3 ea _ upd_same)
      cases hd : dx with
      | none => exact ⟨ox, none, e1, e2, e3, by rw [e4, hd]; trivial⟩
      | some d =>
        obtain ⟨o, ho⟩ := hdx d hd
        have hde : upd H' ea (excO ea C dx) d = some o := by
          rw [upd_ne (fun z => by rw [z, F2.free] at ho; cases ho)]; exact ho
        obtain ⟨u, hu⟩ := (k3 d o hde).ex
        exact ⟨ox, some u, e1, e2, e3, by rw [e4, hd]; exact hu⟩
    have JS : Inv (X.sui (X.A.mark (some (.ref ea)))) pins σ' H' { s1 with heap := h2 } := J2.sui (mark_frames I.ok.frames)
    refine wpAny_handleBy_cons (codeAny_handlers_test (ld_glob JS hg hm ?_ hdb)) (by intro z; cases z)
    obtain ⟨ox, odo, IA⟩ := inst h2 kt
    refine PySem.W.exc_matches (s := { s1 with heap := h2 }) JS.kIn IA hC.cls hC.ty hC.base hsub ?_
    refine codeAny_handlers_suite_as (flight_un (P := X.prog) (w := X.w) (s := s0) un2' hok2 F2 (fun b hb o vs ho => ?_) fun h4 un4 hok4 F4 => ?_)
    · obtain ⟨_, o', ho', hd'⟩ := J2.stack.mem hb
      have ho2 : h2.get? b = some o := ho
      have ho2' : h2.get? b = some o' := ho'
      rw [ho2] at ho2'; cases ho2'; exact hd' vs
    · obtain ⟨ut4, kt4⟩ := F4.track un4 hok4
      have J4 : Inv X pins σ' (upd H' ea (excO ea C dx)) { s1 with heap := h4 } := I0.call' (s' := { s1 with heap := h4 }) os ut4 kt4 bare (fun b z => absurd z (by simp))
      refine store_ok (v := .ref ea) J4 hN hi (.inl hk) rfl (fun s5 J5 => ?_) (.inr hk)
      have JS5 : Inv (X.sui (X.A.mark (some (.ref ea)))) pins (σ'.set i (some (.ref ea))) (upd H' ea (excO ea C dx)) s5 := J5.sui (mark_frames I.ok.frames)
      refine wpAny_mono (hs _ pins s5 _ _ _ JS5 (q ea F4.free)) (fun fl s6 z => ?_) fun _ _ z => z.elim
      cases fl with
      | next =>
        obtain ⟨σ6, H6, I6, z⟩ := z
        exact name_goes (I6.unsui I.ok) hN hi hk fun s7 I7 => ⟨_, H6, I7, z⟩
      | brk =>
        obtain ⟨σ6, H6, I6, z⟩ := z
        exact name_goes (I6.unsui I.ok) hN hi hk fun s7 I7 => ⟨_, H6, I7, z⟩
      | cont =>
        obtain ⟨σ6, H6, I6, z⟩ := z
        exact name_goes (I6.unsui I.ok) hN hi hk fun s7 I7 => ⟨_, H6, I7, z⟩
      | ret u =>
        obtain ⟨v, σ6, H6, I6, rv, z⟩ := z
        exact name_goes (I6.unsui I.ok) hN hi hk fun s7 I7 => ⟨v, _, H6, I7, rv, z⟩
end
end L2
namespace L2
open PySem PySem.Spec PyProof.Rows
section
variable {X : Cx}
structure Caught (H : Hp) (ea C : Addr) (dx : Option Addr) : Prop where
  at_ : H ea = some (excO ea C dx)
  dict : ∀ d, dx = some d → ∃ o, H d = some o
theorem Inv.inst {pins : List (Addr × Obj)} {σ : St} {H : Hp} {s : Shared} {ea C : Addr} {dx : Option Addr} (I : Inv X pins σ H s) (c : Caught H ea C dx) : ∃ ox odo, PySem.W.InstAt s.heap ea ox C odo := by
  obtain ⟨⟨ox, e1, e2, e3, e4⟩, _⟩ := (show ObjOk X.prog X.w H s.heap ea (excO ea C dx) from I.hok ea _ c.at_)
  cases hd : dx with
  | none => exact ⟨ox, none, e1, e2, e3, by rw [e4, hd]; trivial⟩
  | some d =>
    obtain ⟨o, ho⟩ := c.dict d hd
    obtain ⟨u, hu⟩ := (I.hok d o ho).ex
    exact ⟨ox, some u, e1, e2, e3, by rw [e4, hd]; exact hu⟩
theorem vals_refs : ∀ {Cs : List Addr} {us : List Value}, Vals (Cs.map V.ref) us → us = Cs.map Value.ref
  | [], _, r => by cases r; rfl
  | _ :: _, _, r => by
    cases r with
    | cons h t =>
      have e : _ = Value.ref _ := h
      rw [e, vals_refs t]; rfl
def rIsiX (K : PySem.W.Frag) : List V → Hp → VK → Prop := fun xs H Q => ∃ (ea C : Addr) (dx : Option Addr) (c : V) (b : Bool), xs = [.ref ea, c] ∧ Caught H ea C dx ∧ PySem.W.ExcC K C ∧
  ((∃ (tp : Addr) (Cs : List Addr), c = .ref tp ∧ H tp = some (.tup (Cs.map V.ref)) ∧ PySem.W.kitAny K (.ref C) (Cs.map Value.ref) = some b) ∨ (∃ N, c = .ref N ∧ PySem.W.kitOne K (.ref C) (.ref N) = some b) ∨ (∃ T, c = .ty T ∧ PySem.W.kitOne K (.ref C) (.type T) = some b)) ∧ Q (.bl b) H
theorem call_isiX : CallR X (.builtin "isinstance") (rIsiX X.K) := by
  intro pins s σ H xs us Q I r h
  obtain ⟨ea, C, dx, c, b, rfl, hc, hC, hk, q⟩ := h
  obtain ⟨u, w', rfl, ru, rw'⟩ := vals2 r
  cases ru
  obtain ⟨ox, odo, IA⟩ := I.inst hc
  have fin : ∀ tk, EP X pins σ Q (.bool b) { s with toks := tk } := fun tk => ⟨.bl b, H, I.tok _, rfl, q⟩
  rcases hk with ⟨tp, Cs, rfl, ht, e⟩ | ⟨N, rfl, e⟩ | ⟨T, rfl, e⟩
  · cases rw'
    obtain ⟨_, its, rv, o, h1, h2, h3, n, h4⟩ := (show ObjOk X.prog X.w H s.heap tp (.tup (Cs.map V.ref)) from I.hok tp _ ht)
    rw [vals_refs rv] at h4
    obtain ⟨oc, od, oda, osl⟩ := o
    cases h3
    cases h4
    exact PySem.W.kia_tup (PySem.W.kitx_exc hC) I.kIn ⟨ox, odo, IA⟩ h1 e (fun z => nomatch z) fin
  · cases rw'
    exact PySem.W.kia_one (PySem.W.kitx_exc hC) I.kIn ⟨ox, odo, IA⟩ e (fun z => nomatch z) fin
  · cases rw'
    exact PySem.W.kia_one (PySem.W.kitx_exc hC) I.kIn ⟨ox, odo, IA⟩ e (fun z => nomatch z) fin
end
section
variable {P : Program} {w : World} {K : PySem.W.Frag} {mg : Str → Option Value} {base : Heap}
theorem Fun.okX {x qual : Str} {st : Stmt} {f : Addr} {fd : FuncData} {N ps : List Str} {k : Nat} {sp : Sp} (F : Fun K x qual st f fd) (S : FnScope N ps (defScope st)) (len : ∀ vs H Q E, sp vs H Q E → vs.length = ps.length)
    (hbody : ∀ (cdv : Value) (A : Around) (outer : List Env) (s : Shared) (H : Hp) (vs : List V) (Q : VK) (E : XK), Room k (A.deeper (envOfC qual (defScope st) s.heap.objs.size f cdv)) → sp vs H Q E →
      ∃ t, PSs (cxOf (CX1 P w) P w K mg base N qual (defScope st) f cdv A outer s H E) (defBody st) t ∧ t { nx := fun _ H' => Q .non H', rt := Q } (start N vs) H) : FnOk P w K mg base (CX1 P w) (k + 1) f fd ps sp := by
  obtain ⟨oc, od, kV, doc, pm, an, cdv, ct, osl, rfl, lk, hcd⟩ := F.ex
  exact fn_of lk hcd S len fun A outer s H vs Q E hr hsp => hbody cdv A outer s H vs Q E hr hsp
end
end L2
namespace L2
open PySem PySem.Spec PyProof.Rows
section
variable {prog : Program} {w : World} {A : Around} {E : Value → Shared → Prop} {s : Shared}
theorem en_item {tp : Bool} {e it l : Addr} {i : Nat} {xs : Array Value} {x old : Value} {Q : Value → Shared → Prop} (he : IsEnum s.heap e it i old) (z : SI tp s.heap it l i xs) (nl : l ≠ it) (hx : xs[i]? = some x) (hne : e ≠ it)
    (hQ : ∀ g, IsEnumOut g e it ((i : Int) + 1) x s.heap.objs.size → SJ tp g it l (i + 1) → g.get? s.heap.objs.size = some { cls := .type "tuple", data := .seq #[.int i s.toks, x] } → g.objs.size = s.heap.objs.size + 1 →
      (∀ b o, b ≠ e → b ≠ it → s.heap.get? b = some o → g.get? b = some o) → Q (.ref s.heap.objs.size) { s with heap := g, toks := s.toks + 1 }) :
    (wpAny (model prog w) A (Builtin.«enumerate.__next__» ⟨[.ref e], []⟩) (fun fin s' => ∃ v, fin = .done (.ret v) ∧ Q v s') E s) := by
  obtain ⟨hp, g, d, tk, os⟩ := (s)
  refine wpAny_bind (m := field (.ref e) 2) (wpAny_field he rfl (x := .ref it) rfl ?_)
  refine wpAny_bind (si_item z nl hx fun g1 z1 s1 => ?_)
  replace s1 : Heap.SameBut it hp g1 := s1
  have e1 : IsEnum g1 e it i old := (s1.2 e hne).trans he
  refine wpAny_bind (m := field (.ref e) 3) (wpAny_field e1 rfl (x := rawInt i) rfl ?_)
  refine wpAny_bind (m := field (.ref e) 4) (wpAny_field e1 rfl (x := .none) rfl ?_)
  refine wpAny_bind (m := mkInt i) (wpAny_mkInt ?_)
  refine wpAny_bind (m := setField (.ref e) 3 (rawInt ((i : Int) + 1))) (wpAny_setField_rec e1 (by simp) fun g2 e2 s2 => ?_)
  replace s2 : Heap.SameBut e g1 g2 := s2
  replace e2 : IsEnum g2 e it ((i : Int) + 1) old := e2
  refine wpAny_bind (m := setField (.ref e) 4 .none) (wpAny_setField_rec e2 (by simp) fun g3 e3 s3 => ?_)
  replace s3 : Heap.SameBut e g2 g3 := s3
  replace e3 : IsEnum g3 e it ((i : Int) + 1) old := e3
  refine wpAny_bind (m := newTuple [.int i tk, x]) (wpAny_newTuple ?_)
  have e4 : IsEnum (g3.push { cls := .type "tuple", data := .seq #[.int i tk, x] }) e it ((i : Int) + 1) old := Heap.get?_push_of_some _ e3
  generalize q4 : g3.push { cls := .type "tuple", data := .seq #[.int i tk, x] } = g4 at e4
  have sz : g3.objs.size = hp.objs.size := by rw [s3.1, s2.1, s1.1]
  have el : e < hp.objs.size := Heap.lt_size he
  have t4 : g4.get? hp.objs.size = some { cls := .type "tuple", data := .seq #[.int i tk, x] } := by rw [← q4, ← sz]; exact Heap.get?_push_size _ rfl
  have z4 : g4.objs.size = hp.objs.size + 1 := by rw [← q4, Heap.size_push, sz]
  have k4 : ∀ b o, b ≠ e → b ≠ it → hp.get? b = some o → g4.get? b = some o := fun b o be bi hb => by
    rw [← q4]; exact Heap.get?_push_of_some _ (s3.extBut b o be (s2.extBut b o be (s1.extBut b o bi hb)))
  have j4 : SJ tp g4 it l (i + 1) := by
    rw [← q4]; exact z1.sj.to fun o ho => Heap.get?_push_of_some _ (s3.extBut _ o (Ne.symm hne) (s2.extBut _ o (Ne.symm hne) ho))
  show wpAny _ _ (Builtin.SmallTypes.ownedTupleIsFree (.ref e) >>= _) _ _ ⟨g4, g, d, tk + 1, os⟩
  rw [sz]
  clear q4 e3 s3 e2 s2 e1 s1 z1 sz g3 g2 g1
  refine wpAny_bind (m := Builtin.SmallTypes.ownedTupleIsFree (.ref e)) (wpAny_bind (m := field (.ref e) 0) (wpAny_field e4 rfl (x := .none) rfl (wpAny_pure ?_)))
  simp only [if_true]
  refine wpAny_bind (wpAny_rule (wpAny_bind (wpAny_field e4 rfl (x := old) rfl (wpAny_bind (wpAny_setField_rec e4 (by simp) fun g5 e5 s5 => ?_)))))
  replace s5 : Heap.SameBut e g4 g5 := s5
  replace e5 : IsEnum g5 e it ((i : Int) + 1) x := e5
  refine wpAny_bind (m := Builtin.SmallTypes.ownedTupleHandOut (.ref e) (.ref hp.objs.size)) ?_
  simp only [Builtin.SmallTypes.ownedTupleHandOut]
  refine wpAny_bind (wpAny_setField_rec e5 (by simp) fun g6 e6 s6 => ?_)
  replace s6 : Heap.SameBut e g5 g6 := s6
  replace e6 : IsEnumOut g6 e it ((i : Int) + 1) x hp.objs.size := e6
  refine wpAny_setField_rec e6 (by simp) fun g7 e7 s7 => ?_
  replace s7 : Heap.SameBut e g6 g7 := s7
  replace e7 : IsEnumOut g7 e it ((i : Int) + 1) x hp.objs.size := e7
  have up : ∀ b o, b ≠ e → g4.get? b = some o → g7.get? b = some o := fun b o be q => s7.extBut b o be (s6.extBut b o be (s5.extBut b o be q))
  refine wpAny_bind (wpAny_letGo (wpAny_pure ⟨_, rfl, hQ g7 e7 (j4.to fun o q => up _ o (Ne.symm hne) q) (up _ _ (Nat.ne_of_gt el) t4) (by rw [s7.1, s6.1, s5.1, z4]) fun b o be bi hb => up b o be (k4 b o be bi hb)⟩))
theorem next_en {tp : Bool} {e it l : Addr} {i : Nat} {xs : Array Value} {x old : Value} {Q : Option Value → Shared → Prop} (he : IsEnum s.heap e it i old) (z : SI tp s.heap it l i xs) (nl : l ≠ it) (hx : xs[i]? = some x) (hne : e ≠ it)
    (hQ : ∀ g, IsEnumOut g e it ((i : Int) + 1) x s.heap.objs.size → SJ tp g it l (i + 1) → g.get? s.heap.objs.size = some { cls := .type "tuple", data := .seq #[.int i s.toks, x] } → g.objs.size = s.heap.objs.size + 1 →
      (∀ b o, b ≠ e → b ≠ it → s.heap.get? b = some o → g.get? b = some o) → Q (some (.ref s.heap.objs.size)) { s with heap := g, toks := s.toks + 1 }) : wpAny (model prog w) A (pyNext (.ref e)) Q E s := by
  have hT : s.TypeIs (.ref e) "enumerate" := (⟨_, he, rfl⟩)
  simp only [pyNext]
  exact wpAny_bind (wpAny_attempt (wpAny_callSpecial?_slot (name := Str.ofString "__next__") hT F.slot_enumerate_next (wpAny_call_entry F.slot_enumerate_next hT F.entry_enumerate_next
      (en_item he z nl hx hne fun g a b c d k => wpAny_pure (hQ g a b c d k)) (F.args_enumerate_next_1 _))))
theorem end_en {tp : Bool} {e it l : Addr} {i : Nat} {xs : Array Value} {old : Value} {Q : Option Value → Shared → Prop} (hh : A.handled = none) (he : IsEnum s.heap e it i old) (z : SI tp s.heap it l i xs) (hx : xs[i]? = none)
    (hQ : ∀ g, Heap.ExtBut it s.heap g → Q none { s with heap := g }) : wpAny (model prog w) A (pyNext (.ref e)) Q E s := by
  have hT : s.TypeIs (.ref e) "enumerate" := (⟨_, he, rfl⟩)
  simp only [pyNext]
  refine wpAny_bind (wpAny_attempt (wpAny_callSpecial?_slot (name := Str.ofString "__next__") hT F.slot_enumerate_next (wpAny_call_entry F.slot_enumerate_next hT F.entry_enumerate_next ?_ (F.args_enumerate_next_1 _))))
  refine wpAny_bind (m := field (.ref e) 2) (wpAny_field he rfl (x := .ref it) rfl (wpAny_bind (si_end hh z hx fun g y eg ⟨o, ho, hc⟩ => ?_)))
  exact wpAny_bind (wpAny_isInstance (T := "StopIteration") (b := true) ⟨o, ho, hc⟩ isSubtype_stop (wpAny_pure (hQ _ eg)))
theorem en_new_go (tp : Bool) (l : Addr) (xs : Array Value) : Meets (Builtin.«enumerate.__new__» ⟨[.type "enumerate", .ref l], []⟩) (fun _ R s => Wk tp s.heap l xs ∧
      R (.ok (.ret (.ref (s.heap.push (iterObj tp l)).objs.size))) { s with heap := (s.heap.push (iterObj tp l)).push { cls := .type "enumerate", data := .fields #[.none, .bool false, .ref s.heap.objs.size, rawInt 0, .none, .none] } }) :=
  .of_wp fun prog w A R s h => by
    obtain ⟨hp, g, d, tk, os⟩ := (s); obtain ⟨hl, h⟩ := h
    have hsub := sub_enumerate
    have k1 : Wk tp (Shared.heap ⟨hp, g, d, tk, os⟩) l xs := hl
    obtain ⟨ob, hob, hcl⟩ : ∃ ob, hp.get? l = some ob ∧ (∃ ys n, ob.data = .seq ys n) := by
      cases tp with
      | false => obtain ⟨o, e, _, n, dd⟩ := hl; exact ⟨o, e, _, n, dd⟩
      | true => obtain ⟨o, e, _, n, dd⟩ := hl; exact ⟨o, e, _, n, dd⟩
    wp_walk using AutoSeq1.wpAny_loadPart' hob
    refine (wpAny_stack_any fun st => wpAny_pure ?_)
    split
    · rename_i c _ _ _ _ _
      cases (c == Value.type "enumerate") <;> (wp_walk using AutoSeq1.wpAny_loadPart' hob, wk_iter k1; exact ⟨_, rfl, h⟩)
    · wp_walk using AutoSeq1.wpAny_loadPart' hob, wk_iter k1
      exact ⟨_, rfl, h⟩
theorem call_en {tp : Bool} {l : Addr} {xs : Array Value} {Q : Value → Shared → Prop} (h1 : Wk tp s.heap l xs)
    (h : ∀ g, IsEnum g (s.heap.objs.size + 1) s.heap.objs.size 0 .none → SJ tp g s.heap.objs.size l 0 → (∀ c o, s.heap.get? c = some o → g.get? c = some o) → Q (.ref (s.heap.objs.size + 1)) { s with heap := g }) :
    (wpAny (model prog w) A (call (.type "enumerate") [.ref l]) Q E s) := by
  refine callType_new F.called_enumerate (by decide) (F.typeCall_enumerate_1 _) (F.newCall_enumerate_1 _) (fun obj => F.args_object_init_2 obj _) F.entry_enumerate_new (en_new_go tp l xs) ⟨h1, ?_⟩
  have e1 : (s.heap.push (iterObj tp l)).objs.size = s.heap.objs.size + 1 := Heap.size_push ..
  have p2 : ((s.heap.push (iterObj tp l)).push { cls := .type "enumerate", data := .fields #[.none, .bool false, .ref s.heap.objs.size, rawInt 0, .none, .none] }).get? (s.heap.push (iterObj tp l)).objs.size = some _ := Heap.get?_push_size _ rfl
  have p1 : SJ tp ((s.heap.push (iterObj tp l)).push { cls := .type "enumerate", data := .fields #[.none, .bool false, .ref s.heap.objs.size, rawInt 0, .none, .none] }) s.heap.objs.size l 0 := (SJ.new tp s.heap l).to fun o q => Heap.get?_push_of_some _ q
  show _ ∧ _
  rw [e1] at p2 ⊢
  exact ⟨⟨_, p2, rfl⟩, h _ p2 p1 fun c o q => Heap.get?_push_of_some _ (Heap.get?_push_of_some _ q)⟩
end
structure ER (h : Heap) (e it : Addr) (tp : Bool) (l : Addr) (k : Nat) : Prop where
  enu : ∃ old, IsEnum h e it k old
  one : SJ tp h it l k
def Ite (K : PySem.W.Frag) (tp : Bool) (l : Addr) : It :=
  ⟨fun i H => ∃ xs x, Sq K tp H l xs ∧ xs[i]? = some x, fun i H v H' => ∃ r x, v = .ref r ∧ H r = none ∧ H' = upd H r (.tup [.int (i : Nat), x]) ∧ ∀ xs, Sq K tp H l xs → xs[i]? = some x, fun i H => ∃ xs, Sq K tp H l xs ∧ xs.length ≤ i⟩
theorem turn_en {P : Program} {w : World} {K : PySem.W.Frag} {elts : List Expr} {x1} {pos : Pos} {e it l : Addr} {tp : Bool} (n1 : e ≠ it) (n2 : l ≠ it) : Turn P w K (.Tuple elts x1 pos) (Ite K tp l) [e, it] e (fun i h => ER h e it tp l i) where
  mem := by simp
  obj := fun i h st b hb => by
    have q : b = e ∨ b = it := by simpa using hb
    rcases q with q | q <;> rw [q]
    · obtain ⟨old, h1⟩ := st.enu
      exact ⟨_, h1, fun v e => nomatch e⟩
    · exact st.one.obj
  keep := fun i h h' st k => ⟨let ⟨old, h1⟩ := st.enu; ⟨old, k e (by simp) _ h1⟩, st.one.to fun o q => k it (by simp) o q⟩
  item := by
    intro X hP hw hK hc i pins s σ H E I hf st hg
    subst hP hw hK
    obtain ⟨xs, x, q1, hx⟩ := hg
    obtain ⟨its, r1, w1⟩ := I.sq q1
    obtain ⟨u1, hu1, ru1⟩ := r1.get hx
    obtain ⟨old, he⟩ := st.enu
    have elt : e < s.heap.objs.size := Heap.lt_size he
    refine next_en he (st.one.si w1) n2 (x := u1) (by simpa using hu1) n1 fun g ho hj ht sz kp => ?_
    have kp' : ∀ b o, b ∉ [e, it] → s.heap.get? b = some o → g.get? b = some o := fun b o hb q => kp b o (fun z => hb (by simp [z])) (fun z => hb (by simp [z])) q
    have I1 : Inv X pins σ H { s with heap := g, toks := s.toks + 1 } := I.turnedL (t' := s.toks + 1) kp' hf
    have hn : H s.heap.objs.size = none := I.hok.fresh (Nat.le_refl _)
    refine ⟨_, rfl, ?_⟩
    refine wpAny_letOwnedTupleGo_enum (s := { s with heap := g, toks := s.toks + 1 }) ho fun g2 e2 s2 => ?_
    have I2 : Inv X pins σ H { s with heap := g2, toks := s.toks + 1 } := I1.turnedL (s := { s with heap := g, toks := s.toks + 1 }) (t' := s.toks + 1) (ch := [e]) (fun b o hb q => s2.extBut b o (fun z => hb (by simp [z])) q) fun b hb => by
      have q : b = e := by simpa using hb
      rw [q]; exact hf e (by simp)
    have pg2 : g2.get? s.heap.objs.size = some { cls := .type "tuple", data := .seq #[.int i s.toks, u1] } := s2.extBut _ _ (Nat.ne_of_gt elt) ht
    have I3 : Inv X pins σ (upd H s.heap.objs.size (.tup [.int (i : Nat), x])) { s with heap := g2, toks := s.toks + 1 } := I2.retrack hn (I.fpOk (Nat.le_refl _) hn) ⟨by show 2 ≤ sizeLine; decide, [.int i s.toks, u1], .cons ⟨_, rfl⟩ (.cons ru1 .nil), ⟨_, pg2, rfl, rfl, _, rfl⟩⟩
    have ltf : ∀ b ∈ [e, it], b < s.heap.objs.size := fun b hb => by
      have q : b = e ∨ b = it := by simpa using hb
      rcases q with q | q <;> rw [q]
      · exact elt
      · obtain ⟨o, q, _⟩ := st.one.obj
        exact Heap.lt_size q
    refine ⟨.ref s.heap.objs.size, _, I3, rfl, ⟨_, x, rfl, hn, rfl, fun zs h => by rw [I.sq_inj h q1]; exact hx⟩, ?_, fun b hb => ?_⟩
    · exact ⟨⟨_, e2⟩, hj.to fun o q => s2.extBut _ o (Ne.symm n1) q⟩
    · rw [upd_ne (Nat.ne_of_lt (ltf b hb))]
      exact (hf b hb).1
  done := by
    intro X hP hw hK hc i pins s σ H E I hf st hg
    subst hP hw hK
    obtain ⟨xs, q1, hend⟩ := hg
    obtain ⟨its, r1, w1⟩ := I.sq q1
    have e1 := r1.length
    obtain ⟨old, he⟩ := st.enu
    refine end_en (I.ok.hd hc) he (st.one.si w1) (by simp; omega) fun g kp => ⟨rfl, ?_⟩
    exact I.turnedL (t' := s.toks) (ch := [it]) (fun b o hb q => kp b o (fun z => hb (by simp [z])) q) fun b hb => hf b (by
      have q : b = it := by simpa using hb
      rw [q]; simp)
  self := fun _ _ _ _ _ st h => let ⟨_, h1⟩ := st.enu; wpAny_pyIter_enum h1 h
theorem boot_enum' : bootBuiltins "enumerate" = some (.type "enumerate") := by decide +kernel
def iEnum (K : PySem.W.Frag) (ta : TA) : TI := fun σ H R => ta σ H fun vs H1 => ∃ a tp xs, vs = [.ref a] ∧ Sq K tp H1 a xs ∧ R (Ite K tp a) H1
theorem pi_enum {X : Cx} {elts : List Expr} {x1} {tpos : Pos} {a : Expr} {ta : TA} {p pos : Pos} (hg : Gl X "enumerate") (hm : X.mg "enumerate" = none) (ha : PA X [a] ta)
    (hs : starEach [a] X.env = [(false, eval a X.env)] := by rfl) : PI X (.Tuple elts x1 tpos) (.Call (.Name "enumerate" p) [a] [] pos) (iEnum X.K ta) := by
  intro pins s σ H R I h
  refine Call_ (ld_blt I hg hm boot_enum' (PyProof.Rows.callWith_type1 (thn (ha pos pins s σ H _ I h) fun us s1 ⟨vs, H1, I1, r1, q1⟩ => ?_) (by rw [hs]; rfl) (by rfl)))
  obtain ⟨l, tp, xs, e, q1, q⟩ := q1
  subst e
  obtain ⟨u, rfl, ru⟩ := vals1 r1
  cases ru
  obtain ⟨its, rr1, w1⟩ := I1.sq q1
  have n1 := w1.lt
  refine call_en w1 fun g he hj kp => ?_
  refine wpAny_pyIter_enum (s := { s1 with heap := g }) he ?_
  have I2 : Inv X pins σ H1 { s1 with heap := g } := I1.kept (t' := s1.toks) kp
  refine ⟨_, [s1.heap.objs.size + 1, s1.heap.objs.size], _, _, H1, rfl, I2, turn_en (Nat.succ_ne_self _) (Nat.ne_of_lt n1), ⟨⟨_, he⟩, hj⟩, fun b hb => ?_, q⟩
  have hb' : s1.heap.objs.size ≤ b := by
    have z : b = s1.heap.objs.size + 1 ∨ b = s1.heap.objs.size := by simpa using hb
    rcases z with z | z <;> rw [z] <;> first | exact Nat.le_refl _ | exact Nat.le_add_right _ _
  exact I1.fpOk hb' (I1.hok.fresh hb')
def inAl (o c : Nat) : Bool := decide (o ≤ c) && decide (c < o + 26)
def wordB (o : Nat) (x : Str) : Bool := decide (1 ≤ x.length) && (decide (x.length ≤ 8) && x.cps.toList.all (inAl o))
structure Tx (x : Str) : Prop where
  len : x.length ≤ 20
  asc : ∀ c ∈ x.cps.toList, c < 128
theorem mem_alpha (o c : Nat) : decide (c ∈ (alpha o).cps.toList) = inAl o c := by
  have e : (alpha o).cps.toList = (List.range 26).map (o + ·) := by show ((List.range 26).map (o + ·)).toArray.toList = _; rw [List.toList_toArray]
  rw [e]
  unfold inAl
  rw [Bool.eq_iff_iff, decide_eq_true_eq, Bool.and_eq_true, decide_eq_true_eq, decide_eq_true_eq, List.mem_map]
  constructor
  · rintro ⟨a, ha, rfl⟩
    have := List.mem_range.mp ha
    omega
  · rintro ⟨h1, h2⟩
    exact ⟨c - o, List.mem_range.mpr (by omega), by omega⟩
section
variable {X : Cx} {E : XK} {x : Str} {C : Addr} {np cpos pos jp : Pos}
def tFmtR (t : TE) : TE := fun σ H Q => t σ H fun v H1 => ∃ x, v = .str x ∧ Tx x ∧ ∀ y, y.length ≤ 1000 → Q (.str y) H1
theorem pe_fmtR {v : Expr} {tv : TE} (hv : PE X v tv) : PE X (.FormattedValue v 114 none pos) (tFmtR tv) := by
  intro pins s σ H Q I h
  refine wpAny_FormattedValue_repr (thn (hv pins s σ H _ I h) fun u s1 ⟨y, H1, I1, r1, z, hz, hl, q⟩ => ?_)
  subst hz
  obtain ⟨tk, rfl⟩ := r1
  have hx : (reprText z).length ≤ 1000 := by
    have e := StrLaws.reprText_len z (fun c hc => Nat.lt_of_lt_of_le (hl.asc c hc) (by decide))
    have := hl.len
    omega
  have hz : (reprText z).length ≤ sizeLine := Nat.le_trans hx (by decide)
  refine pyReprObj_str (hx := hz) (wpAny_formatField_str (hx := hz) ?_ ?_)
  · exact ⟨.str (reprText z), H1, I1.tok _, ⟨_, rfl⟩, q _ hx⟩
  · exact ⟨.str (reprText z), H1, (I1.tok _).tok _, ⟨_, rfl⟩, q _ hx⟩
def tFmtI (t : TE) : TE := fun σ H Q => t σ H fun v H1 => ∃ n : Nat, v = .int n ∧ n ≤ 100 ∧ ∀ y, y.length ≤ 1000 → Q (.str y) H1
theorem int_txt : ∀ n : Nat, n ≤ 100 → (Str.ofString (toString (n : Int))).length ≤ 1000 ∧ (n : Int).natAbs.log2 < 1920 := by
  intro n hn
  exact (by decide +kernel : ∀ n : Nat, n < 101 → (Str.ofString (toString (n : Int))).length ≤ 1000 ∧ (n : Int).natAbs.log2 < 1920) n (by omega)
theorem pe_fmtI {v : Expr} {tv : TE} (hv : PE X v tv) : PE X (.FormattedValue v (-1) none pos) (tFmtI tv) := by
  intro pins s σ H Q I h
  refine wpAny_FormattedValue_plain (thn (hv pins s σ H _ I h) fun u s1 ⟨y, H1, I1, r1, n, hz, hl, q⟩ => ?_)
  subst hz
  obtain ⟨tk, rfl⟩ := r1
  exact wpAny_formatField_int (int_txt n hl).2 ⟨.str (toString (n : Int)), H1, (I1.tok _).tok _, ⟨_, rfl⟩, q _ (int_txt n hl).1⟩
def tParts : List TE → St → Hp → (Hp → Prop) → Prop
  | [], _, H, R => R H
  | t :: ts, σ, H, R => t σ H fun v H1 => ∃ x, v = .str x ∧ x.length ≤ 1000 ∧ tParts ts σ H1 R
theorem PE.imp {e : Expr} {t t' : TE} (h : PE X e t) (k : ∀ σ H Q, t' σ H Q → t σ H Q) : PE X e t' := fun pins s σ H Q I q => h pins s σ H Q I (k σ H Q q)
def MonoT (t : TE) : Prop := ∀ σ H (Q Q' : VK), (∀ v H', Q v H' → Q' v H') → t σ H Q → t σ H Q'
def tRaiseF (C : Addr) (E : XK) (ts : List TE) : TS := fun _ σ H => tParts ts σ H fun H1 => E (.ref C) none H1
inductive PMs (X : Cx) : List Expr → List TE → Prop where
  | nil : PMs X [] []
  | cons {e : Expr} {t : TE} {es : List Expr} {ts : List TE} : PE X e t → MonoT t → PMs X es ts → PMs X (e :: es) (t :: ts)
theorem PMs.pes {es : List Expr} {ts : List TE} (h : PMs X es ts) : PEs X es ts := by
  induction h with
  | nil => exact .nil
  | cons a _ _ ih => exact .cons a ih
theorem parts_join {es : List Expr} {ts : List TE} (h : PMs X es ts) : ∀ (acc : Str) (k : Nat) (σ : St) (H : Hp) (R : Hp → Prop), acc.length ≤ 1000 * k → k + ts.length ≤ 10 → tParts ts σ H R → tJoin ts acc σ H fun _ H1 => R H1 := by
  induction h with
  | nil => intro acc k σ H R _ _ q; exact q
  | cons a m _ ih =>
    intro acc k σ H R ha hk q
    rw [List.length_cons] at hk
    refine m σ H _ _ (fun v H1 ⟨x, hx, lx, r⟩ => ⟨x, hx, ?_, ih (acc ++ x) (k + 1) σ H1 R ?_ (by omega) r⟩) q
    · rw [strLen_append]
      have : (10000 : Nat) ≤ sizeLine := by decide
      have : 1000 * k ≤ 9000 := by omega
      omega
    · rw [strLen_append]; omega
theorem ps_raiseF {v1 v2 : Expr} {vs : List Expr} {ts : List TE} (hl : Lets X E) (hex : X.ex = []) (hc : X.calm = true) (hg : Gl X x) (hm : X.mg x = some (.ref C)) (hC : IsX X.K C) (hp : PMs X (v1 :: v2 :: vs) ts) (hn : ts.length ≤ 10 := by simp)
    (hdb : (x == ("__debug__" : Str)) = false := by decide) : PS X (.Raise (some (.Call (.Name x np) [.JoinedStr (v1 :: v2 :: vs) jp] [] cpos)) none pos) (tRaiseF C E ts) := by
  intro pins s σ H D I h
  refine ps_raise hl hex hc hg hm hC (pa_cons (pe_joined hp.pes) pa_nil) hdb rfl rfl pins s σ H D I ?_
  have q := parts_join hp Str.empty 0 σ H _ (by decide) (by omega) h
  have mono : ∀ (ts : List TE) (acc : Str), (∀ t ∈ ts, MonoT t) → ∀ σ H (Q Q' : VK), (∀ v H', Q v H' → Q' v H') → tJoin ts acc σ H Q → tJoin ts acc σ H Q' := by
    intro ts
    induction ts with
    | nil => intro acc _ σ H Q Q' k q; exact k _ _ q
    | cons t ts ih => intro acc hm σ H Q Q' k q; exact hm t (List.mem_cons_self ..) σ H _ _ (fun v H1 ⟨x, e, l, r⟩ => ⟨x, e, l, ih (acc ++ x) (fun t' ht' => hm t' (List.mem_cons_of_mem _ ht')) σ H1 Q Q' k r⟩) q
  have all : ∀ {es : List Expr} {ts : List TE}, PMs X es ts → ∀ t ∈ ts, MonoT t := by
    intro es ts h
    induction h with
    | nil => intro t ht; cases ht
    | cons a m _ ih =>
      intro t ht
      rcases List.mem_cons.mp ht with rfl | ht
      · exact m
      · exact ih t ht
  refine mono ts Str.empty (all hp) σ H _ _ (fun v H1 r => ?_) q
  exact ⟨by show 1 ≤ sizeLine; decide, r⟩
theorem mo_c (v : V) : MonoT (tC v) := fun σ H Q Q' k q => k _ _ q
theorem mo_var (i : Nat) : MonoT (tVar i) := fun σ H Q Q' k ⟨v, e, q⟩ => ⟨v, e, k _ _ q⟩
theorem mo_fmtR {t : TE} (m : MonoT t) : MonoT (tFmtR t) := fun σ H Q Q' k q => m σ H _ _ (fun v H1 ⟨x, e, t, r⟩ => ⟨x, e, t, fun y hy => k _ _ (r y hy)⟩) q
theorem mo_fmtI {t : TE} (m : MonoT t) : MonoT (tFmtI t) := fun σ H Q Q' k q => m σ H _ _ (fun v H1 ⟨x, e, t, r⟩ => ⟨x, e, t, fun y hy => k _ _ (r y hy)⟩) q
theorem mo_fmt {t : TE} (m : MonoT t) : MonoT (tFmt t) := fun σ H Q Q' k q => m σ H _ _ (fun v H1 ⟨x, e, t, r⟩ => ⟨x, e, t, k _ _ r⟩) q
end
end L2
namespace K4
open PySem L2
section
variable {P : Program} {w : World} {K : PySem.W.Frag} {mg : Str → Option Value} {base : Heap} {f g : Addr} {fd gd : FuncData}
def spSpelt : Sp := fun vs H Q _ => ∃ (x : Str) (o : Nat), vs = [.str x, .str (alpha o)] ∧ x.length ≤ 20 ∧ ∀ H', Same H H' → Q (.bl (wordB o x)) H'
theorem scSpelt : FnScope ["text", "letters"] ["text", "letters"] (defScope sSpelt) := ⟨rfl, rfl, rfl, by decide +kernel, rfl, by decide +kernel, by decide +kernel⟩
theorem nd_sl : List.Nodup [("sign" : Str), "letters"] := by decide +kernel
def rInS : R2 := fun x y H Q => ∃ i j, x = .str i ∧ y = .str j ∧ Q (.bl (!(Builtin.Str.occurrences j i 0 j.length 1).isEmpty)) H
theorem op_inS {X : Cx} : OpR X (compareOp .In) rInS := op_in_str
theorem all_in {x : Str} {o : Nat} {H : Hp} {Q : VK} {z : Option V} (lx : x.length ≤ 20) (q : ∀ H', Same H H' → Q (.bl (x.cps.toList.all (inAl o))) H') :
    CompW (Its x) (gName 0) (tOp rInS (tVar 0) (tVar 1)) [z, some (.str (alpha o))] (fun v H1 => ∃ (p : Addr) (bs : List Bool), [v] = [.ref p] ∧ SqL K H1 p (bs.map V.bl) ∧ Q (.bl (bs.all id)) H1) H := by
  have lz : x.cps.size = x.length := rfl
  have lt : x.cps.toList.length = x.length := Array.length_toList
  refine comp_form x.length (small1000 (by omega)) (fun i vs H' => Same H H' ∧ i ≤ x.length ∧ vs = ((x.cps.toList.take i).map (inAl o)).map V.bl) ⟨Same.refl _, Nat.zero_le _, rfl⟩ (fun i vs H' z => by
    obtain ⟨_, z1, z2⟩ := z
    rw [z2, List.length_map, List.length_map, List.length_take]; omega) ?_ ?_ ?_ ?_
  · intro i vs H' hi z
    exact hi
  · intro vs H' z
    exact Nat.le_refl _
  · intro i vs H' v H'' R hi z yl hR
    obtain ⟨rfl, c, hcc, rfl⟩ := yl
    refine ⟨_, rfl, _, rfl, _, _, rfl, rfl, ?_⟩
    rw [StrLaws.found_one, mem_alpha]
    have hg : x.cps.toList[i]? = some c := by rw [Array.getElem?_toList]; exact hcc
    refine hR _ _ ⟨z.1, hi, ?_⟩
    rw [z.2.2, take_snoc hg, List.map_append, List.map_append]; rfl
  · intro vs H' p z hp
    refine ⟨p, x.cps.toList.map (inAl o), rfl, SqL.of (by rw [upd_same, z.2.2, List.take_of_length_le (by omega)]), ?_⟩
    rw [show (x.cps.toList.map (inAl o)).all id = x.cps.toList.all (inAl o) by rw [List.all_map]; rfl]
    exact q _ (z.1.trans (same_upd hp _))
theorem ok_spelt {n : Nat} {u : Value} (B : Blt mg) (F : Fun K "is_spelt" "is_spelt" sSpelt f fd) (hL : mg "LONGEST" = some u) (rL : RelV (.int 8) u) : FnOk P w K mg base CX0 (n + 1) f fd ["text", "letters"] spSpelt := by
  refine F.ok scSpelt (fun vs H Q E h => ?_) (fun cdv A outer s H vs Q E hr h => ?_)
  · obtain ⟨x, o, rfl, _⟩ := h
    rfl
  obtain ⟨x, o, rfl, lx, q⟩ := h
  refine ⟨_, pss_cons (ps_if (pt_not (pt_val (pe_isi rfl B.isi rfl B.str boot_str' (pv 0)))) (pss_one (ps_ret pe_bl)) pss_nil)
    (pss_one (ps_ret (pe_and (pe_chain op_le op_le pe_int (pe_callB call_len_str rfl B.len PySem.boot_len (pa_cons (pv 0) pa_nil)) (pe_glob rfl hL rL))
      (pe_one (pe_callB (call_all rfl) rfl B.all boot_all' (pa_cons (pe_cmpr ["sign"] [1] (pi_str (pv 0)) (gk_name (i := 0) (by decide))
        (fun cl C fp s H => pg_name (i := 0) nd_sl rfl (Or.inl rfl) (Or.inr rfl)) (fun cl C fp s H => pe_cmpR op_inS (pv 0) (pv 1) rfl)) pa_nil)))))), ?_⟩
  refine ⟨_, rfl, _, _, _, _, rfl, .str x, kit_same K "str", _, rfl, ?_⟩
  refine iteM (by simp) ?_
  have ls : x.length ≤ sizeLine := Nat.le_of_lt (small1000 (by omega))
  refine ⟨_, rfl, x, rfl, ls, _, _, rfl, rfl, _, rfl, ?_⟩
  by_cases h1 : 1 ≤ x.length
  · refine iteP (by simp; omega) ?_
    refine ⟨_, _, rfl, rfl, _, rfl, ?_⟩
    by_cases h8 : x.length ≤ 8
    · refine iteP (by simp; omega) ?_
      refine ⟨_, rfl, x, rfl, ?_⟩
      refine all_in lx fun H' s' => ?_
      have e : wordB o x = x.cps.toList.all (inAl o) := by unfold wordB; simp [h1, h8]
      rw [← e]
      exact q _ s'
    · refine iteM (by simp; omega) ?_
      have e : wordB o x = false := by unfold wordB; simp [h8]
      rw [e] at q
      exact q _ (Same.refl _)
  · refine iteM (by simp; omega) ?_
    have e : wordB o x = false := by unfold wordB; simp [h1]
    rw [e] at q
    refine ⟨_, rfl, ?_⟩
    refine iteM (by simp) ?_
    exact q _ (Same.refl _)
theorem scLWord : FnScope ["text", "letters"] ["text", "letters"] (defScope sWord) := ⟨rfl, rfl, rfl, by decide +kernel, rfl, by decide +kernel, by decide +kernel⟩
theorem ok_lword {n : Nat} (B : Blt mg) (F : Fun K "_law_word" "_law_word" sWord f fd) : FnOk P w K mg base CX0 (n + 1) f fd ["text", "letters"] spSpelt := by
  refine F.ok scLWord (fun vs H Q E h => ?_) (fun cdv A outer s H vs Q E hr h => ?_)
  · obtain ⟨x, o, rfl, _⟩ := h
    rfl
  obtain ⟨x, o, rfl, lx, q⟩ := h
  refine ⟨_, pss_cons (ps_if (PW.pt (pw_or (pt_cmpR op_lt (pe_callB call_len_str rfl B.len PySem.boot_len (pa_cons (pv 0) pa_nil)) pe_int (nomark _)) (pw_or1 (pt_cmpR op_gt (pe_callB call_len_str rfl B.len PySem.boot_len (pa_cons (pv 0) pa_nil)) pe_int (nomark _))))) (pss_one (ps_ret pe_bl)) pss_nil)
    (pss_one (ps_ret (pe_callB (call_all rfl) rfl B.all boot_all' (pa_cons (pe_cmpr ["sign"] [1] (pi_str (pv 0)) (gk_name (i := 0) (by decide))
        (fun cl C fp s H => pg_name (i := 0) nd_sl rfl (Or.inl rfl) (Or.inr rfl)) (fun cl C fp s H => pe_cmpR op_inS (pv 0) (pv 1) rfl)) pa_nil)))), ?_⟩
  have ls : x.length ≤ sizeLine := Nat.le_of_lt (small1000 (by omega))
  refine ⟨_, rfl, x, rfl, ls, _, _, rfl, rfl, _, rfl, ?_⟩
  by_cases h1 : 1 ≤ x.length
  · refine iteM (by simp; omega) ?_
    refine ⟨_, rfl, x, rfl, ls, _, _, rfl, rfl, _, rfl, ?_⟩
    by_cases h8 : x.length ≤ 8
    · refine iteM (by simp; omega) ?_
      refine ⟨_, rfl, x, rfl, ?_⟩
      refine all_in lx fun H' s' => ?_
      have e : wordB o x = x.cps.toList.all (inAl o) := by unfold wordB; simp [h1, h8]
      rw [← e]
      exact q _ s'
    · refine iteP (by simp; omega) ?_
      have e : wordB o x = false := by unfold wordB; simp [h8]
      rw [e] at q
      exact q _ (Same.refl _)
  · refine iteP (by simp; omega) ?_
    have e : wordB o x = false := by unfold wordB; simp [h1]
    rw [e] at q
    refine iteP rfl ?_
    exact q _ (Same.refl _)
def spWord (o : Nat) : Sp := fun vs H Q _ => ∃ (x : Str), vs = [.str x] ∧ x.length ≤ 20 ∧ ∀ H', Same H H' → Q (.bl (wordB o x)) H'
theorem scIsName : FnScope ["text"] ["text"] (defScope sIsName) := ⟨rfl, rfl, rfl, by decide +kernel, rfl, by decide +kernel, by decide +kernel⟩
theorem ok_isName {n : Nat} {u : Value} (F : Fun K "is_name" "is_name" sIsName f fd) (G : FnOk P w K mg base CX0 n g gd ["text", "letters"] spSpelt) (bG : Binds K gd ["text", "letters"] []) (kG : PySem.W.keepIn K (.ref g) = true) (mG : mg "is_spelt" = some (.ref g))
    (hL : mg "SMALL" = some u) (rL : RelV (.str (Str.ofString "abcdefghijklmnopqrstuvwxyz")) u) : FnOk P w K mg base CX0 (n + 1) f fd ["text"] (spWord 97) := by
  refine F.ok scIsName (fun vs H Q E h => ?_) (fun cdv A outer s H vs Q E hr h => ?_)
  · obtain ⟨x, rfl, _⟩ := h
    rfl
  obtain ⟨x, rfl, q⟩ := h
  refine ⟨_, pss_one (ps_ret (pe_call G hr rfl mG kG bG .nil pass0 (pa_cons (pv 0) (pa_cons (pe_glob rfl hL rL) pa_nil)))), ?_⟩
  refine ⟨_, rfl, x, 97, ?_, q⟩
  rw [← small_abc]; rfl
theorem scIsTag : FnScope ["text"] ["text"] (defScope sIsTag) := ⟨rfl, rfl, rfl, by decide +kernel, rfl, by decide +kernel, by decide +kernel⟩
theorem ok_isTag {n : Nat} {u : Value} (F : Fun K "is_tag" "is_tag" sIsTag f fd) (G : FnOk P w K mg base CX0 n g gd ["text", "letters"] spSpelt) (bG : Binds K gd ["text", "letters"] []) (kG : PySem.W.keepIn K (.ref g) = true) (mG : mg "is_spelt" = some (.ref g))
    (hL : mg "GREAT" = some u) (rL : RelV (.str (Str.ofString "ABCDEFGHIJKLMNOPQRSTUVWXYZ")) u) : FnOk P w K mg base CX0 (n + 1) f fd ["text"] (spWord 65) := by
  refine F.ok scIsTag (fun vs H Q E h => ?_) (fun cdv A outer s H vs Q E hr h => ?_)
  · obtain ⟨x, rfl, _⟩ := h
    rfl
  obtain ⟨x, rfl, q⟩ := h
  refine ⟨_, pss_one (ps_ret (pe_call G hr rfl mG kG bG .nil pass0 (pa_cons (pv 0) (pa_cons (pe_glob rfl hL rL) pa_nil)))), ?_⟩
  refine ⟨_, rfl, x, 65, ?_, q⟩
  rw [← great_abc]; rfl
end
end K4
namespace L2
open PySem
def high (ks : List (Str × Shp)) : Nat → Str → Nat
  | 0, _ => 0
  | n + 1, y => match shOf ks y with
    | none => 0
    | some (.tags _) => 1
    | some (.pair a b) => 1 + high ks n a + high ks n b
def hasTag (t : Str) : Shp → Bool
  | .tags ts => decide (t ∈ ts)
  | .pair _ _ => false
def isPair (a b : Str) : Shp → Bool
  | .tags _ => false
  | .pair c e => decide (c = a) && decide (e = b)
def tagKind (ks : List (Str × Shp)) (t : Str) : Option Str := (ks.find? fun k => hasTag t k.2).map (·.1)
def pairKind (ks : List (Str × Shp)) (a b : Str) : Option Str := (ks.find? fun k => isPair a b k.2).map (·.1)
theorem find_snoc {α : Type} (p : α → Bool) (l : List α) (x : α) : (l ++ [x]).find? p = (l.find? p).or (if p x = true then some x else none) := by
  rw [List.find?_append]
  congr 1
  rw [List.find?_cons]
  cases p x <;> simp
theorem shOf_snoc {ks : List (Str × Shp)} {x : Str × Shp} {z : Str} (h : z ∈ ks.map (·.1)) : shOf (ks ++ [x]) z = shOf ks z := by
  obtain ⟨s, hs⟩ := shOf_of h
  unfold shOf at hs ⊢
  rw [find_snoc]
  cases e : ks.find? fun k => decide (k.1 = z) with
  | none => rw [e] at hs; cases hs
  | some k => rfl
theorem shOf_none {ks : List (Str × Shp)} {z : Str} (h : z ∉ ks.map (·.1)) : shOf ks z = none := by
  cases e : shOf ks z with
  | none => rfl
  | some s => exact absurd (List.mem_map.mpr ⟨_, shOf_mem e, rfl⟩) h
theorem shOf_new {ks : List (Str × Shp)} {z : Str} {s : Shp} (h : z ∉ ks.map (·.1)) : shOf (ks ++ [(z, s)]) z = some s := by
  have q := shOf_none h
  unfold shOf at q ⊢
  rw [find_snoc]
  cases e : ks.find? fun k => decide (k.1 = z) with
  | none => simp
  | some k => rw [e] at q; cases q
theorem worths_snoc {top : Nat} {c d : Str → Nat} {ks : List (Str × Shp)} (h : KK top c d ks) (x : Str × Shp) : ∀ (n : Nat) (z : Str), z ∈ ks.map (·.1) → worths (ks ++ [x]) n z = worths ks n z
  | 0, _, _ => rfl
  | n + 1, z, hz => by
    obtain ⟨s, hs⟩ := shOf_of hz
    rw [worths_eq hs, worths_eq ((shOf_snoc hz).trans hs)]
    cases s with
    | tags ts => rfl
    | pair a b =>
      obtain ⟨h1, h2, _⟩ := h.at hs
      show (W.non :: _) = (W.non :: _)
      rw [worths_snoc h x n a h1, worths_snoc h x n b h2]
def hOf (ks : List (Str × Shp)) (n : Nat) : Shp → Nat
  | .tags _ => 1
  | .pair a b => 1 + high ks n a + high ks n b
theorem high_eq {ks : List (Str × Shp)} {n : Nat} {y : Str} {s : Shp} (h : shOf ks y = some s) : high ks (n + 1) y = hOf ks n s := by
  conv => lhs; unfold high
  rw [h]
  cases s <;> rfl
theorem high_snoc {top : Nat} {c d : Str → Nat} {ks : List (Str × Shp)} (h : KK top c d ks) (x : Str × Shp) : ∀ (n : Nat) (z : Str), z ∈ ks.map (·.1) → high (ks ++ [x]) n z = high ks n z
  | 0, _, _ => rfl
  | n + 1, z, hz => by
    obtain ⟨s, hs⟩ := shOf_of hz
    rw [high_eq hs, high_eq ((shOf_snoc hz).trans hs)]
    cases s with
    | tags ts => rfl
    | pair a b =>
      obtain ⟨h1, h2, _⟩ := h.at hs
      show 1 + _ + _ = 1 + _ + _
      rw [high_snoc h x n a h1, high_snoc h x n b h2]
theorem high_fuel {top : Nat} {c d : Str → Nat} {ks : List (Str × Shp)} (h : KK top c d ks) : ∀ (n m : Nat) (y : Str), y ∈ ks.map (·.1) → d y < n → d y < m → high ks n y = high ks m y
  | 0, _, _, _, h1, _ => absurd h1 (Nat.not_lt_zero _)
  | _ + 1, 0, _, _, _, h2 => absurd h2 (Nat.not_lt_zero _)
  | n + 1, m + 1, y, hy, h1, h2 => by
    obtain ⟨s, hs⟩ := shOf_of hy
    have k1 := h.at hs
    rw [high_eq hs, high_eq hs]
    cases s with
    | tags ts => rfl
    | pair a b =>
      obtain ⟨q1, q2, q3, q4, q5, q6⟩ := k1
      have m1 := Nat.le_max_left (d a) (d b)
      have m2 := Nat.le_max_right (d a) (d b)
      show 1 + _ + _ = 1 + _ + _
      rw [high_fuel h n m a q1 (by omega) (by omega), high_fuel h n m b q2 (by omega) (by omega)]
structure KA6 where
  t : Addr
  dx : Addr
  sh : Addr
  wo : Addr
  he : Addr
  pd : Addr
  tk : Addr
  pk : Addr
structure KC where
  sh : List (Key × V)
  wo : List (Key × V)
  he : List (Key × V)
  pd : List (Key × V)
  tk : List (Key × V)
  pk : List (List Key × V)
def flds (A : KA6) : List (Str × V) := [("shapes", .ref A.sh), ("worths", .ref A.wo), ("heights", .ref A.he), ("pairs_deep", .ref A.pd), ("tag_kinds", .ref A.tk), ("pair_kinds", .ref A.pk)]
def KA6.ds (A : KA6) : List Addr := [A.sh, A.wo, A.he, A.pd, A.tk, A.pk]
structure KD (H : Hp) (C : Addr) (A : KA6) (S : KC) : Prop where
  ins : H A.t = some (.ins C A.dx (flds A))
  sh : H A.sh = some (.dK S.sh)
  wo : H A.wo = some (.dK S.wo)
  he : H A.he = some (.dK S.he)
  pd : H A.pd = some (.dK S.pd)
  tk : H A.tk = some (.dK S.tk)
  pk : H A.pk = some (.dT S.pk)
  nd : A.ds.Nodup
structure KR (H : Hp) (S : KC) (ks : List (Str × Shp)) (d : Str → Nat) : Prop where
  ke : S.sh.map (·.1) = ks.map (fun k => Sum.inr k.1)
  sh : ∀ y s, shOf ks y = some s → ∃ v, valV S.sh (Sum.inr y) = some v ∧ Has H v s.dat
  wo : ∀ y ∈ ks.map (·.1), ∃ l xs, valV S.wo (Sum.inr y) = some (.ref l) ∧ H l = some (.lst xs) ∧ HasL H xs ((worths ks 3 y).map W.dat)
  he : ∀ y ∈ ks.map (·.1), valV S.he (Sum.inr y) = some (.int (high ks 3 y : Nat))
  pd : ∀ y ∈ ks.map (·.1), valV S.pd (Sum.inr y) = some (.int (d y : Nat))
  tk : ∀ x : Str, valV S.tk (Sum.inr x) = (tagKind ks x).map V.str
  pk : ∀ a b : Str, valV S.pk [Sum.inr a, Sum.inr b] = (pairKind ks a b).map V.str
  ln : S.sh.length ≤ 4 * ks.length ∧ S.wo.length ≤ 4 * ks.length ∧ S.he.length ≤ 4 * ks.length ∧ S.pd.length ≤ 4 * ks.length ∧ S.tk.length ≤ 4 * ks.length ∧ S.pk.length ≤ 4 * ks.length
def KI (H : Hp) (C t : Addr) (ks : List (Str × Shp)) (d : Str → Nat) : Prop := ∃ A S, A.t = t ∧ KD H C A S ∧ KR H S ks d
theorem KD.mono {H H' : Hp} {C : Addr} {A : KA6} {S : KC} (k : KD H C A S) (e : Same H H') : KD H' C A S := ⟨e _ _ k.ins, e _ _ k.sh, e _ _ k.wo, e _ _ k.he, e _ _ k.pd, e _ _ k.tk, e _ _ k.pk, k.nd⟩
def TL (H H' : Hp) : Prop := (∀ b xs, H b = some (.tup xs) → H' b = some (.tup xs)) ∧ ∀ b xs, H b = some (.lst xs) → H' b = some (.lst xs)
theorem Same.tl {H H' : Hp} (e : Same H H') : TL H H' := ⟨fun b xs h => e _ _ h, fun b xs h => e _ _ h⟩
theorem TL.trans {H H1 H2 : Hp} (a : TL H H1) (b : TL H1 H2) : TL H H2 := ⟨fun c xs h => b.1 _ _ (a.1 _ _ h), fun c xs h => b.2 _ _ (a.2 _ _ h)⟩
mutual
theorem Has.tl {H H' : Hp} (e : TL H H') : ∀ (d : Dat) {v : V}, Has H v d → Has H' v d
  | .non, _, h => by unfold Has at h ⊢; exact h
  | .bl _, _, h => by unfold Has at h ⊢; exact h
  | .int _, _, h => by unfold Has at h ⊢; exact h
  | .str _, _, h => by unfold Has at h ⊢; exact h
  | .tup ds, _, h => by
    unfold Has at h ⊢
    obtain ⟨a, xs, h1, h2, h3⟩ := h
    exact ⟨a, xs, h1, e.1 _ _ h2, HasL.tl e ds h3⟩
  | .lst ds, _, h => by
    unfold Has at h ⊢
    obtain ⟨a, xs, h1, h2, h3⟩ := h
    exact ⟨a, xs, h1, e.2 _ _ h2, HasL.tl e ds h3⟩
theorem HasL.tl {H H' : Hp} (e : TL H H') : ∀ (ds : List Dat) {xs : List V}, HasL H xs ds → HasL H' xs ds
  | [], [], h => by unfold HasL; trivial
  | [], _ :: _, h => by unfold HasL at h; exact h.elim
  | _ :: _, [], h => by unfold HasL at h; exact h.elim
  | d :: ds, x :: xs, h => by
    unfold HasL at h ⊢
    exact ⟨Has.tl e d h.1, HasL.tl e ds h.2⟩
end
theorem KR.tl {H H' : Hp} {S : KC} {ks : List (Str × Shp)} {d : Str → Nat} (k : KR H S ks d) (e : TL H H') : KR H' S ks d :=
  ⟨k.ke, fun y s h => let ⟨v, h1, h2⟩ := k.sh y s h; ⟨v, h1, Has.tl e _ h2⟩, fun y h => let ⟨l, xs, h1, h2, h3⟩ := k.wo y h; ⟨l, xs, h1, e.2 _ _ h2, HasL.tl e _ h3⟩, k.he, k.pd, k.tk, k.pk, k.ln⟩
theorem KI.mono {H H' : Hp} {C t : Addr} {ks : List (Str × Shp)} {d : Str → Nat} (k : KI H C t ks d) (e : Same H H') : KI H' C t ks d := by
  obtain ⟨A, S, h1, h2, h3⟩ := k
  exact ⟨A, S, h1, h2.mono e, h3.tl e.tl⟩
theorem inV_strs (x : Str) (ts : List Str) : inV (.str x) (ts.map V.str) = decide (x ∈ ts) := by
  induction ts with
  | nil => rfl
  | cons t ts ih =>
    have e : inV (.str x) ((t :: ts).map V.str) = ((t == x) || inV (.str x) (ts.map V.str)) := rfl
    rw [e, ih]
    by_cases h : t = x
    · subst h; simp
    · have h' : ¬ x = t := fun q => h q.symm
      simp [h, h']
theorem flat_strs (ts : List Str) : (ts.map V.str).all flatV = true := by
  induction ts with
  | nil => rfl
  | cons t ts ih => simp only [List.map_cons, List.all_cons, ih]; rfl
structure KCl (K : PySem.W.Frag) (C : Addr) : Prop where
  cl : Cls K C
  sh : NoAttr K C "shapes"
  wo : NoAttr K C "worths"
  he : NoAttr K C "heights"
  pd : NoAttr K C "pairs_deep"
  tk : NoAttr K C "tag_kinds"
  pk : NoAttr K C "pair_kinds"
theorem f_sh (A : KA6) : (flds A).lookup ("shapes" : Str) = some (V.ref A.sh) := rfl
theorem f_wo (A : KA6) : (flds A).lookup ("worths" : Str) = some (V.ref A.wo) := rfl
theorem f_he (A : KA6) : (flds A).lookup ("heights" : Str) = some (V.ref A.he) := rfl
theorem f_pd (A : KA6) : (flds A).lookup ("pairs_deep" : Str) = some (V.ref A.pd) := rfl
theorem f_tk (A : KA6) : (flds A).lookup ("tag_kinds" : Str) = some (V.ref A.tk) := rfl
theorem f_pk (A : KA6) : (flds A).lookup ("pair_kinds" : Str) = some (V.ref A.pk) := rfl
def KFr (A : KA6) (H H' : Hp) : Prop := ∀ b o, b ∉ A.ds → H b = some o → H' b = some o
theorem KFr.refl (A : KA6) (H : Hp) : KFr A H H := fun _ _ _ h => h
theorem KFr.trans {A : KA6} {H H1 H2 : Hp} (a : KFr A H H1) (b : KFr A H1 H2) : KFr A H H2 := fun c o hc h => b c o hc (a c o hc h)
theorem Same.kfr {A : KA6} {H H' : Hp} (e : Same H H') : KFr A H H' := fun b o _ h => e b o h
theorem KFr.put {A : KA6} {H H' : Hp} (a : KFr A H H') {x : Addr} (hx : x ∈ A.ds) (o : HO) : KFr A H (upd H' x o) := fun b u hb h => by
  have ne : b ≠ x := fun z => by rw [z] at hb; exact hb hx
  rw [upd_ne ne]; exact a b u hb h
theorem KFr.tl {A : KA6} {C : Addr} {S : KC} {H H' : Hp} (a : KFr A H H') (k : KD H C A S) : TL H H' := by
  have no : ∀ b u, H b = some u → (∀ l, u ≠ .dK l) → (∀ l, u ≠ .dT l) → b ∉ A.ds := fun b u hb n1 n2 hm => by
    simp only [KA6.ds, List.mem_cons, List.not_mem_nil, or_false] at hm
    rcases hm with z | z | z | z | z | z
    · rw [z, k.sh] at hb; exact n1 _ (Option.some.inj hb).symm
    · rw [z, k.wo] at hb; exact n1 _ (Option.some.inj hb).symm
    · rw [z, k.he] at hb; exact n1 _ (Option.some.inj hb).symm
    · rw [z, k.pd] at hb; exact n1 _ (Option.some.inj hb).symm
    · rw [z, k.tk] at hb; exact n1 _ (Option.some.inj hb).symm
    · rw [z, k.pk] at hb; exact n2 _ (Option.some.inj hb).symm
  exact ⟨fun b xs h => a b _ (no b _ h (fun l => by intro z; cases z) (fun l => by intro z; cases z)) h, fun b xs h => a b _ (no b _ h (fun l => by intro z; cases z) (fun l => by intro z; cases z)) h⟩
theorem KA6.apart {A : KA6} (n : A.ds.Nodup) : (A.sh ≠ A.wo ∧ A.sh ≠ A.he ∧ A.sh ≠ A.pd ∧ A.sh ≠ A.tk ∧ A.sh ≠ A.pk) ∧ (A.wo ≠ A.he ∧ A.wo ≠ A.pd ∧ A.wo ≠ A.tk ∧ A.wo ≠ A.pk) ∧ (A.he ≠ A.pd ∧ A.he ≠ A.tk ∧ A.he ≠ A.pk) ∧ (A.pd ≠ A.tk ∧ A.pd ≠ A.pk) ∧ A.tk ≠ A.pk := by
  simpa [KA6.ds] using n
section
variable {H : Hp} {C : Addr} {A : KA6} {S : KC}
theorem KD.put_sh (k : KD H C A S) (l : List (Key × V)) : KD (upd H A.sh (.dK l)) C A { S with sh := l } := by
  obtain ⟨⟨n1, n2, n3, n4, n5⟩, _⟩ := KA6.apart k.nd
  exact ⟨(upd_ne (ne_of k.ins k.sh (by intro z; cases z))).trans k.ins, upd_same, (upd_ne n1.symm).trans k.wo, (upd_ne n2.symm).trans k.he, (upd_ne n3.symm).trans k.pd, (upd_ne n4.symm).trans k.tk, (upd_ne n5.symm).trans k.pk, k.nd⟩
theorem KD.put_wo (k : KD H C A S) (l : List (Key × V)) : KD (upd H A.wo (.dK l)) C A { S with wo := l } := by
  obtain ⟨⟨n1, _⟩, ⟨n2, n3, n4, n5⟩, _⟩ := KA6.apart k.nd
  exact ⟨(upd_ne (ne_of k.ins k.wo (by intro z; cases z))).trans k.ins, (upd_ne n1).trans k.sh, upd_same, (upd_ne n2.symm).trans k.he, (upd_ne n3.symm).trans k.pd, (upd_ne n4.symm).trans k.tk, (upd_ne n5.symm).trans k.pk, k.nd⟩
theorem KD.put_he (k : KD H C A S) (l : List (Key × V)) : KD (upd H A.he (.dK l)) C A { S with he := l } := by
  obtain ⟨⟨_, n1, _⟩, ⟨n2, _⟩, ⟨n3, n4, n5⟩, _⟩ := KA6.apart k.nd
  exact ⟨(upd_ne (ne_of k.ins k.he (by intro z; cases z))).trans k.ins, (upd_ne n1).trans k.sh, (upd_ne n2).trans k.wo, upd_same, (upd_ne n3.symm).trans k.pd, (upd_ne n4.symm).trans k.tk, (upd_ne n5.symm).trans k.pk, k.nd⟩
theorem KD.put_pd (k : KD H C A S) (l : List (Key × V)) : KD (upd H A.pd (.dK l)) C A { S with pd := l } := by
  obtain ⟨⟨_, _, n1, _⟩, ⟨_, n2, _⟩, ⟨n3, _⟩, ⟨n4, n5⟩, _⟩ := KA6.apart k.nd
  exact ⟨(upd_ne (ne_of k.ins k.pd (by intro z; cases z))).trans k.ins, (upd_ne n1).trans k.sh, (upd_ne n2).trans k.wo, (upd_ne n3).trans k.he, upd_same, (upd_ne n4.symm).trans k.tk, (upd_ne n5.symm).trans k.pk, k.nd⟩
theorem KD.put_tk (k : KD H C A S) (l : List (Key × V)) : KD (upd H A.tk (.dK l)) C A { S with tk := l } := by
  obtain ⟨⟨_, _, _, n1, _⟩, ⟨_, _, n2, _⟩, ⟨_, n3, _⟩, ⟨n4, _⟩, n5⟩ := KA6.apart k.nd
  exact ⟨(upd_ne (ne_of k.ins k.tk (by intro z; cases z))).trans k.ins, (upd_ne n1).trans k.sh, (upd_ne n2).trans k.wo, (upd_ne n3).trans k.he, (upd_ne n4).trans k.pd, upd_same, (upd_ne n5.symm).trans k.pk, k.nd⟩
theorem KD.put_pk (k : KD H C A S) (l : List (List Key × V)) : KD (upd H A.pk (.dT l)) C A { S with pk := l } := by
  obtain ⟨⟨_, _, _, _, n1⟩, ⟨_, _, _, n2⟩, ⟨_, _, n3⟩, ⟨_, n4⟩, n5⟩ := KA6.apart k.nd
  exact ⟨(upd_ne (ne_of k.ins k.pk (by intro z; cases z))).trans k.ins, (upd_ne n1).trans k.sh, (upd_ne n2).trans k.wo, (upd_ne n3).trans k.he, (upd_ne n4).trans k.pd, (upd_ne n5).trans k.tk, upd_same, k.nd⟩
end
theorem mem_take_succ {α : Type} {l : List α} {i : Nat} {x a : α} (h : l[i]? = some a) : x ∈ l.take (i + 1) ↔ x ∈ l.take i ∨ x = a := by
  rw [take_snoc h, List.mem_append, List.mem_singleton]
structure Pt (H : Hp) (S : KC) (e : Str) (us : List W) (h p : Nat) : Prop where
  sh : (valV S.sh (Sum.inr e)).isSome = true
  wo : ∃ l xs, valV S.wo (Sum.inr e) = some (.ref l) ∧ H l = some (.lst xs) ∧ HasL H xs (us.map W.dat)
  he : valV S.he (Sum.inr e) = some (.int h)
  pd : valV S.pd (Sum.inr e) = some (.int p)
theorem val_none {ks : List (Str × Shp)} {kvs : List (Key × V)} (e : kvs.map (·.1) = ks.map (fun k => (Sum.inr k.1 : Key))) {y : Str} (h : y ∉ ks.map (·.1)) : valV kvs (Sum.inr y) = none := by
  unfold valV
  cases q : kvs.find? fun kv => decide (kv.1 = Sum.inr y) with
  | none => rfl
  | some kv =>
    have m := List.mem_of_find?_eq_some q
    have q' := List.find?_some q
    have z : kv.1 = Sum.inr y := of_decide_eq_true q'
    have m2 : (Sum.inr y : Key) ∈ kvs.map (·.1) := List.mem_map.mpr ⟨kv, m, z⟩
    rw [e] at m2
    obtain ⟨k, hk, ek⟩ := List.mem_map.mp m2
    exact absurd (List.mem_map.mpr ⟨k, hk, Sum.inr.inj ek⟩) h
theorem mem_snoc_ne {ks : List (Str × Shp)} {y z : Str} {s : Shp} (h : z ∈ (ks ++ [(y, s)]).map (·.1)) (n : z ≠ y) : z ∈ ks.map (·.1) := by
  rw [List.map_append, List.mem_append] at h
  rcases h with h | h
  · exact h
  · exact absurd (List.mem_singleton.mp h) n
theorem KR.snoc {H H' : Hp} {S S' : KC} {ks : List (Str × Shp)} {c d : Str → Nat} {y : Str} {s : Shp} {v : V} {r : Addr} (k : KR H S ks d) (t : TL H H') (kk : KK 30 c d ks) (k1 : KK1 30 c d (ks.map (·.1)) y s) (ny : y ∉ ks.map (·.1))
    (esh : S'.sh = putK S.sh (Sum.inr y) v) (hv : Has H' v s.dat) (ewo : S'.wo = putK S.wo (Sum.inr y) (.ref r)) (hr : ∃ xs, H' r = some (.lst xs) ∧ HasL H' xs ((wOf ks 3 s).map W.dat))
    (ehe : S'.he = putK S.he (Sum.inr y) (.int (hOf ks 3 s : Nat))) (epd : S'.pd = putK S.pd (Sum.inr y) (.int (d y : Nat)))
    (etk : ∀ x : Str, valV S'.tk (Sum.inr x) = if hasTag x s = true then some (.str y) else valV S.tk (Sum.inr x)) (ltk : S'.tk.length ≤ S.tk.length + 4) (ntk : ∀ x, hasTag x s = true → tagKind ks x = none)
    (epk : ∀ a b : Str, valV S'.pk [Sum.inr a, Sum.inr b] = if isPair a b s = true then some (.str y) else valV S.pk [Sum.inr a, Sum.inr b]) (lpk : S'.pk.length ≤ S.pk.length + 4) (npk : ∀ a b, isPair a b s = true → pairKind ks a b = none) :
    KR H' S' (ks ++ [(y, s)]) d := by
  have k' := k.tl t
  have vn := val_none k.ke ny
  have hw : worths (ks ++ [(y, s)]) 3 y = wOf ks 3 s := by
    rw [worths_eq (shOf_new ny)]
    cases s with
    | tags ts => rfl
    | pair a b =>
      obtain ⟨q1, q2, q3, q4, q5, q6⟩ := k1
      have m1 := Nat.le_max_left (d a) (d b)
      have m2 := Nat.le_max_right (d a) (d b)
      show (W.non :: _) = (W.non :: _)
      rw [worths_snoc kk _ 2 a q1, worths_snoc kk _ 2 b q2, worths_fuel kk 2 3 a q1 (by omega) (by omega), worths_fuel kk 2 3 b q2 (by omega) (by omega)]
  have hh : high (ks ++ [(y, s)]) 3 y = hOf ks 3 s := by
    rw [high_eq (shOf_new ny)]
    cases s with
    | tags ts => rfl
    | pair a b =>
      obtain ⟨q1, q2, q3, q4, q5, q6⟩ := k1
      have m1 := Nat.le_max_left (d a) (d b)
      have m2 := Nat.le_max_right (d a) (d b)
      show 1 + _ + _ = 1 + _ + _
      rw [high_snoc kk _ 2 a q1, high_snoc kk _ 2 b q2, high_fuel kk 2 3 a q1 (by omega) (by omega), high_fuel kk 2 3 b q2 (by omega) (by omega)]
  have ne : ∀ {z : Str}, z ≠ y → ¬ (Sum.inr z : Key) = Sum.inr y := fun n q => n (Sum.inr.inj q)
  obtain ⟨b1, b2, b3, b4, b5, b6⟩ := k.ln
  refine ⟨?_, fun z s' hz => ?_, fun z hz => ?_, fun z hz => ?_, fun z hz => ?_, fun x => ?_, fun a b => ?_, ?_⟩
  · rw [esh, putK_new v vn, List.map_append, List.map_append, k.ke]; rfl
  · rw [esh, valV_put]
    by_cases e : z = y
    · subst e
      rw [shOf_new ny] at hz
      cases hz
      rw [if_pos rfl]
      exact ⟨v, rfl, hv⟩
    · rw [if_neg (ne e)]
      have hz' := mem_snoc_ne (List.mem_map.mpr ⟨_, shOf_mem hz, rfl⟩) e
      rw [shOf_snoc hz'] at hz
      exact k'.sh z s' hz
  · rw [ewo, valV_put]
    by_cases e : z = y
    · subst e
      rw [if_pos rfl, hw]
      obtain ⟨xs, g1, g2⟩ := hr
      exact ⟨r, xs, rfl, g1, g2⟩
    · rw [if_neg (ne e)]
      have hz' := mem_snoc_ne hz e
      rw [worths_snoc kk _ 3 z hz']
      exact k'.wo z hz'
  · rw [ehe, valV_put]
    by_cases e : z = y
    · subst e
      rw [if_pos rfl, hh]
    · rw [if_neg (ne e)]
      have hz' := mem_snoc_ne hz e
      rw [high_snoc kk _ 3 z hz']
      exact k.he z hz'
  · rw [epd, valV_put]
    by_cases e : z = y
    · subst e
      rw [if_pos rfl]
    · rw [if_neg (ne e)]
      exact k.pd z (mem_snoc_ne hz e)
  · rw [etk x]
    have e : tagKind (ks ++ [(y, s)]) x = (tagKind ks x).or (if hasTag x s = true then some y else none) := by
      unfold tagKind
      rw [find_snoc]
      cases ks.find? fun k => hasTag x k.2 with
      | some k => rfl
      | none =>
        show Option.map _ (if hasTag x s = true then some (y, s) else none) = _
        cases hasTag x s <;> rfl
    rw [e]
    cases hx : hasTag x s with
    | true => rw [ntk x hx]; rfl
    | false =>
      rw [k.tk x]
      cases tagKind ks x <;> rfl
  · rw [epk a b]
    have e : pairKind (ks ++ [(y, s)]) a b = (pairKind ks a b).or (if isPair a b s = true then some y else none) := by
      unfold pairKind
      rw [find_snoc]
      cases ks.find? fun k => isPair a b k.2 with
      | some k => rfl
      | none =>
        show Option.map _ (if isPair a b s = true then some (y, s) else none) = _
        cases isPair a b s <;> rfl
    rw [e]
    cases hx : isPair a b s with
    | true => rw [npk a b hx]; rfl
    | false =>
      rw [k.pk a b]
      cases pairKind ks a b <;> rfl
  · rw [List.length_append, List.length_singleton, esh, ewo, ehe, epd]
    have := length_putK S.sh (Sum.inr y) v
    have := length_putK S.wo (Sum.inr y) (.ref r)
    have := length_putK S.he (Sum.inr y) (.int (hOf ks 3 s : Nat))
    have := length_putK S.pd (Sum.inr y) (.int (d y : Nat))
    exact ⟨by omega, by omega, by omega, by omega, by omega, by omega⟩
theorem fld_step {H : Hp} {p x C dx : Addr} {fs : List (Str × V)} {f : Str} {o : HO} (hx : H x = some (.ins C dx fs)) (hp : H p = none) :
    upd (upd H p o) x (.ins C dx (putF f (.ref p) fs)) x = some (.ins C dx (putF f (.ref p) fs)) ∧ upd (upd H p o) x (.ins C dx (putF f (.ref p) fs)) p = some o ∧ p ≠ x ∧ ∀ b u, b ≠ x → H b = some u → upd (upd H p o) x (.ins C dx (putF f (.ref p) fs)) b = some u := by
  have ne : p ≠ x := (ne_of_none hx hp).symm
  exact ⟨upd_same, (upd_ne ne).trans upd_same, ne, fun b u hb h => by rw [upd_ne hb, upd_ne (ne_of_none h hp)]; exact h⟩
theorem KK.take {top : Nat} {c d : Str → Nat} {ks : List (Str × Shp)} (h : KK top c d ks) (i : Nat) : KK top c d (ks.take i) := fun j y s e => by
  have hj : j < i := by
    have := (List.getElem?_eq_some_iff.mp e).1
    rw [List.length_take] at this
    omega
  rw [List.getElem?_take, if_pos hj] at e
  have q := h j y s e
  rw [List.take_take, Nat.min_eq_left (Nat.le_of_lt hj)]
  exact q
inductive GS where
  | tg (w : Str) (ts : List Str)
  | pr (w a b : Str)
def GS.dat : GS → Dat
  | .tg w ts => .tup [.str w, .tup (ts.map Dat.str)]
  | .pr w a b => .tup [.str w, .str a, .str b]
def gD (k : Str × GS) : Dat := .tup [.str k.1, k.2.dat]
def GS.tx : GS → Prop
  | .tg _ ts => ts.length ≤ 10 ∧ ∀ x ∈ ts, Tx x
  | .pr _ _ _ => True
def shp? : GS → Option Shp
  | .tg w ts => if w = "tags" then some (.tags ts) else none
  | .pr w a b => if w = "pair" then some (.pair a b) else none
structure JS where
  ks : List (Str × Shp)
  c : Str → Nat
  d : Str → Nat
def JS.nm (z : JS) : List Str := z.ks.map (·.1)
structure OkT (ks : List (Str × Shp)) (ts : List Str) : Prop where
  l1 : 1 ≤ ts.length
  l4 : ts.length ≤ 4
  wd : ∀ x ∈ ts, wordB 65 x = true
  nd : ts.Nodup
  nw : ∀ x ∈ ts, tagKind ks x = none
structure OkP (z : JS) (a b : Str) : Prop where
  ia : a ∈ z.nm
  ib : b ∈ z.nm
  nw : pairKind z.ks a b = none
  da : z.d a < 2
  db : z.d b < 2
  cc : z.c a * z.c b < 30
def OkS (z : JS) : Shp → Prop
  | .tags ts => OkT z.ks ts
  | .pair a b => OkP z a b
structure StepOk (z : JS) (y : Str) (g : GS) (s : Shp) : Prop where
  wd : wordB 97 y = true
  nw : y ∉ z.nm
  sh : shp? g = some s
  ok : OkS z s
def cN (z : JS) : Shp → Nat
  | .tags ts => 1 + ts.length
  | .pair a b => 1 + z.c a * z.c b
def dN (z : JS) : Shp → Nat
  | .tags _ => 0
  | .pair a b => 1 + max (z.d a) (z.d b)
def JS.new (z : JS) (y : Str) (s : Shp) : JS := ⟨z.ks ++ [(y, s)], fun t => if t = y then cN z s else z.c t, fun t => if t = y then dN z s else z.d t⟩
def Good : JS → List (Str × GS) → Prop
  | _, [] => True
  | z, k :: l => ∃ s, StepOk z k.1 k.2 s ∧ Good (z.new k.1 s) l
def z0 : JS := ⟨[], fun _ => 0, fun _ => 0⟩
def GoodAll (gs : List (Str × GS)) : Prop := 1 ≤ gs.length ∧ gs.length ≤ 6 ∧ Good z0 gs
structure JOk (z : JS) : Prop where
  kk : KK 30 z.c z.d z.ks
  nd : z.nm.Nodup
  wl : ∀ t ∈ z.nm, t.length ≤ 8
theorem StepOk.uniq {z : JS} {y : Str} {g : GS} {s s' : Shp} (h : StepOk z y g s) (h' : StepOk z y g s') : s = s' := Option.some.inj (h.sh.symm.trans h'.sh)
theorem JOk.zero : JOk z0 := ⟨fun i y s e => by simp [z0] at e, by simp [z0, JS.nm], fun t ht => by simp [z0, JS.nm] at ht⟩
theorem new_nm (z : JS) (y : Str) (s : Shp) : (z.new y s).nm = z.nm ++ [y] := by unfold JS.nm JS.new; rw [List.map_append]; rfl
theorem step_kk1 {z : JS} {y : Str} {g : GS} {s : Shp} (h : StepOk z y g s) : KK1 30 (z.new y s).c (z.new y s).d z.nm y s := by
  have e : ∀ {t : Str} {n m : Nat}, t ∈ z.nm → (if t = y then n else m) = m := fun {t n m} ht => if_neg fun q : t = y => h.nw (q ▸ ht)
  cases s with
  | tags ts =>
    have k : OkT z.ks ts := h.ok
    exact ⟨k.l1, k.l4, if_pos rfl, if_pos rfl, k.nd⟩
  | pair a b =>
    have k : OkP z a b := h.ok
    have ca : (z.new y (.pair a b)).c a = z.c a := e k.ia
    have cb : (z.new y (.pair a b)).c b = z.c b := e k.ib
    have da : (z.new y (.pair a b)).d a = z.d a := e k.ia
    have db : (z.new y (.pair a b)).d b = z.d b := e k.ib
    have cy : (z.new y (.pair a b)).c y = 1 + z.c a * z.c b := if_pos rfl
    have dy : (z.new y (.pair a b)).d y = 1 + max (z.d a) (z.d b) := if_pos rfl
    have := k.da
    have := k.db
    have := k.cc
    refine ⟨k.ia, k.ib, by rw [cy, ca, cb], by rw [cy]; omega, by rw [dy, da, db], by rw [dy]; omega⟩
theorem JOk.step {z : JS} {y : Str} {g : GS} {s : Shp} (j : JOk z) (h : StepOk z y g s) : JOk (z.new y s) := by
  have nd : (z.nm ++ [y]).Nodup := by
    rw [List.nodup_append]
    exact ⟨j.nd, by simp, fun a ha b hb e => h.nw (by rw [List.mem_singleton] at hb; rw [← hb, ← e]; exact ha)⟩
  refine ⟨KK.snoc (n := cN z s) (m := dN z s) j.kk nd (step_kk1 h), by rw [new_nm]; exact nd, fun t ht => ?_⟩
  rw [new_nm, List.mem_append, List.mem_singleton] at ht
  rcases ht with ht | rfl
  · exact j.wl t ht
  · have e := h.wd
    unfold wordB at e
    simp only [Bool.and_eq_true, decide_eq_true_eq] at e
    exact e.2.1
theorem KR.dcong {H : Hp} {S : KC} {ks : List (Str × Shp)} {d d' : Str → Nat} (k : KR H S ks d) (e : ∀ y ∈ ks.map (·.1), d' y = d y) : KR H S ks d' := ⟨k.ke, k.sh, k.wo, k.he, fun y hy => by rw [e y hy]; exact k.pd y hy, k.tk, k.pk, k.ln⟩
theorem JOk.le {z : JS} (j : JOk z) {y : Str} (hy : y ∈ z.nm) : z.d y ≤ 2 ∧ z.c y ≤ 30 := by
  obtain ⟨s, hs⟩ := shOf_of hy
  have k1 := j.kk.at hs
  cases s with
  | tags ts => obtain ⟨h1, h2, h3, h4, _⟩ := k1; omega
  | pair a b => obtain ⟨h1, h2, h3, h4, h5, h6⟩ := k1; exact ⟨h6, h4⟩
theorem val_is {ks : List (Str × Shp)} {kvs : List (Key × V)} (e : kvs.map (·.1) = ks.map (fun k => (Sum.inr k.1 : Key))) (hs : ∀ y s, shOf ks y = some s → ∃ v, valV kvs (Sum.inr y) = some v) (y : Str) : (valV kvs (Sum.inr y)).isSome = decide (y ∈ ks.map (·.1)) := by
  by_cases h : y ∈ ks.map (·.1)
  · obtain ⟨s, h1⟩ := shOf_of h
    obtain ⟨v, hv⟩ := hs y s h1
    rw [hv, decide_eq_true h]; rfl
  · rw [val_none e h, decide_eq_false h]; rfl
theorem KR.has {H : Hp} {S : KC} {ks : List (Str × Shp)} {d : Str → Nat} (k : KR H S ks d) (y : Str) : (valV S.sh (Sum.inr y)).isSome = decide (y ∈ ks.map (·.1)) := val_is k.ke (fun y s h => let ⟨v, h1, _⟩ := k.sh y s h; ⟨v, h1⟩) y
end L2
namespace K4
open PySem L2
section
variable {P : Program} {w : World} {K : PySem.W.Frag} {mg : Str → Option Value} {base : Heap} {f g C : Addr} {fd gd : FuncData}
def spNames (C : Addr) : Sp := fun vs H Q _ => ∃ (t : Addr) (ks : List (Str × Shp)) (d : Str → Nat), vs = [.ref t] ∧ KI H C t ks d ∧ ∀ l H', Same H H' → H l = none → H' l = some (.lst (ks.map fun k => V.str k.1)) → Q (.ref l) H'
theorem scNames : FnScope ["self"] ["self"] (defScope sNames) := ⟨rfl, rfl, rfl, by decide +kernel, rfl, by decide +kernel, by decide +kernel⟩
theorem ok_names {n : Nat} (B : Blt mg) (T : KCl K C) (F : Fun K "names" "Kinds.names" sNames f fd) : FnOk P w K mg base CX0 (n + 1) f fd ["self"] (spNames C) := by
  refine F.ok scNames (fun vs H Q E h => ?_) (fun cdv A outer s H vs Q E hr h => ?_)
  · obtain ⟨t, ks, d, rfl, _⟩ := h
    rfl
  obtain ⟨t, ks, d, rfl, ⟨A', S, rfl, kd, kr⟩, q⟩ := h
  refine ⟨_, pss_one (ps_ret (pe_callTy (call_list_dict rfl) rfl B.list boot_list' (pa_cons (pe_fld (pv 0) rfl) pa_nil))), ?_⟩
  refine ⟨_, rfl, _, C, _, _, _, rfl, kd.ins, T.cl, T.sh, f_sh _, _, _, rfl, kd.sh, fun l hl => ?_⟩
  refine q l _ (same_upd hl _) hl ?_
  rw [upd_same]
  have e : (S.sh.map fun kv => kV kv.1) = (S.sh.map (·.1)).map kV := by rw [List.map_map]; rfl
  rw [e, kr.ke, List.map_map]
  rfl
end
end K4
namespace L2
open PySem
structure OkTk (tk : List (Key × V)) (ts : List Str) : Prop where
  l1 : 1 ≤ ts.length
  l4 : ts.length ≤ 4
  wd : ∀ x ∈ ts, wordB 65 x = true
  nd : ts.Nodup
  nw : ∀ x ∈ ts, valV tk (Sum.inr x) = none
theorem take_nd {α : Type} {ts : List α} (nd : ts.Nodup) {i : Nat} {x : α} (h : ts[i]? = some x) : x ∉ ts.take i := fun hm => by
  have q' : (ts.take i ++ [x]).Nodup := by rw [← take_snoc h]; exact nd.sublist (List.take_sublist _ _)
  exact (List.nodup_append.mp q').2.2 x hm x (by simp) rfl
theorem nd_snoc2 {α : Type} {ts : List α} {i : Nat} {x : α} (h : ts[i]? = some x) (nd : (ts.take i).Nodup) (hx : x ∉ ts.take i) : (ts.take (i + 1)).Nodup := by
  rw [take_snoc h, List.nodup_append]
  exact ⟨nd, by simp, fun a ha b hb e => hx (by rw [List.mem_singleton] at hb; rw [← hb, ← e]; exact ha)⟩
theorem tx8 {x : Str} (h : Tx x) : x.length ≤ 1000 := by have := h.len; omega
end L2
namespace K4
open PySem L2
section
variable {P : Program} {w : World} {K : PySem.W.Frag} {mg : Str → Option Value} {base : Heap} {f g C N : Addr} {fd gd : FuncData}
def spTags (C N : Addr) : Sp := fun vs H Q E => ∃ (A : KA6) (S : KC) (y : Str) (l : Addr) (ts : List Str), vs = [.ref A.t, .str y, .ref l] ∧ KD H C A S ∧ H l = some (.tup (ts.map V.str)) ∧ Tx y ∧ (∀ x ∈ ts, Tx x) ∧
  S.tk.length ≤ 100 ∧ S.wo.length ≤ 100 ∧ S.he.length ≤ 100 ∧ S.pd.length ≤ 100 ∧
  (OkTk S.tk ts → ∀ H' tk' r, KFr A H H' → KD H' C A ⟨S.sh, putK S.wo (Sum.inr y) (.ref r), putK S.he (Sum.inr y) (.int 1), putK S.pd (Sum.inr y) (.int 0), tk', S.pk⟩ →
    (∀ x : Str, valV tk' (Sum.inr x) = if x ∈ ts then some (.str y) else valV S.tk (Sum.inr x)) → tk'.length ≤ S.tk.length + 4 → H' r = some (.lst (.non :: ts.map V.str)) → Q .non H') ∧
  (¬ OkTk S.tk ts → ∀ H', KFr A H H' → E (.ref N) none H')
theorem scTags : FnScope ["self", "name", "tags", "tag"] ["self", "name", "tags"] (defScope sTags) := ⟨rfl, rfl, rfl, by decide +kernel, rfl, by decide +kernel, by decide +kernel⟩
theorem ok_tags {n : Nat} {u : Value} (B : Blt mg) (T : KCl K C) (F : Fun K "take_tags" "Kinds.take_tags" sTags f fd) (hM : mg "MOST_TAGS" = some u) (rM : RelV (.int 4) u) (hN : mg "NoKinds" = some (.ref N)) (cN : IsX K N)
    (G : FnOk P w K mg base CX0 n g gd ["text"] (spWord 65)) (bG : Binds K gd ["text"] []) (kG : PySem.W.keepIn K (.ref g) = true) (mG : mg "is_tag" = some (.ref g)) : FnOk P w K mg base (CX1 P w) (n + 1) f fd ["self", "name", "tags"] (spTags C N) := by
  refine F.okX scTags (fun vs H Q E h => ?_) (fun cdv A outer s H vs Q E hr h => ?_)
  · obtain ⟨A', S, y, l, ts, rfl, _⟩ := h
    rfl
  obtain ⟨A', S, y, l, ts, rfl, kd, hl, ty, tt, b1, b2, b3, b4, q, qe⟩ := h
  have hu := hu_of hr
  refine ⟨_, pss_cons (ps_if (pt_not (pt_chain op_le op_le pe_int (pe_callB call_len_seq rfl B.len PySem.boot_len (pa_cons (pv 2) pa_nil)) (pe_glob rfl hM rM)))
      (pss_one (ps_raiseF lets_cx rfl rfl rfl hN cN (.cons (pe_fmt (pv 1)) (mo_fmt (mo_var _)) (.cons pe_str (mo_c _) (.cons (pe_fmtI (pe_glob rfl hM rM)) (mo_fmtI (mo_c _)) .nil))))) pss_nil)
    (pss_cons (ps_for PassesOwn.leaving rfl (pi_tup (pv 2)) (pg_name (i := 3) scTags.nd rfl (Or.inl rfl))
      (pss_cons (ps_if (pt_not (pt_val (pe_call G hr rfl mG kG bG .nil pass0 (pa_cons (pv 3) pa_nil)))) (pss_one (ps_raiseF lets_cx rfl rfl rfl hN cN (.cons (pe_fmtR (pv 3)) (mo_fmtR (mo_var _)) (.cons pe_str (mo_c _) .nil)))) pss_nil)
      (pss_cons (ps_if (pt_cmp (pc_din hu (pv 3) (pe_fld (pv 0) rfl))) (pss_one (ps_raiseF lets_cx rfl rfl rfl hN cN (.cons (pe_fmt (pv 3)) (mo_fmt (mo_var _)) (.cons pe_str (mo_c _) .nil)))) pss_nil)
      (pss_one (ps_dput hu (pe_fld (pv 0) rfl) (pv 3) (pv 1) rfl)))))
    (pss_cons (ps_dput hu (pe_fld (pv 0) rfl) (pv 1) (pe_op op_cat (pe_lst (pa_cons pe_non pa_nil)) (pe_callTy call_list_of rfl B.list boot_list' (pa_cons (pv 2) pa_nil))) rfl)
    (pss_cons (ps_dput hu (pe_fld (pv 0) rfl) (pv 1) pe_int rfl)
    (pss_one (ps_dput hu (pe_fld (pv 0) rfl) (pv 1) pe_int rfl))))), ?_⟩
  have lt : (ts.map V.str).length = ts.length := List.length_map _
  have no : ¬ (1 ≤ ts.length ∧ ts.length ≤ 4) → E (.ref N) none H := fun h => qe (fun o => h ⟨o.l1, o.l4⟩) H (KFr.refl _ _)
  have bad : ∃ v, [some (V.ref A'.t), some (V.str y), some (V.ref l), none][1]? = some (some v) := ⟨_, rfl⟩
  refine ⟨_, rfl, l, _, rfl, .inr (SqT.of hl), _, _, rfl, rfl, _, rfl, ?_⟩
  by_cases l1 : 1 ≤ ts.length
  case neg =>
    refine iteM (by simp; omega) ?_
    exact ⟨_, rfl, _, rfl, y, rfl, tx8 ty, _, rfl, tx8 ty, _, rfl, by decide, 4, rfl, by decide, fun t ht => ⟨t, rfl, ht, no fun h => l1 h.1⟩⟩
  refine iteP (by simp; omega) ?_
  refine ⟨_, _, rfl, rfl, _, rfl, ?_⟩
  by_cases l4 : ts.length ≤ 4
  case neg =>
    refine iteP (by simp; omega) ?_
    exact ⟨_, rfl, y, rfl, tx8 ty, _, rfl, tx8 ty, _, rfl, by decide, 4, rfl, by decide, fun t ht => ⟨t, rfl, ht, no fun h => l4 h.2⟩⟩
  refine iteM (by simp; omega) ?_
  refine ⟨_, rfl, l, rfl, ⟨_, SqT.of hl⟩, ?_⟩
  refine fl_tup (xs := ts.map V.str) (fun i σ H' => (KFr A' H H' ∧ (ts.take i).Nodup ∧ ∀ x ∈ ts.take i, wordB 65 x = true ∧ valV S.tk (Sum.inr x) = none) ∧ ∃ tk' z, KD H' C A' { S with tk := tk' } ∧ (∀ x : Str, valV tk' (Sum.inr x) = if x ∈ ts.take i then some (.str y) else valV S.tk (Sum.inr x)) ∧ tk'.length ≤ S.tk.length + i ∧ H' l = some (.tup (ts.map V.str)) ∧
    σ = [some (.ref A'.t), some (.str y), some (.ref l), z]) ⟨⟨KFr.refl _ _, by simp, fun x hx => by simp at hx⟩, S.tk, _, kd, fun x => by simp, Nat.le_refl _, hl, rfl⟩ ?_ ?_ ?_
  · rintro i σ H' _ ⟨_, tk', z, _, _, _, hl', _⟩
    exact SqT.of hl'
  · rintro BB RR i v σ H' hv ⟨⟨fr, ndi, wdi⟩, tk', z, kd', tv, tl, hl', rfl⟩
    rw [List.getElem?_map] at hv
    cases hx : ts[i]? with
    | none => rw [hx] at hv; cases hv
    | some x =>
      rw [hx] at hv
      cases hv
      have mx : x ∈ ts := List.mem_of_getElem? hx
      have ilt := (List.getElem?_eq_some_iff.mp hx).1
      have tx := tt x mx
      refine ⟨_, rfl, x, rfl, tx.len, fun H2 s2 => ⟨_, rfl, ?_⟩⟩
      have fr2 := fr.trans s2.kfr
      cases hw : wordB 65 x with
      | false =>
        refine iteP (by simp) ?_
        exact ⟨_, rfl, x, rfl, tx, fun t ht => ⟨t, rfl, ht, _, rfl, by decide, qe (fun o => by have := o.wd x mx; rw [hw] at this; cases this) _ fr2⟩⟩
      | true =>
      refine iteM (by simp) ?_
      have kd2 := kd'.mono s2
      have gx : DGet H2 A'.tk (.str x) (valV tk' (Sum.inr x)) := DGet.k (k := Sum.inr x) kd2.tk
      refine ⟨_, rfl, _, rfl, A'.t, C, _, _, _, rfl, kd2.ins, T.cl, T.tk, f_tk _, _, _, rfl, gx, _, rfl, ?_⟩
      cases ev : valV tk' (Sum.inr x) with
      | some v =>
        refine iteP (by simp) ?_
        refine ⟨_, rfl, x, rfl, tx8 tx, x, rfl, tx8 tx, _, rfl, by decide, qe (fun o => ?_) _ fr2⟩
        rw [tv x, if_neg (take_nd o.nd hx), o.nw x mx] at ev
        cases ev
      | none =>
      refine iteM (by simp) ?_
      have nx : x ∉ ts.take i := fun hm => by rw [tv x, if_pos hm] at ev; cases ev
      have vx : valV S.tk (Sum.inr x) = none := by rw [tv x, if_neg nx] at ev; exact ev
      refine ⟨_, rfl, _, rfl, A'.t, C, _, _, _, rfl, kd2.ins, T.cl, T.tk, f_tk _, _, rfl, _, _, rfl, DPut.k (k := Sum.inr x) kd2.tk (small1000 (by show tk'.length ≤ 1000; omega)), ?_⟩
      have hl2 := s2 _ _ hl'
      refine ⟨⟨fr2.put (by simp [KA6.ds]) _, nd_snoc2 hx ndi nx, fun x' hx' => ?_⟩, putK tk' (Sum.inr x) (.str y), _, kd2.put_tk _, fun x' => ?_, ?_, ?_, rfl⟩
      · rcases (mem_take_succ hx).mp hx' with h | rfl
        · exact wdi x' h
        · exact ⟨hw, vx⟩
      · rw [valV_put]
        by_cases e : x' = x
        · subst e
          rw [if_pos rfl, if_pos ((mem_take_succ hx).mpr (.inr rfl))]
        · rw [if_neg (fun z => e (Sum.inr.inj z)), tv x']
          have : (x' ∈ ts.take (i + 1)) ↔ x' ∈ ts.take i := ⟨fun z => ((mem_take_succ hx).mp z).resolve_right e, fun z => (mem_take_succ hx).mpr (.inl z)⟩
          by_cases m : x' ∈ ts.take i
          · rw [if_pos m, if_pos (this.mpr m)]
          · rw [if_neg m, if_neg (fun z => m (this.mp z))]
      · have := length_putK tk' (Sum.inr x) (.str y); omega
      · rw [upd_ne (ne_of hl2 kd2.tk (by intro z; cases z))]; exact hl2
  · rintro σ H' ⟨⟨fr, ndi, wdi⟩, tk', z, kd', tv, tl, hl', rfl⟩
    rw [lt] at tl
    rw [List.take_of_length_le (by omega)] at tv ndi wdi
    have ok : OkTk S.tk ts := ⟨l1, l4, fun x hx => (wdi x hx).1, ndi, fun x hx => (wdi x hx).2⟩
    refine ⟨by show 1 ≤ sizeLine; decide, fun p1 hp1 => ⟨_, rfl, l, _, rfl, .inr (SqT.of ((same_upd hp1 _) _ _ hl')), fun p2 hp2 => ?_⟩⟩
    refine ⟨p1, p2, _, _, rfl, rfl, (upd_ne (ne_of_none upd_same hp2)).trans upd_same, upd_same, Nat.le_of_lt (small1000 (by simp; omega)), fun p3 hp3 => ?_⟩
    have sx : Same H' _ := ((same_upd hp1 (.lst [V.non])).trans (same_upd hp2 (.lst (ts.map V.str)))).trans (same_upd hp3 (.lst ([V.non] ++ ts.map V.str)))
    have hp : upd (upd (upd H' p1 (.lst [V.non])) p2 (.lst (ts.map V.str))) p3 (.lst ([V.non] ++ ts.map V.str)) p3 = some (.lst (.non :: ts.map V.str)) := upd_same
    generalize upd (upd (upd H' p1 (.lst [V.non])) p2 (.lst (ts.map V.str))) p3 (.lst ([V.non] ++ ts.map V.str)) = H2 at sx hp ⊢
    have kd2 := kd'.mono sx
    refine ⟨_, rfl, A'.t, C, _, _, _, rfl, kd2.ins, T.cl, T.wo, f_wo _, _, rfl, _, _, rfl, DPut.k (k := Sum.inr y) kd2.wo (small1000 (by show S.wo.length ≤ 1000; omega)), ?_⟩
    have kd3 := kd2.put_wo (putK S.wo (Sum.inr y) (.ref p3))
    have hp' : upd H2 A'.wo (.dK (putK S.wo (Sum.inr y) (.ref p3))) p3 = some (.lst (.non :: ts.map V.str)) := by rw [upd_ne (ne_of hp kd2.wo (by intro z; cases z))]; exact hp
    refine ⟨_, rfl, A'.t, C, _, _, _, rfl, kd3.ins, T.cl, T.he, f_he _, _, rfl, _, _, rfl, DPut.k (k := Sum.inr y) kd3.he (small1000 (by show S.he.length ≤ 1000; omega)), ?_⟩
    have kd4 := kd3.put_he (putK S.he (Sum.inr y) (.int 1))
    refine ⟨_, rfl, A'.t, C, _, _, _, rfl, kd4.ins, T.cl, T.pd, f_pd _, _, rfl, _, _, rfl, DPut.k (k := Sum.inr y) kd4.pd (small1000 (by show S.pd.length ≤ 1000; omega)), ?_⟩
    have kd5 := kd4.put_pd (putK S.pd (Sum.inr y) (.int 0))
    refine q ok _ tk' p3 ?_ kd5 tv (by omega) ?_
    · exact ((((fr.trans sx.kfr).put (by simp [KA6.ds]) _).put (by simp [KA6.ds]) _).put (by simp [KA6.ds]) _)
    · have h3 := hp'
      have h4 : upd (upd H2 A'.wo (.dK (putK S.wo (Sum.inr y) (.ref p3)))) A'.he (.dK (putK S.he (Sum.inr y) (.int 1))) p3 = some (.lst (.non :: ts.map V.str)) := by rw [upd_ne (ne_of h3 kd3.he (by intro z; cases z))]; exact h3
      rw [upd_ne (ne_of h4 kd4.pd (by intro z; cases z))]; exact h4
end
end K4
namespace L2
open PySem
theorem mo_fld {K : PySem.W.Frag} {t : TE} {f : Str} (m : MonoT t) : MonoT (tFld K t f) := fun σ H Q Q' k q => m σ H _ _ (fun v H1 ⟨a, C, dx, fs, w, h1, h2, h3, h4, h5, r⟩ => ⟨a, C, dx, fs, w, h1, h2, h3, h4, h5, k _ _ r⟩) q
theorem mo_dget {t u : TE} (m : MonoT t) (n : MonoT u) : MonoT (tDGet t u) := fun σ H Q Q' k q => m σ H _ _ (fun v H1 r => n σ H1 _ _ (fun x H2 ⟨a, w, h1, h2, r⟩ => ⟨a, w, h1, h2, k _ _ r⟩) r) q
theorem mo_tup2 {i j : Nat} : MonoT (tTup (tCons (tVar i) (tCons (tVar j) tNil))) := fun σ H Q Q' k ⟨v, e, w, e', l, r⟩ => ⟨v, e, w, e', l, fun p hp => k _ _ (r p hp)⟩
theorem KR.pt {H : Hp} {S : KC} {ks : List (Str × Shp)} {d : Str → Nat} (kr : KR H S ks d) {z : Str} (hz : z ∈ ks.map (·.1)) : Pt H S z (worths ks 3 z) (high ks 3 z) (d z) := by
  obtain ⟨s', hs'⟩ := shOf_of hz
  obtain ⟨v', e1, _⟩ := kr.sh z s' hs'
  exact ⟨by rw [e1]; rfl, kr.wo z hz, kr.he z hz, kr.pd z hz⟩
end L2
namespace K4
open PySem L2
section
variable {P : Program} {w : World} {K : PySem.W.Frag} {mg : Str → Option Value} {base : Heap} {f g C N : Addr} {fd gd : FuncData}
def spPairs (C N : Addr) : Sp := fun vs H Q E => ∃ (A : KA6) (S : KC) (y e g : Str) (zj : JS), vs = [.ref A.t, .str y, .str e, .str g] ∧ KD H C A S ∧ KR H S zj.ks zj.d ∧ JOk zj ∧ Tx y ∧ zj.ks.length ≤ 6 ∧
  (OkP zj e g → ∀ H' r, KFr A H H' → KD H' C A ⟨S.sh, putK S.wo (Sum.inr y) (.ref r), putK S.he (Sum.inr y) (.int (1 + high zj.ks 3 e + high zj.ks 3 g : Nat)), putK S.pd (Sum.inr y) (.int (1 + max (zj.d e) (zj.d g) : Nat)), S.tk, putK S.pk [Sum.inr e, Sum.inr g] (.str y)⟩ →
    (∃ xs, H' r = some (.lst xs) ∧ HasL H' xs ((W.non :: (worths zj.ks 3 e).flatMap fun u => (worths zj.ks 3 g).map fun v => W.pair u v).map W.dat)) → Q .non H') ∧
  (¬ OkP zj e g → ∀ H', KFr A H H' → E (.ref N) none H')
theorem scPairs : FnScope ["self", "name", "one", "other", "deep", "worths"] ["self", "name", "one", "other"] (defScope sPairs) := ⟨rfl, rfl, rfl, by decide +kernel, rfl, by decide +kernel, by decide +kernel⟩
theorem nd_fs : List.Nodup [("first" : Str), "second", "self", "other"] := by decide +kernel
theorem ok_pairs {n : Nat} {u1 u2 : Value} (B : Blt mg) (T : KCl K C) (hN : mg "NoKinds" = some (.ref N)) (cN : IsX K N) (F : Fun K "take_pair" "Kinds.take_pair" sPairs f fd) (hM : mg "MOST_PAIRS_DEEP" = some u1) (rM : RelV (.int 2) u1) (hM2 : mg "MOST_WORTHS" = some u2) (rM2 : RelV (.int 30) u2) :
    FnOk P w K mg base (CX1 P w) (n + 1) f fd ["self", "name", "one", "other"] (spPairs C N) := by
  refine F.okX scPairs (fun vs H Q E h => ?_) (fun cdv A outer s H vs Q E hr h => ?_)
  · obtain ⟨A', S, y, e, g, zj, rfl, _⟩ := h
    rfl
  obtain ⟨A', S, y, e, g, zj, rfl, kd, kr, jo, ty, k6, q, qe⟩ := h
  have hu := hu_of hr
  refine ⟨_, pss_cons (ps_if (PW.pt (pw_or (pt_cmp (pc_dnotin hu (pv 2) (pe_fld (pv 0) rfl))) (pw_or1 (pt_cmp (pc_dnotin hu (pv 3) (pe_fld (pv 0) rfl)))))) (pss_one (ps_raiseF lets_cx rfl rfl rfl hN cN (.cons pe_str (mo_c _) (.cons (pe_fmt (pv 1)) (mo_fmt (mo_var _)) (.cons pe_str (mo_c _) .nil))))) pss_nil)
    (pss_cons (ps_if (pt_cmp (pc_din hu (pe_tup (pa_cons (pv 2) (pa_cons (pv 3) pa_nil))) (pe_fld (pv 0) rfl))) (pss_one (ps_raiseF lets_cx rfl rfl rfl hN cN (.cons (pe_fmt (pv 1)) (mo_fmt (mo_var _)) (.cons pe_str (mo_c _) (.cons (pe_fmt (pe_dget hu (pe_fld (pv 0) rfl) (pe_tup (pa_cons (pv 2) (pa_cons (pv 3) pa_nil))) (fun _ _ => rfl))) (mo_fmt (mo_dget (mo_fld (mo_var _)) mo_tup2)) .nil))))) pss_nil)
    (pss_cons (ps_set (i := 4) scPairs.nd rfl (Or.inl rfl) (pe_op op_add pe_int (pe_callB (call_max2 rfl) rfl B.max boot_max' (pa_cons (pe_dget hu (pe_fld (pv 0) rfl) (pv 2) (fun _ _ => rfl)) (pa_cons (pe_dget hu (pe_fld (pv 0) rfl) (pv 3) (fun _ _ => rfl)) pa_nil)))))
    (pss_cons (ps_if (pt_cmpR op_gt (pv 4) (pe_glob rfl hM rM) (nomark _)) (pss_one (ps_raiseF lets_cx rfl rfl rfl hN cN (.cons pe_str (mo_c _) (.cons (pe_fmt (pv 1)) (mo_fmt (mo_var _)) (.cons pe_str (mo_c _) (.cons (pe_fmtI (pe_glob rfl hM rM)) (mo_fmtI (mo_c _)) (.cons pe_str (mo_c _) .nil))))))) pss_nil)
    (pss_cons (ps_set (i := 5) scPairs.nd rfl (Or.inl rfl) (pe_op op_cat (pe_lst (pa_cons pe_non pa_nil)) (pe_cmp2 (wi2 := iList K (tDGet (tFld K (tVar 2) "worths") (tVar 3))) [0, 3] (pi_list (pe_dget hu (pe_fld (pv 0) rfl) (pv 2) (fun _ _ => rfl)))
        (fun cl C fp s H => pg_name (i := 0) nd_fs rfl (Or.inl rfl) (Or.inr rfl)) (fun cl C fp s H => pi_list (pe_dget hu (pe_fld (pv 2) rfl) (pv 3) (fun _ _ => rfl))) (fun cl C fp s H => pg_name (i := 1) nd_fs rfl (Or.inl rfl) (Or.inr rfl))
        (fun cl C fp s H => pe_tup (pa_cons (pv 0) (pa_cons (pv 1) pa_nil))))))
    (pss_cons (ps_if (pt_cmpR op_gt (pe_callB call_len_seq rfl B.len PySem.boot_len (pa_cons (pv 5) pa_nil)) (pe_glob rfl hM2 rM2) (nomark _)) (pss_one (ps_raiseF lets_cx rfl rfl rfl hN cN (.cons (pe_fmt (pv 1)) (mo_fmt (mo_var _)) (.cons pe_str (mo_c _) (.cons (pe_fmtI (pe_glob rfl hM2 rM2)) (mo_fmtI (mo_c _)) (.cons pe_str (mo_c _) .nil)))))) pss_nil)
    (pss_cons (ps_dput hu (pe_fld (pv 0) rfl) (pe_tup (pa_cons (pv 2) (pa_cons (pv 3) pa_nil))) (pv 1) rfl)
    (pss_cons (ps_dput hu (pe_fld (pv 0) rfl) (pv 1) (pv 5) rfl)
    (pss_cons (ps_dput hu (pe_fld (pv 0) rfl) (pv 1) (pe_op op_add (pe_op op_add pe_int (pe_dget hu (pe_fld (pv 0) rfl) (pv 2) (fun _ _ => rfl))) (pe_dget hu (pe_fld (pv 0) rfl) (pv 3) (fun _ _ => rfl))) rfl)
    (pss_one (ps_dput hu (pe_fld (pv 0) rfl) (pv 1) (pv 4) rfl)))))))))), ?_⟩
  obtain ⟨b1, b2, b3, b4, b5, b6⟩ := kr.ln
  have no : ∀ {H' : Hp}, Same H H' → ¬ OkP zj e g → E (.ref N) none H' := fun s' h => qe h _ s'.kfr
  have t8 := tx8 ty
  -- both parts are kinds
  have ge : DGet H A'.sh (.str e) (valV S.sh (Sum.inr e)) := DGet.k (k := Sum.inr e) kd.sh
  have gg : DGet H A'.sh (.str g) (valV S.sh (Sum.inr g)) := DGet.k (k := Sum.inr g) kd.sh
  refine ⟨_, rfl, _, rfl, A'.t, C, _, _, _, rfl, kd.ins, T.cl, T.sh, f_sh _, _, _, rfl, ge, _, rfl, ?_⟩
  rw [kr.has e]
  by_cases me : e ∈ zj.nm
  case neg =>
    have me' : ¬ e ∈ zj.ks.map (·.1) := me
    refine iteP (by simp [me']) ?_
    refine iteP (by simp [me']) ?_
    exact ⟨_, rfl, by decide, _, rfl, y, rfl, t8, _, rfl, t8, _, rfl, by decide, no (Same.refl _) fun h => me h.ia⟩
  have me' : e ∈ zj.ks.map (·.1) := me
  refine iteM (by simp [me']) ?_
  refine ⟨_, rfl, _, rfl, A'.t, C, _, _, _, rfl, kd.ins, T.cl, T.sh, f_sh _, _, _, rfl, gg, _, rfl, ?_⟩
  rw [kr.has g]
  by_cases mg' : g ∈ zj.nm
  case neg =>
    have mg2 : ¬ g ∈ zj.ks.map (·.1) := mg'
    refine iteP (by simp [mg2]) ?_
    exact ⟨_, rfl, by decide, _, rfl, y, rfl, t8, _, rfl, t8, _, rfl, by decide, no (Same.refl _) fun h => mg' h.ib⟩
  have mg2 : g ∈ zj.ks.map (·.1) := mg'
  refine iteM (by simp [mg2]) ?_
  obtain ⟨de2, ce30⟩ := jo.le me
  obtain ⟨dg2, cg30⟩ := jo.le mg'
  have pte := kr.pt me'
  have ptg := kr.pt mg2
  obtain ⟨le, _, _⟩ := worths_ok jo.kk 3 e me' (by omega)
  obtain ⟨lg, _, _⟩ := worths_ok jo.kk 3 g mg2 (by omega)
  -- the pair is new
  refine ⟨_, rfl, _, rfl, by show 2 ≤ sizeLine; decide, fun p1 hp1 => ?_⟩
  have s1 := same_upd hp1 (.tup [.str e, .str g])
  have h1 : upd H p1 (.tup [.str e, .str g]) p1 = some (.tup [.str e, .str g]) := upd_same
  generalize upd H p1 (.tup [.str e, .str g]) = H1 at s1 h1 ⊢
  have kd1 := kd.mono s1
  have gp : DGet H1 A'.pk (.ref p1) (valV S.pk [Sum.inr e, Sum.inr g]) := DGet.t (k := [Sum.inr e, Sum.inr g]) kd1.pk h1
  refine ⟨_, rfl, A'.t, C, _, _, _, rfl, kd1.ins, T.cl, T.pk, f_pk _, _, _, rfl, gp, _, rfl, ?_⟩
  rw [kr.pk e g]
  cases epk : pairKind zj.ks e g with
  | some k =>
    refine iteP (by simp) ?_
    have mk : k ∈ zj.nm := by
      unfold pairKind at epk
      cases ef : zj.ks.find? fun k => isPair e g k.2 with
      | none => rw [ef] at epk; cases epk
      | some kk =>
        rw [ef] at epk
        cases epk
        exact List.mem_map.mpr ⟨kk, List.mem_of_find?_eq_some ef, rfl⟩
    have k8 := jo.wl k mk
    refine ⟨_, rfl, y, rfl, t8, _, rfl, t8, _, rfl, by decide, _, rfl, A'.t, C, _, _, _, rfl, kd1.ins, T.cl, T.pk, f_pk _, _, rfl, _, rfl, by show 2 ≤ sizeLine; decide, fun p2 hp2 => ?_⟩
    have s2 := same_upd hp2 (.tup [.str e, .str g])
    have h2 : upd H1 p2 (.tup [.str e, .str g]) p2 = some (.tup [.str e, .str g]) := upd_same
    refine ⟨_, .str k, rfl, ?_, k, rfl, by omega, k, rfl, by omega, no (s1.trans s2) fun h => by have := h.nw; rw [epk] at this; cases this⟩
    have gp2 : DGet (upd H1 p2 (.tup [.str e, .str g])) A'.pk (.ref p2) (valV S.pk [Sum.inr e, Sum.inr g]) := DGet.t (k := [Sum.inr e, Sum.inr g]) (kd1.mono s2).pk h2
    rw [kr.pk e g, epk] at gp2
    exact gp2
  | none =>
  refine iteM (by simp) ?_
  -- deep
  refine ⟨_, rfl, A'.t, C, _, _, _, rfl, kd1.ins, T.cl, T.pd, f_pd _, _, rfl, _, _, rfl, by rw [← pte.pd]; exact DGet.k (k := Sum.inr e) kd1.pd, ?_⟩
  refine ⟨_, rfl, A'.t, C, _, _, _, rfl, kd1.ins, T.cl, T.pd, f_pd _, _, rfl, _, _, rfl, by rw [← ptg.pd]; exact DGet.k (k := Sum.inr g) kd1.pd, _, _, rfl, _, _, rfl, rfl, ?_⟩
  generalize epe : zj.d e = pe at *
  generalize epg : zj.d g = pg at *
  have em : (1 + (if (pg : Int) > (pe : Int) then (pg : Int) else (pe : Int))) = ((1 + max pe pg : Nat) : Int) := by
    by_cases z : pe < pg
    · rw [if_pos (by omega), Nat.max_eq_right (Nat.le_of_lt z)]; omega
    · rw [if_neg (by omega), Nat.max_eq_left (by omega)]; omega
  dsimp only [gName]
  rw [em]
  refine ⟨_, rfl, _, _, rfl, rfl, _, rfl, ?_⟩
  by_cases d2 : 1 + max pe pg ≤ 2
  case neg =>
    refine iteP (by simp; omega) ?_
    exact ⟨_, rfl, by decide, _, rfl, y, rfl, t8, _, rfl, t8, _, rfl, by decide, 2, rfl, by decide, fun t ht => ⟨t, rfl, ht, _, rfl, by decide, no s1 fun h => by have := h.da; have := h.db; omega⟩⟩
  refine iteM (by simp; omega) ?_
  have us9 : (worths zj.ks 3 e).length ≤ 30 := by omega
  have vs9 : (worths zj.ks 3 g).length ≤ 30 := by omega
  have m9 : (worths zj.ks 3 e).length * (worths zj.ks 3 g).length ≤ 30 * 30 := Nat.mul_le_mul us9 vs9
  generalize eus : worths zj.ks 3 e = us at *
  generalize evs : worths zj.ks 3 g = vs' at *
  generalize ehe : high zj.ks 3 e = he at *
  generalize ehg : high zj.ks 3 g = hg at *
  -- the worths
  obtain ⟨l1, xs1, w1, w2, w3⟩ := pte.wo
  obtain ⟨l2, xs2, v1, v2, v3⟩ := ptg.wo
  have lx1 := w3.length
  have lx2 := v3.length
  rw [List.length_map] at lx1 lx2
  refine ⟨by show 1 ≤ sizeLine; decide, fun p2 hp2 => ?_⟩
  have s2 := same_upd hp2 (.lst [V.non])
  have h2 : upd H1 p2 (.lst [V.non]) p2 = some (.lst [V.non]) := upd_same
  generalize upd H1 p2 (.lst [V.non]) = H2 at s2 h2 ⊢
  have kd2 := kd1.mono s2
  have s02 := s1.trans s2
  refine ⟨_, rfl, A'.t, C, _, _, _, rfl, kd2.ins, T.cl, T.wo, f_wo _, _, rfl, _, _, rfl, by rw [← w1]; exact DGet.k (k := Sum.inr e) kd2.wo, l1, rfl, ⟨xs1, SqL.of (s02 _ _ w2)⟩, ?_⟩
  refine comp2_form xs1.length (fun i zs H' => Same H2 H' ∧ zs.length = i * vs'.length ∧ i ≤ us.length ∧ HasL H' zs (((us.take i).flatMap fun u => vs'.map fun v => W.pair u v).map W.dat)) ⟨Same.refl _, by simp, Nat.zero_le _, by rw [List.take_zero]; exact HasL.nil⟩
    (fun i zs H' z => small1000 (by rw [z.2.1]; have : i * vs'.length ≤ us.length * vs'.length := Nat.mul_le_mul_right _ z.2.2.1; omega)) ?_ ?_ ?_ ?_
  · intro i zs H' hi z
    exact ⟨xs1, xs1[i], SqL.of ((s02.trans z.1) _ _ w2), by simp [hi]⟩
  · intro zs H' z
    exact ⟨xs1, SqL.of ((s02.trans z.1) _ _ w2), Nat.le_refl _⟩
  · intro i zs H' x H'' R hi z yl hR
    obtain ⟨rfl, yy⟩ := yl
    have sz := s02.trans z.1
    obtain ⟨dx, hdx, hhx⟩ := w3.get (yy xs1 (SqL.of (sz _ _ w2)))
    rw [List.getElem?_map] at hdx
    cases hu1 : us[i]? with
    | none => rw [hu1] at hdx; cases hdx
    | some u =>
      rw [hu1] at hdx
      cases hdx
      have kdz := kd.mono sz
      refine ⟨_, rfl, A'.t, C, _, _, _, rfl, kdz.ins, T.cl, T.wo, f_wo _, _, rfl, _, _, rfl, by rw [← v1]; exact DGet.k (k := Sum.inr g) kdz.wo, l2, rfl, ⟨xs2, SqL.of (sz _ _ v2)⟩, ?_⟩
      refine in2_form xs2.length (fun j ws H3 => Same H'' H3 ∧ ws.length = i * vs'.length + j ∧ j ≤ vs'.length ∧ HasL H3 ws (((us.take i).flatMap fun u => vs'.map fun v => W.pair u v).map W.dat ++ ((vs'.take j).map fun v => W.pair u v).map W.dat)) ⟨Same.refl _, by rw [z.2.1]; rfl, Nat.zero_le _, by rw [List.take_zero, List.map_nil, List.map_nil, List.append_nil]; exact z.2.2.2⟩
        (fun j ws H3 y3 => small1000 (by
          rw [y3.2.1]
          have : (i + 1) * vs'.length ≤ us.length * vs'.length := Nat.mul_le_mul_right _ (by omega)
          rw [Nat.succ_mul] at this
          have := y3.2.2.1
          omega)) ?_ ?_ ?_ ?_
      · intro j ws H3 hj y3
        exact ⟨xs2, xs2[j], SqL.of ((sz.trans y3.1) _ _ v2), by simp [hj]⟩
      · intro ws H3 y3
        exact ⟨xs2, SqL.of ((sz.trans y3.1) _ _ v2), Nat.le_refl _⟩
      · intro j ws H3 x2 H4 T2 hj y3 yl2 hT
        obtain ⟨rfl, yy2⟩ := yl2
        have s3 := sz.trans y3.1
        obtain ⟨dz, hdz, hhz⟩ := v3.get (yy2 xs2 (SqL.of (s3 _ _ v2)))
        rw [List.getElem?_map] at hdz
        cases hv1 : vs'[j]? with
        | none => rw [hv1] at hdz; cases hdz
        | some v =>
          rw [hv1] at hdz
          cases hdz
          refine ⟨_, rfl, _, rfl, by show 2 ≤ sizeLine; decide, fun t ht => hT _ _ ?_⟩
          have st := same_upd ht (.tup [x, x2])
          refine ⟨y3.1.trans st, by rw [List.length_append, y3.2.1]; rfl, (List.getElem?_eq_some_iff.mp hv1).1, ?_⟩
          rw [take_snoc hv1, List.map_append, List.map_append, ← List.append_assoc]
          refine HasL.append (y3.2.2.2.mono st) (HasL.one ?_)
          unfold W.dat Has
          exact ⟨t, _, rfl, upd_same, HasL.cons ((hhx.mono s3).mono st) (HasL.cons ((hhz.mono s3).mono st) HasL.nil)⟩
      · intro ws H3 y3
        have hl2 : xs2.length = vs'.length := lx2
        refine hR _ _ ⟨z.1.trans y3.1, by rw [y3.2.1, hl2, Nat.succ_mul], (List.getElem?_eq_some_iff.mp hu1).1, ?_⟩
        have y4 := y3.2.2.2
        have et : vs'.take xs2.length = vs' := List.take_of_length_le (by omega)
        rw [et] at y4
        rw [flat_snoc _ hu1, List.map_append]
        exact y4
  · intro zs H' p3 z hp3
    have s3 := same_upd hp3 (.lst zs)
    have h3 : upd H' p3 (.lst zs) p3 = some (.lst zs) := upd_same
    have z4 := z.2.2.2
    rw [List.take_of_length_le (by omega)] at z4
    have z5 := z4.mono s3
    generalize upd H' p3 (.lst zs) = H3 at s3 h3 z5 ⊢
    have s23 := z.1.trans s3
    have lz : zs.length = us.length * vs'.length := by rw [z.2.1, lx1]
    refine ⟨p2, p3, [V.non], zs, rfl, rfl, s23 _ _ h2, h3, Nat.le_of_lt (small1000 (by rw [lz]; simp; omega)), fun p4 hp4 => ?_⟩
    have s4 := same_upd hp4 (.lst ([V.non] ++ zs))
    have h4 : upd H3 p4 (.lst ([V.non] ++ zs)) p4 = some (.lst ([V.non] ++ zs)) := upd_same
    have z6 := z5.mono s4
    generalize upd H3 p4 (.lst ([V.non] ++ zs)) = H4 at s4 h4 z6 ⊢
    have s04 := (s02.trans s23).trans s4
    have kd4 := kd.mono s04
    have hw : HasL H4 ([V.non] ++ zs) ((W.non :: us.flatMap fun u => vs'.map fun v => W.pair u v).map W.dat) := HasL.cons has_non z6
    refine ⟨_, rfl, p4, _, rfl, .inl (SqL.of h4), _, _, rfl, rfl, _, rfl, ?_⟩
    by_cases c30 : us.length * vs'.length < 30
    case neg =>
      refine iteP (by simp; omega) ?_
      exact ⟨_, rfl, y, rfl, t8, _, rfl, t8, _, rfl, by decide, 30, rfl, by decide, fun t ht => ⟨t, rfl, ht, _, rfl, by decide, no s04 fun h => by have := h.cc; rw [← le, ← lg] at this; exact c30 this⟩⟩
    refine iteM (by simp; omega) ?_
    have ok : OkP zj e g := ⟨me, mg', epk, by omega, by omega, by rw [← le, ← lg]; exact c30⟩
    -- pair_kinds
    refine ⟨_, rfl, _, rfl, A'.t, C, _, _, _, rfl, kd4.ins, T.cl, T.pk, f_pk _, _, rfl, _, rfl, by show 2 ≤ sizeLine; decide, fun p5 hp5 => ?_⟩
    have s5 := same_upd hp5 (.tup [.str e, .str g])
    have h5 : upd H4 p5 (.tup [.str e, .str g]) p5 = some (.tup [.str e, .str g]) := upd_same
    generalize upd H4 p5 (.tup [.str e, .str g]) = H5 at s5 h5 ⊢
    have kd5 := kd4.mono s5
    refine ⟨_, _, rfl, DPut.t (k := [Sum.inr e, Sum.inr g]) kd5.pk h5 (small1000 (by omega)), ?_⟩
    have kd6 := kd5.put_pk (putK S.pk [Sum.inr e, Sum.inr g] (.str y))
    have f6 : KFr A' H (upd H5 A'.pk (.dT (putK S.pk [Sum.inr e, Sum.inr g] (.str y)))) := KFr.put (Same.kfr (s04.trans s5)) (by simp [KA6.ds]) _
    have t6 : TL H4 (upd H5 A'.pk (.dT (putK S.pk [Sum.inr e, Sum.inr g] (.str y)))) := (KFr.put (Same.kfr s5) (by simp [KA6.ds]) _ : KFr A' H4 _).tl kd4
    generalize upd H5 A'.pk (.dT (putK S.pk [Sum.inr e, Sum.inr g] (.str y))) = H6 at kd6 f6 t6 ⊢
    -- worths
    refine ⟨_, rfl, _, rfl, A'.t, C, _, _, _, rfl, kd6.ins, T.cl, T.wo, f_wo _, _, rfl, _, _, rfl, DPut.k (k := Sum.inr y) kd6.wo (small1000 (by show S.wo.length ≤ 1000; omega)), ?_⟩
    have kd7 := kd6.put_wo (putK S.wo (Sum.inr y) (.ref p4))
    have f7 := f6.put (x := A'.wo) (by simp [KA6.ds]) (.dK (putK S.wo (Sum.inr y) (.ref p4)))
    have t7 := t6.trans ((KFr.put (KFr.refl A' H6) (x := A'.wo) (by simp [KA6.ds]) (.dK (putK S.wo (Sum.inr y) (.ref p4)))).tl kd6)
    generalize upd H6 A'.wo (.dK (putK S.wo (Sum.inr y) (.ref p4))) = H7 at kd7 f7 t7 ⊢
    -- heights
    refine ⟨_, rfl, A'.t, C, _, _, _, rfl, kd7.ins, T.cl, T.he, f_he _, _, rfl, _, _, rfl, by rw [← pte.he]; exact DGet.k (k := Sum.inr e) kd7.he, _, _, rfl, rfl, ?_⟩
    refine ⟨_, rfl, A'.t, C, _, _, _, rfl, kd7.ins, T.cl, T.he, f_he _, _, rfl, _, _, rfl, by rw [← ptg.he]; exact DGet.k (k := Sum.inr g) kd7.he, _, _, rfl, rfl, ?_⟩
    refine ⟨_, rfl, A'.t, C, _, _, _, rfl, kd7.ins, T.cl, T.he, f_he _, _, rfl, _, _, rfl, DPut.k (k := Sum.inr y) kd7.he (small1000 (by show S.he.length ≤ 1000; omega)), ?_⟩
    have eh : (1 + (he : Int) + (hg : Int)) = ((1 + he + hg : Nat) : Int) := by push_cast; rfl
    dsimp only
    rw [eh]
    have kd8 := kd7.put_he (putK S.he (Sum.inr y) (.int ((1 + he + hg : Nat) : Int)))
    have f8 := f7.put (x := A'.he) (by simp [KA6.ds]) (.dK (putK S.he (Sum.inr y) (.int ((1 + he + hg : Nat) : Int))))
    have t8 := t7.trans ((KFr.put (KFr.refl A' H7) (x := A'.he) (by simp [KA6.ds]) (.dK (putK S.he (Sum.inr y) (.int ((1 + he + hg : Nat) : Int))))).tl kd7)
    generalize upd H7 A'.he (.dK (putK S.he (Sum.inr y) (.int ((1 + he + hg : Nat) : Int)))) = H8 at kd8 f8 t8 ⊢
    refine ⟨_, rfl, _, rfl, A'.t, C, _, _, _, rfl, kd8.ins, T.cl, T.pd, f_pd _, _, rfl, _, _, rfl, DPut.k (k := Sum.inr y) kd8.pd (small1000 (by show S.pd.length ≤ 1000; omega)), ?_⟩
    have kd9 := kd8.put_pd (putK S.pd (Sum.inr y) (.int ((1 + max pe pg : Nat) : Int)))
    have f9 := f8.put (x := A'.pd) (by simp [KA6.ds]) (.dK (putK S.pd (Sum.inr y) (.int ((1 + max pe pg : Nat) : Int))))
    have t9 := t8.trans ((KFr.put (KFr.refl A' H8) (x := A'.pd) (by simp [KA6.ds]) (.dK (putK S.pd (Sum.inr y) (.int ((1 + max pe pg : Nat) : Int))))).tl kd8)
    exact q ok _ p4 f9 kd9 ⟨_, t9.2 _ _ h4, HasL.tl t9 _ hw⟩
end
end K4
namespace L2
open PySem
theorem strs_is {H : Hp} : ∀ {ts : List Str} {xs : List V}, HasL H xs (ts.map Dat.str) → xs = ts.map V.str := strs_vals
theorem has_gtg {H : Hp} {v : V} {w : Str} {ts : List Str} (h : Has H v (GS.tg w ts).dat) : ∃ p l, v = .ref p ∧ H p = some (.tup [.str w, .ref l]) ∧ H l = some (.tup (ts.map V.str)) := by
  unfold GS.dat Has at h
  obtain ⟨p, xs, rfl, hp, hl⟩ := h
  match xs, hl with
  | [], hl => unfold HasL at hl; exact hl.elim
  | [a], hl => unfold HasL HasL at hl; exact hl.2.elim
  | a :: b :: c :: r, hl => unfold HasL HasL HasL at hl; exact hl.2.2.elim
  | [a, b], hl =>
    unfold HasL at hl
    obtain ⟨h1, h2⟩ := hl
    unfold HasL at h2
    have e1 : a = .str w := by unfold Has at h1; exact h1
    have h2' := h2.1
    unfold Has at h2'
    obtain ⟨l, ys, rfl, hl', hy⟩ := h2'
    rw [strs_is hy] at hl'
    exact ⟨p, l, rfl, by rw [hp, e1], hl'⟩
theorem has_gpr {H : Hp} {v : V} {w a b : Str} (h : Has H v (GS.pr w a b).dat) : ∃ p, v = .ref p ∧ H p = some (.tup [.str w, .str a, .str b]) := by
  unfold GS.dat Has at h
  obtain ⟨p, xs, rfl, hp, hl⟩ := h
  have e : xs = [w, a, b].map V.str := strs_is (ts := [w, a, b]) hl
  rw [e] at hp
  exact ⟨p, rfl, hp⟩
theorem has_g {H : Hp} {x : V} {y : Str} {g : GS} (h : Has H x (gD (y, g))) : ∃ a v, x = .ref a ∧ H a = some (.tup [.str y, v]) ∧ Has H v g.dat := by
  unfold gD Has at h
  obtain ⟨p, xs, rfl, hp, hl⟩ := h
  match xs, hl with
  | [], hl => unfold HasL at hl; exact hl.elim
  | [a], hl => unfold HasL HasL at hl; exact hl.2.elim
  | a :: b :: c :: r, hl => unfold HasL HasL HasL at hl; exact hl.2.2.elim
  | [a, b], hl =>
    unfold HasL at hl
    obtain ⟨h1, h2⟩ := hl
    unfold HasL at h2
    have e1 : a = .str y := by unfold Has at h1; exact h1
    exact ⟨p, b, rfl, by rw [hp, e1], h2.1⟩
theorem shp_tg (w : Str) (ts : List Str) : shp? (.tg w ts) = if w = "tags" then some (.tags ts) else none := rfl
theorem shp_pr (w a b : Str) : shp? (.pr w a b) = if w = "pair" then some (.pair a b) else none := rfl
theorem shp_dat {g : GS} {s : Shp} (e : shp? g = some s) : g.dat = s.dat := by
  cases g with
  | tg w ts =>
    rw [shp_tg] at e
    by_cases h : w = "tags"
    · rw [if_pos h] at e; rw [← Option.some.inj e, h]; rfl
    · rw [if_neg h] at e; cases e
  | pr w a b =>
    rw [shp_pr] at e
    by_cases h : w = "pair"
    · rw [if_pos h] at e; rw [← Option.some.inj e, h]; rfl
    · rw [if_neg h] at e; cases e
end L2
namespace K4
open PySem L2
section
variable {P : Program} {w : World} {K : PySem.W.Frag} {mg : Str → Option Value} {base : Heap} {f g C N gt gp gn : Addr} {fd gd td pd' nd' : FuncData}
def spKTake (C N : Addr) : Sp := fun vs H Q E => ∃ (A : KA6) (S : KC) (y : Str) (v : V) (g : GS) (z : JS), vs = [.ref A.t, .str y, v] ∧ KD H C A S ∧ KR H S z.ks z.d ∧ JOk z ∧ Tx y ∧ g.tx ∧ Has H v g.dat ∧ z.ks.length ≤ 6 ∧
  (∀ s, StepOk z y g s → ∀ H' S', KFr A H H' → KD H' C A S' → KR H' S' (z.new y s).ks (z.new y s).d → Q .non H') ∧ ((∀ s, ¬ StepOk z y g s) → ∀ H', KFr A H H' → E (.ref N) none H')
theorem f_tt (A : KA6) : (flds A).lookup ("take_tags" : Str) = none := rfl
theorem f_tp (A : KA6) : (flds A).lookup ("take_pair" : Str) = none := rfl
theorem scKTake : FnScope ["self", "name", "shape"] ["self", "name", "shape"] (defScope sKTake) := ⟨rfl, rfl, rfl, by decide +kernel, rfl, by decide +kernel, by decide +kernel⟩
theorem ok_ktake {n : Nat} (B : Blt mg) (T : KCl K C) (F : Fun K "take" "Kinds.take" sKTake f fd) (hN : mg "NoKinds" = some (.ref N)) (cN : IsX K N)
    (GN : FnOk P w K mg base CX0 n gn nd' ["text"] (spWord 97)) (bN : Binds K nd' ["text"] []) (kN : PySem.W.keepIn K (.ref gn) = true) (mN : mg "is_name" = some (.ref gn))
    (GT : FnOk P w K mg base (CX1 P w) n gt td ["self", "name", "tags"] (spTags C N)) (bT : Binds K td ["self", "name", "tags"] []) (mT : Meth K C "take_tags" gt)
    (GP : FnOk P w K mg base (CX1 P w) n gp pd' ["self", "name", "one", "other"] (spPairs C N)) (bP : Binds K pd' ["self", "name", "one", "other"] []) (mP : Meth K C "take_pair" gp) :
    FnOk P w K mg base (CX1 P w) (n + 1) f fd ["self", "name", "shape"] (spKTake C N) := by
  refine F.okX scKTake (fun vs H Q E h => ?_) (fun cdv A outer s H vs Q E hr h => ?_)
  · obtain ⟨A', S, y, v, g, z, rfl, _⟩ := h
    rfl
  obtain ⟨A', S, y, v, g, z, rfl, kd, kr, jo, ty, tg, hv, k6, q, qe⟩ := h
  have hu := hu_of hr
  have ps : Passes (CX1 P w) (cxOf (CX1 P w) P w K mg base ["self", "name", "shape"] "Kinds.take" (defScope sKTake) f cdv A outer s H E) E := lets_cx.passes rfl
  refine ⟨_, pss_cons (ps_if (pt_not (pt_val (pe_call GN hr rfl mN kN bN .nil pass0 (pa_cons (pv 1) pa_nil)))) (pss_one (ps_raiseF lets_cx rfl rfl rfl hN cN (.cons (pe_fmtR (pv 1)) (mo_fmtR (mo_var _)) (.cons pe_str (mo_c _) .nil)))) pss_nil)
    (pss_cons (ps_if (pt_cmp (pc_din hu (pv 1) (pe_fld (pv 0) rfl))) (pss_one (ps_raiseF lets_cx rfl rfl rfl hN cN (.cons pe_str (mo_c _) (.cons (pe_fmt (pv 1)) (mo_fmt (mo_var _)) .nil)))) pss_nil)
    (pss_cons (ps_if (PW.pt (pw_and (pt_cmpR op_eq (pe_callB call_len_seq rfl B.len PySem.boot_len (pa_cons (pv 2) pa_nil)) pe_int (nomark _)) (pw_and1 (pt_cmpR op_eq (pe_ix ix_tup (pv 2) pe_int (fun _ _ => rfl)) pe_str (nomark _)))))
      (pss_one (ps_expr (pe_meth (pv 0) T.cl mT GT hr bT .nil ps (pa_cons (pv 1) (pa_cons (pe_ix ix_tup (pv 2) pe_int (fun _ _ => rfl)) pa_nil)))))
      (pss_one (ps_if (PW.pt (pw_and (pt_cmpR op_eq (pe_callB call_len_seq rfl B.len PySem.boot_len (pa_cons (pv 2) pa_nil)) pe_int (nomark _)) (pw_and1 (pt_cmpR op_eq (pe_ix ix_tup (pv 2) pe_int (fun _ _ => rfl)) pe_str (nomark _)))))
        (pss_one (ps_expr (pe_meth (pv 0) T.cl mP GP hr bP .nil ps (pa_cons (pv 1) (pa_cons (pe_ix ix_tup (pv 2) pe_int (fun _ _ => rfl)) (pa_cons (pe_ix ix_tup (pv 2) pe_int (fun _ _ => rfl)) pa_nil))))))
        (pss_one (ps_raiseF lets_cx rfl rfl rfl hN cN (.cons (pe_fmt (pv 1)) (mo_fmt (mo_var _)) (.cons pe_str (mo_c _) .nil)))))))
    (pss_one (ps_dput hu (pe_fld (pv 0) rfl) (pv 1) (pv 2) rfl)))), ?_⟩
  refine ⟨_, rfl, y, rfl, ty.len, fun H1 s1 => ⟨_, rfl, ?_⟩⟩
  have no : (∀ s, ¬ StepOk z y g s) → E (.ref N) none H1 := fun h => qe h _ s1.kfr
  have t8 := tx8 ty
  cases hw : wordB 97 y with
  | false =>
    refine iteP (by simp) ?_
    exact ⟨_, rfl, y, rfl, ty, fun t ht => ⟨t, rfl, ht, _, rfl, by decide, no fun s h => by have := h.wd; rw [hw] at this; cases this⟩⟩
  | true =>
  refine iteM (by simp) ?_
  have kd1 := kd.mono s1
  have kr1 := kr.tl s1.tl
  have hv1 := hv.mono s1
  have gn : DGet H1 A'.sh (.str y) (valV S.sh (Sum.inr y)) := DGet.k (k := Sum.inr y) kd1.sh
  refine ⟨_, rfl, _, rfl, A'.t, C, _, _, _, rfl, kd1.ins, T.cl, T.sh, f_sh _, _, _, rfl, gn, _, rfl, ?_⟩
  rw [kr.has y]
  by_cases my : y ∈ z.nm
  case pos =>
    have my' : y ∈ z.ks.map (·.1) := my
    refine iteP (by simp [my']) ?_
    exact ⟨_, rfl, by decide, _, rfl, y, rfl, t8, _, rfl, t8, no fun s h => h.nw my⟩
  have my' : ¬ y ∈ z.ks.map (·.1) := my
  refine iteM (by simp [my']) ?_
  obtain ⟨b1, b2, b3, b4, b5, b6⟩ := kr.ln
  -- what comes of a right shape
  have fin : ∀ s, StepOk z y g s → ∀ (H2 : Hp) (S2 : KC) (p r : Addr), v = .ref p → KFr A' H1 H2 → KD H2 C A' S2 → S2.sh = S.sh → S2.wo = putK S.wo (Sum.inr y) (.ref r) → (∃ xs, H2 r = some (.lst xs) ∧ HasL H2 xs ((wOf z.ks 3 s).map W.dat)) → S2.he = putK S.he (Sum.inr y) (.int (hOf z.ks 3 s : Nat)) → S2.pd = putK S.pd (Sum.inr y) (.int (dN z s : Nat)) →
      (∀ x : Str, valV S2.tk (Sum.inr x) = if hasTag x s = true then some (.str y) else valV S.tk (Sum.inr x)) → S2.tk.length ≤ S.tk.length + 4 → (∀ a b : Str, valV S2.pk [Sum.inr a, Sum.inr b] = if isPair a b s = true then some (.str y) else valV S.pk [Sum.inr a, Sum.inr b]) → S2.pk.length ≤ S.pk.length + 4 →
      Q .non (upd H2 A'.sh (.dK (putK S2.sh (Sum.inr y) v))) := by
    intro s st H2 S2 p r ev f2 kd2 esh ewo hr ehe epd etk ltk epk lpk
    have kd3 := kd2.put_sh (putK S2.sh (Sum.inr y) v)
    have f3 := f2.put (x := A'.sh) (by simp [KA6.ds]) (.dK (putK S2.sh (Sum.inr y) v))
    have t23 := (KFr.put (KFr.refl A' H2) (x := A'.sh) (by simp [KA6.ds]) (.dK (putK S2.sh (Sum.inr y) v))).tl kd2
    have tl3 := (f2.tl kd1).trans t23
    have kk' := (jo.step st).kk.take z.ks.length
    have et : (z.new y s).ks.take z.ks.length = z.ks := List.take_left
    rw [et] at kk'
    have dc : ∀ t ∈ z.ks.map (·.1), (z.new y s).d t = z.d t := fun t ht => if_neg fun e : t = y => my' (e ▸ ht)
    have hdat : g.dat = s.dat := shp_dat st.sh
    refine q s st _ _ (s1.kfr.trans f3) kd3 (KR.snoc (v := v) (r := r) (kr1.dcong dc) tl3 kk' (step_kk1 st) my' ?_ ?_ ewo ?_ ehe ?_ etk ltk (fun x hx => ?_) epk lpk (fun a b hab => ?_))
    · show putK S2.sh _ _ = _; rw [esh]
    · rw [← hdat]; exact Has.tl tl3 _ hv1
    · obtain ⟨xs, g1, g2⟩ := hr
      exact ⟨xs, t23.2 _ _ g1, HasL.tl t23 _ g2⟩
    · rw [epd]; show _ = putK _ _ (V.int ((if y = y then dN z s else z.d y : Nat) : Int)); rw [if_pos rfl]
    · cases s with
      | pair a b => cases hx
      | tags ts =>
        have k : OkT z.ks ts := st.ok
        exact k.nw x (of_decide_eq_true hx)
    · cases s with
      | tags ts => cases hab
      | pair c e =>
        have k : OkP z c e := st.ok
        unfold isPair at hab
        rw [Bool.and_eq_true] at hab
        rw [← of_decide_eq_true hab.1, ← of_decide_eq_true hab.2]; exact k.nw
  cases g with
  | tg w' ts =>
    obtain ⟨p, l, rfl, hp, hl⟩ := has_gtg hv1
    refine ⟨_, rfl, p, _, rfl, .inr (SqT.of hp), rfl, _, rfl, ?_⟩
    refine iteP (by simp) ?_
    refine ⟨_, rfl, p, _, 0, _, rfl, rfl, SqT.of hp, rfl, rfl, _, rfl, ?_⟩
    by_cases ew : w' = "tags"
    case neg =>
      refine iteM (by simp [ew]) ?_
      refine ⟨_, rfl, p, _, rfl, .inr (SqT.of hp), rfl, _, rfl, ?_⟩
      refine iteM (by simp) ?_
      refine iteM (by simp) ?_
      exact ⟨_, rfl, y, rfl, t8, _, rfl, t8, _, rfl, by decide, no fun s h => by have := h.sh; rw [shp_tg, if_neg ew] at this; cases this⟩
    subst ew
    refine iteP (by simp) ?_
    have iff : OkTk S.tk ts ↔ OkT z.ks ts := by
      have e : ∀ x, valV S.tk (Sum.inr x) = none ↔ tagKind z.ks x = none := fun x => by rw [kr.tk x]; cases tagKind z.ks x <;> simp
      exact ⟨fun k => ⟨k.l1, k.l4, k.wd, k.nd, fun x hx => (e x).mp (k.nw x hx)⟩, fun k => ⟨k.l1, k.l4, k.wd, k.nd, fun x hx => (e x).mpr (k.nw x hx)⟩⟩
    refine ⟨_, rfl, A'.t, _, _, rfl, kd1.ins, f_tt _, _, rfl, _, rfl, p, _, 1, _, rfl, rfl, SqT.of hp, rfl, A', S, y, l, ts, rfl, kd1, hl, ty, tg.2, by omega, by omega, by omega, by omega, fun ok H2 tk' r f2 kd2 tv tl hr2 => ?_, fun nok H2 f2 => qe (fun s h => nok (iff.mpr ?_)) _ (s1.kfr.trans f2)⟩
    · refine ⟨_, rfl, _, rfl, A'.t, C, _, _, _, rfl, kd2.ins, T.cl, T.sh, f_sh _, _, rfl, _, _, rfl, DPut.k (k := Sum.inr y) kd2.sh (small1000 (by show S.sh.length ≤ 1000; omega)), ?_⟩
      refine fin (.tags ts) ⟨hw, my, rfl, iff.mp ok⟩ H2 _ p r rfl f2 kd2 rfl rfl ⟨_, hr2, ?_⟩ rfl rfl (fun x => ?_) tl (fun a b => rfl) (Nat.le_add_right _ _)
      · show HasL _ (V.non :: ts.map V.str) ((W.non :: ts.map W.tag).map W.dat)
        exact HasL.cons has_non (tags_has ts)
      · show valV tk' _ = _
        rw [tv x]
        unfold hasTag
        by_cases m : x ∈ ts
        · rw [if_pos m, if_pos (decide_eq_true m)]
        · rw [if_neg m, if_neg (by simp [m])]
    · have e := h.sh
      rw [shp_tg, if_pos rfl] at e
      cases e
      exact h.ok
  | pr w' a b =>
    obtain ⟨p, rfl, hp⟩ := has_gpr hv1
    refine ⟨_, rfl, p, _, rfl, .inr (SqT.of hp), rfl, _, rfl, ?_⟩
    refine iteM (by simp) ?_
    refine iteM (by simp) ?_
    refine ⟨_, rfl, p, _, rfl, .inr (SqT.of hp), rfl, _, rfl, ?_⟩
    refine iteP (by simp) ?_
    refine ⟨_, rfl, p, _, 0, _, rfl, rfl, SqT.of hp, rfl, rfl, _, rfl, ?_⟩
    by_cases ew : w' = "pair"
    case neg =>
      refine iteM (by simp [ew]) ?_
      exact ⟨_, rfl, y, rfl, t8, _, rfl, t8, _, rfl, by decide, no fun s h => by have := h.sh; rw [shp_pr, if_neg ew] at this; cases this⟩
    subst ew
    refine iteP (by simp) ?_
    refine ⟨_, rfl, A'.t, _, _, rfl, kd1.ins, f_tp _, _, rfl, _, rfl, p, _, 1, _, rfl, rfl, SqT.of hp, rfl, _, rfl, p, _, 2, _, rfl, rfl, SqT.of hp, rfl, A', S, y, a, b, z, rfl, kd1, kr1, jo, ty, k6, fun ok H2 r f2 kd2 hr2 => ?_, fun nok H2 f2 => qe (fun s h => nok ?_) _ (s1.kfr.trans f2)⟩
    · refine ⟨_, rfl, _, rfl, A'.t, C, _, _, _, rfl, kd2.ins, T.cl, T.sh, f_sh _, _, rfl, _, _, rfl, DPut.k (k := Sum.inr y) kd2.sh (small1000 (by show S.sh.length ≤ 1000; omega)), ?_⟩
      refine fin (.pair a b) ⟨hw, my, rfl, ok⟩ H2 _ p r rfl f2 kd2 rfl rfl hr2 rfl rfl (fun x => rfl) (Nat.le_add_right _ _) (fun e g => ?_) (by have := length_putK S.pk [Sum.inr a, Sum.inr b] (.str y); show (putK S.pk [Sum.inr a, Sum.inr b] (V.str y)).length ≤ _; omega)
      show valV (putK S.pk [Sum.inr a, Sum.inr b] (V.str y)) [Sum.inr e, Sum.inr g] = _
      rw [valV_put]
      unfold isPair
      by_cases h1 : a = e
      · by_cases h2 : b = g
        · subst h1 h2; simp
        · have z : ¬ ([Sum.inr e, Sum.inr g] : List Key) = [Sum.inr a, Sum.inr b] := fun w => by injection w with w1 w2; injection w2 with w2 _; exact h2 (Sum.inr.inj w2).symm
          rw [if_neg z, if_neg (by simp [h2])]
      · have z : ¬ ([Sum.inr e, Sum.inr g] : List Key) = [Sum.inr a, Sum.inr b] := fun w => by injection w with w1 _; exact h1 (Sum.inr.inj w1).symm
        rw [if_neg z, if_neg (by simp [h1])]
    · have e := h.sh
      rw [shp_pr, if_pos rfl] at e
      cases e
      exact h.ok
end
end K4
namespace L2
open PySem
theorem good_cons {z : JS} {k : Str × GS} {l : List (Str × GS)} : Good z (k :: l) ↔ ∃ s, StepOk z k.1 k.2 s ∧ Good (z.new k.1 s) l := Iff.rfl
theorem drop_at {α : Type} {l : List α} {i : Nat} {a : α} (h : l[i]? = some a) : l.drop i = a :: l.drop (i + 1) := by
  obtain ⟨hi, e⟩ := (List.getElem?_eq_some_iff.mp h)
  rw [List.drop_eq_getElem_cons hi, e]
structure At (gs : List (Str × GS)) (i : Nat) (z : JS) : Prop where
  iff : Good z (gs.drop i) ↔ Good z0 gs
  nm : z.nm = (gs.take i).map (·.1)
  ok : JOk z
theorem At.zero (gs : List (Str × GS)) : At gs 0 z0 := ⟨Iff.rfl, rfl, JOk.zero⟩
theorem At.step {gs : List (Str × GS)} {i : Nat} {z : JS} {y : Str} {g : GS} {s : Shp} (a : At gs i z) (h : gs[i]? = some (y, g)) (st : StepOk z y g s) : At gs (i + 1) (z.new y s) := by
  refine ⟨?_, ?_, a.ok.step st⟩
  · rw [← a.iff, drop_at h, good_cons]
    constructor
    · intro k; exact ⟨s, st, k⟩
    · rintro ⟨s', st', k⟩
      rw [st.uniq st']; exact k
  · rw [new_nm, a.nm, take_snoc h, List.map_append]; rfl
theorem At.no {gs : List (Str × GS)} {i : Nat} {z : JS} {y : Str} {g : GS} (a : At gs i z) (h : gs[i]? = some (y, g)) (no : ∀ s, ¬ StepOk z y g s) : ¬ Good z0 gs := fun k => by
  rw [← a.iff, drop_at h, good_cons] at k
  obtain ⟨s, st, _⟩ := k
  exact no s st
theorem At.len {gs : List (Str × GS)} {i : Nat} {z : JS} (a : At gs i z) : z.ks.length ≤ i := by
  have e := congrArg List.length a.nm
  unfold JS.nm at e
  rw [List.length_map, List.length_map, List.length_take] at e
  omega
theorem At.done {gs : List (Str × GS)} {i : Nat} {z : JS} (a : At gs i z) (h : gs.length ≤ i) : Good z0 gs := a.iff.mp (by rw [List.drop_eq_nil_of_le h]; trivial)
theorem mo_len {K : PySem.W.Frag} {i : Nat} : MonoT (tCB (fun xs H Q => ∃ p ys, xs = [.ref p] ∧ (SqL K H p ys ∨ SqT K H p ys) ∧ Q (.int ys.length) H) (tCons (tVar i) tNil)) := fun σ H Q Q' k ⟨v, e, p, ys, h1, h2, r⟩ => ⟨v, e, p, ys, h1, h2, k _ _ r⟩
end L2
namespace K4
open PySem L2
section
variable {P : Program} {w : World} {K : PySem.W.Frag} {mg : Str → Option Value} {base : Heap} {f g C N gt : Addr} {fd gd td : FuncData}
def spInit (C N : Addr) : Sp := fun vs H Q E => ∃ (x dx l : Addr) (xs : List V) (gs : List (Str × GS)), vs = [.ref x, .ref l] ∧ H x = some (.ins C dx []) ∧ H l = some (.lst xs) ∧ HasL H xs (gs.map gD) ∧ gs.length ≤ 20 ∧ (∀ k ∈ gs, Tx k.1 ∧ k.2.tx) ∧
  (GoodAll gs → ∀ H', (∀ b o, b ≠ x → H b = some o → H' b = some o) → (∃ ks d, KI H' C x ks d ∧ ks.map (·.1) = gs.map (·.1)) → Q .non H') ∧
  (¬ GoodAll gs → ∀ H', (∀ b o, b ≠ x → H b = some o → H' b = some o) → E (.ref N) none H')
theorem f_tak (A : KA6) : (flds A).lookup ("take" : Str) = none := rfl
theorem scInit : FnScope ["self", "told", "name", "shape"] ["self", "told"] (defScope sInit) := ⟨rfl, rfl, rfl, by decide +kernel, rfl, by decide +kernel, by decide +kernel⟩
theorem ok_init {n : Nat} {u : Value} (B : Blt mg) (T : KCl K C) (hN : mg "NoKinds" = some (.ref N)) (cN : IsX K N) (F : Fun K "__init__" "Kinds.__init__" sInit f fd) (hM : mg "MOST_KINDS" = some u) (rM : RelV (.int 6) u)
    (GT : FnOk P w K mg base (CX1 P w) n gt td ["self", "name", "shape"] (spKTake C N)) (bT : Binds K td ["self", "name", "shape"] []) (mT : Meth K C "take" gt) :
    FnOk P w K mg base (CX1 P w) (n + 1) f fd ["self", "told"] (spInit C N) := by
  refine F.okX scInit (fun vs H Q E h => ?_) (fun cdv A outer s H vs Q E hr h => ?_)
  · obtain ⟨x, dx, l, xs, gs, rfl, _⟩ := h
    rfl
  obtain ⟨x, dx, l, xs, gs, rfl, hx, hl, hxs, l20, tx, q, qe⟩ := h
  have ps : Passes (CX1 P w) (cxOf (CX1 P w) P w K mg base ["self", "told", "name", "shape"] "Kinds.__init__" (defScope sInit) f cdv A outer s H E) E := lets_cx.passes rfl
  refine ⟨_, pss_cons (ps_if (pt_not (pt_chain op_le op_le pe_int (pe_callB call_len_seq rfl B.len PySem.boot_len (pa_cons (pv 1) pa_nil)) (pe_glob rfl hM rM))) (pss_one (ps_raiseF lets_cx rfl rfl rfl hN cN (.cons pe_str (mo_c _) (.cons (pe_fmtI (pe_glob rfl hM rM)) (mo_fmtI (mo_c _)) (.cons pe_str (mo_c _) (.cons (pe_fmtI (pe_callB call_len_seq rfl B.len PySem.boot_len (pa_cons (pv 1) pa_nil))) (mo_fmtI mo_len) .nil)))))) pss_nil)
    (pss_cons (ps_fld (pv 0) pe_dnewK rfl) (pss_cons (ps_fld (pv 0) pe_dnewK rfl) (pss_cons (ps_fld (pv 0) pe_dnewK rfl) (pss_cons (ps_fld (pv 0) pe_dnewK rfl) (pss_cons (ps_fld (pv 0) pe_dnewK rfl) (pss_cons (ps_fld (pv 0) pe_dnewT rfl)
    (pss_one (ps_for PassesOwn.leaving rfl (pi_list (pv 1)) (pg_tup (n := 2) rfl (pgs_cons (pg_name (i := 2) scInit.nd rfl (Or.inl rfl)) (pgs_cons (pg_name (i := 3) scInit.nd rfl (Or.inl rfl)) pgs_nil)))
      (pss_one (ps_expr (pe_meth (pv 0) T.cl mT GT hr bT .nil ps (pa_cons (pv 2) (pa_cons (pv 3) pa_nil))))))))))))), ?_⟩
  have lx := hxs.length
  rw [List.length_map] at lx
  have no : ¬ (1 ≤ gs.length ∧ gs.length ≤ 6) → E (.ref N) none H := fun h => qe (fun o => h ⟨o.1, o.2.1⟩) H fun b o _ e => e
  refine ⟨_, rfl, l, _, rfl, .inl (SqL.of hl), _, _, rfl, rfl, _, rfl, ?_⟩
  by_cases k0 : 1 ≤ gs.length
  case neg =>
    refine iteM (by simp; omega) ?_
    refine ⟨_, rfl, _, rfl, by decide, 6, rfl, by decide, fun t ht => ⟨t, rfl, ht, _, rfl, by decide, _, rfl, l, _, rfl, .inl (SqL.of hl), xs.length, rfl, by omega, fun t ht => ⟨t, rfl, ht, no fun h => k0 h.1⟩⟩⟩
  refine iteP (by simp; omega) ?_
  refine ⟨_, _, rfl, rfl, _, rfl, ?_⟩
  by_cases k6 : gs.length ≤ 6
  case neg =>
    refine iteP (by simp; omega) ?_
    refine ⟨_, rfl, by decide, 6, rfl, by decide, fun t ht => ⟨t, rfl, ht, _, rfl, by decide, _, rfl, l, _, rfl, .inl (SqL.of hl), xs.length, rfl, by omega, fun t ht => ⟨t, rfl, ht, no fun h => k6 h.2⟩⟩⟩
  refine iteM (by simp; omega) ?_
  intro p1 hp1
  refine ⟨_, rfl, x, C, dx, _, rfl, by rw [upd_ne (ne_of_none hx hp1)]; exact hx, T.cl, T.sh, by decide, ?_⟩
  obtain ⟨x1, a1, n1, r1⟩ := fld_step (f := "shapes") (o := .dK []) hx hp1
  generalize upd (upd H p1 (.dK [])) x (.ins C dx (putF "shapes" (.ref p1) [])) = H1 at x1 a1 r1 ⊢
  intro p2 hp2
  refine ⟨_, rfl, x, C, dx, _, rfl, by rw [upd_ne (ne_of_none x1 hp2)]; exact x1, T.cl, T.wo, (by show 1 < 1000; decide), ?_⟩
  obtain ⟨x2, a2, n2, r2⟩ := fld_step (f := "worths") (o := .dK []) x1 hp2
  generalize upd (upd H1 p2 (.dK [])) x (.ins C dx (putF "worths" (.ref p2) (putF "shapes" (.ref p1) []))) = H2 at x2 a2 r2 ⊢
  intro p3 hp3
  refine ⟨_, rfl, x, C, dx, _, rfl, by rw [upd_ne (ne_of_none x2 hp3)]; exact x2, T.cl, T.he, (by show 2 < 1000; decide), ?_⟩
  obtain ⟨x3, a3, n3, r3⟩ := fld_step (f := "heights") (o := .dK []) x2 hp3
  generalize upd (upd H2 p3 (.dK [])) x (.ins C dx (putF "heights" (.ref p3) (putF "worths" (.ref p2) (putF "shapes" (.ref p1) [])))) = H3 at x3 a3 r3 ⊢
  intro p4 hp4
  refine ⟨_, rfl, x, C, dx, _, rfl, by rw [upd_ne (ne_of_none x3 hp4)]; exact x3, T.cl, T.pd, (by show 3 < 1000; decide), ?_⟩
  obtain ⟨x4, a4, n4, r4⟩ := fld_step (f := "pairs_deep") (o := .dK []) x3 hp4
  generalize upd (upd H3 p4 (.dK [])) x (.ins C dx (putF "pairs_deep" (.ref p4) (putF "heights" (.ref p3) (putF "worths" (.ref p2) (putF "shapes" (.ref p1) []))))) = H4 at x4 a4 r4 ⊢
  intro p5 hp5
  refine ⟨_, rfl, x, C, dx, _, rfl, by rw [upd_ne (ne_of_none x4 hp5)]; exact x4, T.cl, T.tk, (by show 4 < 1000; decide), ?_⟩
  obtain ⟨x5, a5, n5, r5⟩ := fld_step (f := "tag_kinds") (o := .dK []) x4 hp5
  generalize upd (upd H4 p5 (.dK [])) x (.ins C dx (putF "tag_kinds" (.ref p5) (putF "pairs_deep" (.ref p4) (putF "heights" (.ref p3) (putF "worths" (.ref p2) (putF "shapes" (.ref p1) [])))))) = H5 at x5 a5 r5 ⊢
  intro p6 hp6
  refine ⟨_, rfl, x, C, dx, _, rfl, by rw [upd_ne (ne_of_none x5 hp6)]; exact x5, T.cl, T.pk, (by show 5 < 1000; decide), ?_⟩
  obtain ⟨x6, a6, n6, r6⟩ := fld_step (f := "pair_kinds") (o := .dT []) x5 hp6
  generalize upd (upd H5 p6 (.dT [])) x (.ins C dx (putF "pair_kinds" (.ref p6) (putF "tag_kinds" (.ref p5) (putF "pairs_deep" (.ref p4) (putF "heights" (.ref p3) (putF "worths" (.ref p2) (putF "shapes" (.ref p1) []))))))) = H6 at x6 a6 r6 ⊢
  let A' : KA6 := ⟨x, dx, p1, p2, p3, p4, p5, p6⟩
  have frame : ∀ b o, b ≠ x → H b = some o → H6 b = some o := fun b o hb h => r6 b o hb (r5 b o hb (r4 b o hb (r3 b o hb (r2 b o hb (r1 b o hb h)))))
  have c12 := r2 _ _ n1 a1
  have c13 := r3 _ _ n1 c12
  have c14 := r4 _ _ n1 c13
  have c15 := r5 _ _ n1 c14
  have c16 := r6 _ _ n1 c15
  have c23 := r3 _ _ n2 a2
  have c24 := r4 _ _ n2 c23
  have c25 := r5 _ _ n2 c24
  have c26 := r6 _ _ n2 c25
  have c34 := r4 _ _ n3 a3
  have c35 := r5 _ _ n3 c34
  have c36 := r6 _ _ n3 c35
  have c45 := r5 _ _ n4 a4
  have c46 := r6 _ _ n4 c45
  have c56 := r6 _ _ n5 a5
  have ndA : A'.ds.Nodup := by
    have e12 := ne_of_none a1 hp2
    have e13 := ne_of_none c12 hp3
    have e14 := ne_of_none c13 hp4
    have e15 := ne_of_none c14 hp5
    have e16 := ne_of_none c15 hp6
    have e23 := ne_of_none a2 hp3
    have e24 := ne_of_none c23 hp4
    have e25 := ne_of_none c24 hp5
    have e26 := ne_of_none c25 hp6
    have e34 := ne_of_none a3 hp4
    have e35 := ne_of_none c34 hp5
    have e36 := ne_of_none c35 hp6
    have e45 := ne_of_none a4 hp5
    have e46 := ne_of_none c45 hp6
    have e56 := ne_of_none a5 hp6
    simp [KA6.ds, A', e12, e13, e14, e15, e16, e23, e24, e25, e26, e34, e35, e36, e45, e46, e56]
  have kd : KD H6 C A' ⟨[], [], [], [], [], []⟩ := ⟨x6, c16, c26, c36, c46, c56, a6, ndA⟩
  have new : ∀ b, b ∈ A'.ds → H b = none := fun b hb => by
    cases e : H b with
    | none => rfl
    | some o =>
      simp only [KA6.ds, A', List.mem_cons, List.not_mem_nil, or_false] at hb
      rcases hb with z | z | z | z | z | z
      · subst z; rw [hp1] at e; cases e
      · subst z; rw [r1 _ _ n2 e] at hp2; cases hp2
      · subst z; rw [r2 _ _ n3 (r1 _ _ n3 e)] at hp3; cases hp3
      · subst z; rw [r3 _ _ n4 (r2 _ _ n4 (r1 _ _ n4 e))] at hp4; cases hp4
      · subst z; rw [r4 _ _ n5 (r3 _ _ n5 (r2 _ _ n5 (r1 _ _ n5 e)))] at hp5; cases hp5
      · subst z; rw [r5 _ _ n6 (r4 _ _ n6 (r3 _ _ n6 (r2 _ _ n6 (r1 _ _ n6 e))))] at hp6; cases hp6
  have lnx : l ≠ x := ne_of hl hx (by intro z; cases z)
  have hl6 := frame _ _ lnx hl
  have tl06 : TL H H6 := ⟨fun b ys h => frame _ _ (ne_of h hx (by intro z; cases z)) h, fun b ys h => frame _ _ (ne_of h hx (by intro z; cases z)) h⟩
  have hx6 := HasL.tl tl06 _ hxs
  refine ⟨_, rfl, l, rfl, ⟨_, SqL.of hl6⟩, ?_⟩
  have fr0 : ∀ {H' : Hp}, KFr A' H6 H' → ∀ b o, b ≠ x → H b = some o → H' b = some o := fun fr b o hb h => fr b o (fun hm => by rw [new b hm] at h; cases h) (frame b o hb h)
  refine fl_list (xs := xs) (fun i σ H' => ∃ S z1 z2 z, KFr A' H6 H' ∧ KD H' C A' S ∧ KR H' S z.ks z.d ∧ At gs i z ∧ σ = [some (.ref x), some (.ref l), z1, z2]) ⟨_, _, _, z0, KFr.refl _ _, kd, ?_, At.zero gs, rfl⟩ ?_ ?_ ?_
  · exact ⟨rfl, fun y s e => by simp [shOf, z0] at e, fun y hy => by simp [z0] at hy, fun y hy => by simp [z0] at hy, fun y hy => by simp [z0] at hy, fun y => rfl, fun a b => rfl, by decide⟩
  · rintro i σ H' _ ⟨S, z1, z2, z, fr, kd', kr', _, rfl⟩
    exact SqL.of ((fr.tl kd).2 _ _ hl6)
  · rintro BB RR i v σ H' hv ⟨S, z1, z2, z, fr, kd', kr', at', rfl⟩
    have ilt := (List.getElem?_eq_some_iff.mp hv).1
    obtain ⟨dv, hdv, hhv⟩ := hx6.get hv
    rw [List.getElem?_map] at hdv
    cases hk : gs[i]? with
    | none => rw [hk] at hdv; cases hdv
    | some ys =>
      rw [hk] at hdv
      cases hdv
      obtain ⟨y, sh⟩ := ys
      have tl6 := fr.tl kd
      obtain ⟨a, v2, rfl, ha, hv2⟩ := has_g (Has.tl tl6 _ hhv)
      obtain ⟨ty, tg⟩ := tx _ (List.mem_of_getElem? hk)
      refine ⟨a, _, rfl, SqT.of ha, rfl, _, _, rfl, _, _, rfl, rfl, ?_⟩
      have := at'.len
      refine ⟨_, rfl, x, _, _, rfl, kd'.ins, f_tak A', _, rfl, _, rfl, A', S, y, v2, sh, z, rfl, kd', kr', at'.ok, ty, tg, hv2, by omega, fun s st H2 S2 f2 kd2 kr2 => ?_, fun nst H2 f2 => qe (fun h => at'.no hk nst h.2.2) _ (fr0 (fr.trans f2))⟩
      exact ⟨S2, _, _, z.new y s, fr.trans f2, kd2, kr2, at'.step hk st, rfl⟩
  · rintro σ H' ⟨S, z1, z2, z, fr, kd', kr', at', rfl⟩
    refine q ⟨k0, k6, at'.done (by omega)⟩ H' (fr0 fr) ⟨z.ks, z.d, ⟨A', S, rfl, kd', kr'⟩, ?_⟩
    have e := at'.nm
    rw [List.take_of_length_le (by omega)] at e
    exact e
end
end K4
namespace L2
open PySem
def Asc (x : Str) : Prop := ∀ c ∈ x.cps.toList, c < 128
theorem Asc.app {x y : Str} (a : Asc x) (b : Asc y) : Asc (x ++ y) := fun c hc => by
  rw [(PySem.Str.cps_append), Array.toList_append, List.mem_append] at hc
  exact hc.elim (a c) (b c)
theorem Asc.one {c : Nat} (h : c < 128) : Asc ⟨#[c]⟩ := fun d hd => by
  have : d = c := by simpa using hd
  rw [this]; exact h
theorem slice_asc {x : Str} {l u : Option Int} (h : Asc x) : Asc (Txt.slice x l u) := fun c hc => by
  unfold Txt.slice at hc
  split at hc
  · exact h c hc
  · rw [show (⟨((Builtin.Str.strSliceIndices l u 1 x.length).filterMap (x.cps[·]?)).toArray⟩ : Str).cps.toList = (Builtin.Str.strSliceIndices l u 1 x.length).filterMap (x.cps[·]?) from List.toList_toArray] at hc
    obtain ⟨i, _, hi⟩ := List.mem_filterMap.mp hc
    exact h c (Array.mem_toList_iff.mpr (Array.mem_of_getElem? hi))
theorem asc_of {x : Str} (h : x.cps.toList.all (fun c => decide (c < 128)) = true) : Asc x := fun c hc => of_decide_eq_true (List.all_eq_true.mp h c hc)
section
variable {X : Cx}
def rCase : V → List V → Hp → VK → Prop := fun x vs H Q => ∃ z, x = .str z ∧ vs = [] ∧ Asc z ∧ z.length ≤ 1000 ∧ ∀ y, y.length = z.length → Asc y → Q (.str y) H
theorem mt_upper : MtR X "str.upper" rCase := by
  intro pins s σ H x vs v us Q I rx rv h
  obtain ⟨z, rfl, rfl, a, l, q⟩ := h
  obtain ⟨t, rfl⟩ := rx
  cases rv
  refine PyProof.Rows.SCL.upper (by omega) fun _ => ⟨.str _, H, I.tok _, ⟨_, rfl⟩, q _ ?_ ?_⟩
  · rw [PyProof.Rows.upper_ascii a]; show (z.cps.map _).size = z.cps.size; simp
  · rw [PyProof.Rows.upper_ascii a]
    intro c hc
    have hc' : c ∈ (z.cps.map PyProof.Rows.up1).toList := hc
    rw [Array.toList_map] at hc'
    obtain ⟨d, hd, rfl⟩ := List.mem_map.mp hc'
    have := a d hd
    unfold PyProof.Rows.up1
    split <;> omega
theorem mt_lower : MtR X "str.lower" rCase := by
  intro pins s σ H x vs v us Q I rx rv h
  obtain ⟨z, rfl, rfl, a, l, q⟩ := h
  obtain ⟨t, rfl⟩ := rx
  cases rv
  refine PyProof.Rows.SCL.lower (by omega) fun _ => ⟨.str _, H, I.tok _, ⟨_, rfl⟩, q _ ?_ ?_⟩
  · rw [PyProof.Rows.lower_ascii a]; show (z.cps.map _).size = z.cps.size; simp
  · rw [PyProof.Rows.lower_ascii a]
    intro c hc
    have hc' : c ∈ (z.cps.map PyProof.Rows.lo1).toList := hc
    rw [Array.toList_map] at hc'
    obtain ⟨d, hd, rfl⟩ := List.mem_map.mp hc'
    have := a d hd
    unfold PyProof.Rows.lo1
    split <;> omega
def rIsUp : V → List V → Hp → VK → Prop := fun x vs H Q => ∃ z, x = .str z ∧ vs = [] ∧ ∀ b, Q (.bl b) H
theorem mt_isupper : MtR X "str.isupper" rIsUp := by
  intro pins s σ H x vs v us Q I rx rv h
  obtain ⟨z, rfl, rfl, q⟩ := h
  obtain ⟨t, rfl⟩ := rx
  cases rv
  exact SC.isupper ⟨.bl _, H, I, rfl, q _⟩
def rMulS : R2 := fun x y H Q => ∃ z k, x = .str z ∧ y = .int k ∧ Asc z ∧ z.length = 1 ∧ k ≤ 20 ∧ 0 ≤ k ∧ ∀ u : Str, u.length ≤ k.toNat → Asc u → Q (.str u) H
theorem op_mulS : OpR X (binaryOp .Mult) rMulS := by
  intro pins s σ H x y v u Q I rx ry h
  obtain ⟨z, k, rfl, rfl, a, lz, k1, k0, q⟩ := h
  obtain ⟨t, rfl⟩ := rx
  obtain ⟨t', rfl⟩ := ry
  have key : ∀ m : Nat, ((List.replicate m z.cps).foldl (· ++ ·) #[]).toList = (List.replicate m z.cps.toList).flatten := by
    intro m
    have g : ∀ (m : Nat) (acc : Array Nat), ((List.replicate m z.cps).foldl (· ++ ·) acc).toList = acc.toList ++ (List.replicate m z.cps.toList).flatten := by
      intro m
      induction m with
      | zero => intro acc; simp
      | succ m ih => intro acc; rw [List.replicate_succ, List.foldl_cons, ih, List.replicate_succ, List.flatten_cons, Array.toList_append, List.append_assoc]
    have := g m #[]
    rw [this]; rfl
  have lt : z.cps.toList.length = 1 := by rw [Array.length_toList]; exact lz
  refine SB.mul ⟨by simp; omega, fun h1 _ => ?_, fun _ _ => ?_⟩ fun t' k' => ⟨.str _, H, I.tok _, ⟨_, rfl⟩, q _ ?_ ?_⟩
  · rw [lz]
    have : (1 : Int) ≤ (2 ^ 63 - 1) / k := by
      have : (2 ^ 63 - 1) / k ≥ 1 := by
        apply (Int.le_ediv_iff_mul_le (by omega)).mpr
        omega
      exact this
    omega
  · rw [lz]
    have : (1 * k.toNat) ≤ 20 := by omega
    unfold Builtin.Str.tooLong
    simp
    have : (20 : Nat) ≤ sizeLine := by decide
    omega
  · unfold Txt.mul
    split
    · exact Nat.zero_le _
    · split
      · omega
      · show ((List.replicate k.toNat z.cps).foldl (· ++ ·) #[]).size ≤ k.toNat
        rw [← Array.length_toList, key, len_rep, lt]; omega
  · unfold Txt.mul
    split
    · intro c hc; simp [Str.empty] at hc
    · split
      · exact a
      · intro c hc
        have hc' : c ∈ ((List.replicate k.toNat z.cps).foldl (· ++ ·) #[]).toList := hc
        rw [key, List.mem_flatten] at hc'
        obtain ⟨l, hl, hcl⟩ := hc'
        rw [(List.mem_replicate.mp hl).2] at hcl
        exact a c hcl
def rSlW : V → Option Int → Option Int → Hp → VK → Prop := fun x _ _ H Q => ∃ z, x = .str z ∧ Asc z ∧ z.length ≤ 1000 ∧ ∀ y : Str, y.length ≤ z.length → Asc y → Q (.str y) H
theorem sl_strW : SlR X rSlW := fun pins s σ H x v vl vu lo hi sl Q I rx hs pl pu ⟨z, e, a, l, q⟩ => sl_str pins s σ H x v vl vu lo hi sl Q I rx hs pl pu ⟨z, e, Nat.le_of_lt (small1000 l), q _ (Txt.slice_le z lo hi) (slice_asc a)⟩
def rIxW : R2 := fun x y H Q => ∃ z i, x = .str z ∧ y = .int i ∧ Asc z ∧ z.length ≤ 1000 ∧ -(z.length : Int) ≤ i ∧ i < z.length ∧ ∀ y : Str, y.length = 1 → Asc y → Q (.str y) H
theorem atI_in {α : Type} {xs : List α} {i : Int} (h1 : -(xs.length : Int) ≤ i) (h2 : i < xs.length) : ∃ v, v ∈ xs ∧ atI xs i = some v := by
  have key : ∀ j : Nat, ixN xs.length i = some j → j < xs.length → ∃ v, v ∈ xs ∧ atI xs i = some v := fun j e hj => by
    refine ⟨xs[j], List.getElem_mem hj, ?_⟩
    unfold atI
    rw [e]
    exact List.getElem?_eq_getElem hj
  cases e : ixN xs.length i with
  | some j => exact key j e (ixN_seq e).2.1
  | none =>
    unfold ixN at e
    by_cases h0 : 0 ≤ i
    · rw [if_pos h0] at e
      first
      | (rw [if_pos (by omega)] at e; cases e)
      | (simp at e; omega)
    · rw [if_neg h0] at e
      first
      | (rw [if_pos (by omega)] at e; cases e)
      | (simp at e; omega)
theorem ix_strW : IxR X rIxW := fun value slice pins s σ H x y v u Q I rx ry ⟨z, i, e1, e2, a, l, h1, h2, q⟩ => by
  have lt : z.cps.toList.length = z.length := Array.length_toList
  obtain ⟨c, hc, e⟩ := atI_in (xs := z.cps.toList) (i := i) (by omega) (by omega)
  exact ix_str value slice pins s σ H x y v u Q I rx ry ⟨z, i, c, e1, e2, Nat.le_of_lt (small1000 l), e, q _ rfl (Asc.one (a c hc))⟩
def rAddW : R2 := fun x y H Q => ∃ i j, x = .str i ∧ y = .str j ∧ Asc i ∧ Asc j ∧ i.length ≤ 1000 ∧ j.length ≤ 1000 ∧ ∀ y : Str, y.length = i.length + j.length → Asc y → Q (.str y) H
theorem op_addW : OpR X (binaryOp .Add) rAddW := fun pins s σ H x y v u Q I rx ry ⟨i, j, e1, e2, a, b, l, m, q⟩ => by
  have : (2000 : Nat) ≤ sizeLine := by decide
  exact op_add_str pins s σ H x y v u Q I rx ry ⟨i, j, e1, e2, by omega, q _ (strLen_append _ _) (a.app b)⟩
def AllV (p : V → Prop) (xs : List V) : Prop := ∀ v ∈ xs, p v
theorem atI_all {p : V → Prop} {xs : List V} {i : Int} (h : AllV p xs) (h1 : 0 ≤ i) (h2 : i < xs.length) : ∃ v, atI xs i = some v ∧ p v := by
  obtain ⟨v, hv, e⟩ := atI_in (xs := xs) (i := i) (by omega) h2
  exact ⟨v, e, h v hv⟩
theorem mod_in (i : Int) {n : Nat} (h : 0 < n) : 0 ≤ i % (n : Int) ∧ i % (n : Int) < (n : Int) := ⟨Int.emod_nonneg _ (by omega), Int.emod_lt_of_pos _ (by omega)⟩
end
end L2
namespace K4
open PySem L2
section
variable {P : Program} {w : World} {K : PySem.W.Frag} {mg : Str → Option Value} {base : Heap} {f g : Addr} {fd gd : FuncData}
def spBad : Sp := fun vs H Q _ => ∃ (x : Str) (k : Int), vs = [.str x, .int k] ∧ Asc x ∧ 1 ≤ x.length ∧ x.length ≤ 8 ∧ ∀ y H', Tx y → Same H H' → Q (.str y) H'
theorem scBad : FnScope ["word", "way", "flipped"] ["word", "way"] (defScope sBad) := ⟨rfl, rfl, rfl, by decide +kernel, rfl, by decide +kernel, by decide +kernel⟩
theorem ok_bad {n : Nat} (B : Blt mg) (F : Fun K "_law_bad_word" "_law_bad_word" sBad f fd) : FnOk P w K mg base CX0 (n + 1) f fd ["word", "way"] spBad := by
  refine F.ok scBad (fun vs H Q E h => ?_) (fun cdv A outer s H vs Q E hr h => ?_)
  · obtain ⟨x, k, rfl, _⟩ := h
    rfl
  obtain ⟨x, k, rfl, ax, l1, l8, q⟩ := h
  refine ⟨_, pss_cons (ps_set (i := 2) scBad.nd rfl (Or.inl rfl) (pe_ix ix_list (pe_lst (pa_cons (pe_bm0 PySem.F.plainAttrs_str PySem.F.slot_str_upper PySem.F.type_str_upper mt_upper (pv 0)) (pa_cons (pe_bm0 PySem.F.plainAttrs_str PySem.F.slot_str_lower PySem.F.type_str_lower mt_lower (pv 0)) pa_nil)))
      (pe_callTy call_int1 rfl B.int boot_int' (pa_cons (pe_bm0 PySem.F.plainAttrs_str PySem.F.slot_str_isupper PySem.F.type_str_isupper mt_isupper (pv 0)) pa_nil)) (fun _ _ => rfl)))
    (pss_one (ps_ret (pe_ix ix_list (pe_lst (pa_cons pe_str
      (pa_cons (pe_op op_addW (pv 0) (pe_op op_mulS (pe_ix ix_strW (pv 0) (pe_un un_neg pe_int) (fun _ _ => rfl)) (pe_op op_sub pe_int (pe_callB call_len_str rfl B.len PySem.boot_len (pa_cons (pv 0) pa_nil)))))
      (pa_cons (pe_op op_addW (pe_slice sl_strW (pv 0) po_none (po_some (pe_un un_neg pe_int))) pe_str)
      (pa_cons (pv 2)
      (pa_cons (pe_op op_addW pe_str (pe_slice sl_strW (pv 0) (po_some pe_int) po_none))
      (pa_cons (pe_op op_addW (pe_slice sl_strW (pv 0) po_none (po_some (pe_un un_neg pe_int))) pe_str)
      (pa_cons (pe_op op_addW (pe_op op_addW (pe_slice sl_strW (pv 0) po_none (po_some pe_int)) pe_str) (pe_slice sl_strW (pv 0) (po_some pe_int) (po_some pe_int)))
      (pa_cons (pe_op op_addW (pv 0) (pe_ix ix_strW (pv 2) (pe_un un_neg pe_int) (fun _ _ => rfl))) pa_nil))))))))) (pe_op op_mod (pv 1) pe_int) (fun _ _ => rfl)))), ?_⟩
  have ls : x.length ≤ sizeLine := Nat.le_of_lt (small1000 (by omega))
  have x1000 : x.length ≤ 1000 := by omega
  have a1 : Asc (Str.ofString "1") := asc_of (by decide +kernel)
  have a2 : Asc (Str.ofString " ") := asc_of (by decide +kernel)
  have a3 : Asc (Str.ofString "_") := asc_of (by decide +kernel)
  have n1 : (Str.ofString "1").length = 1 := by decide
  have n2 : (Str.ofString " ").length = 1 := by decide
  have n3 : (Str.ofString "_").length = 1 := by decide
  refine ⟨_, rfl, rfl, x, rfl, rfl, ax, x1000, fun u1 lu1 au1 => ?_⟩
  refine ⟨_, rfl, rfl, x, rfl, rfl, ax, x1000, fun u2 lu2 au2 => ?_⟩
  refine ⟨by show 2 ≤ sizeLine; decide, fun p1 hp1 => ?_⟩
  have s1 := same_upd hp1 (.lst [V.str u1, V.str u2])
  have g1 : upd H p1 (.lst [V.str u1, V.str u2]) p1 = some (.lst [V.str u1, V.str u2]) := upd_same
  generalize upd H p1 (.lst [V.str u1, V.str u2]) = H1 at s1 g1 ⊢
  refine ⟨_, rfl, rfl, x, rfl, rfl, fun b => .inr ⟨b, rfl, ?_⟩⟩
  have pick : ∃ u : Str, u.length = x.length ∧ Asc u ∧ atI [V.str u1, V.str u2] (if b = true then 1 else 0) = some (V.str u) := by
    cases b
    · exact ⟨u1, lu1, au1, rfl⟩
    · exact ⟨u2, lu2, au2, rfl⟩
  obtain ⟨u, lu, au, eu⟩ := pick
  refine ⟨p1, _, _, _, rfl, rfl, SqL.of g1, eu, ?_⟩
  -- the eight
  refine ⟨_, rfl, _, rfl, _, rfl, x, _, rfl, rfl, ax, x1000, by omega, by omega, fun c lc ac => ?_⟩
  refine ⟨_, rfl, x, rfl, ls, _, _, rfl, rfl, c, _, rfl, rfl, ac, lc, by omega, by omega, fun m lm am => ?_⟩
  refine ⟨x, m, rfl, rfl, ax, am, x1000, by omega, fun w1 lw1 aw1 => ?_⟩
  refine ⟨_, rfl, _, rfl, _, rfl, x, rfl, ax, x1000, fun y2 l2 b2 => ⟨y2, _, rfl, rfl, b2, a1, by omega, by omega, fun w2 lw2 aw2 => ?_⟩⟩
  refine ⟨_, rfl, ?_⟩
  refine ⟨_, rfl, _, rfl, x, rfl, ax, x1000, fun y4 l4 b4 => ⟨_, y4, rfl, rfl, a2, b4, by omega, by omega, fun w4 lw4 aw4 => ?_⟩⟩
  refine ⟨_, rfl, _, rfl, _, rfl, x, rfl, ax, x1000, fun y5 l5 b5 => ⟨y5, _, rfl, rfl, b5, a3, by omega, by omega, fun w5 lw5 aw5 => ?_⟩⟩
  refine ⟨_, rfl, _, rfl, x, rfl, ax, x1000, fun y6 l6 b6 => ⟨y6, _, rfl, rfl, b6, a2, by omega, by omega, fun z6 lz6 az6 => ?_⟩⟩
  refine ⟨_, rfl, _, rfl, _, rfl, x, rfl, ax, x1000, fun y7 l7 b7 => ⟨z6, y7, rfl, rfl, az6, b7, by omega, by omega, fun w6 lw6 aw6 => ?_⟩⟩
  refine ⟨_, rfl, _, rfl, _, rfl, u, _, rfl, rfl, au, by omega, by omega, by omega, fun c8 lc8 ac8 => ⟨x, c8, rfl, rfl, ax, ac8, x1000, by omega, fun w7 lw7 aw7 => ?_⟩⟩
  have all : AllV (fun v => ∃ y, v = .str y ∧ Tx y) [V.str (Str.ofString ""), V.str w1, V.str w2, V.str u, V.str w4, V.str w5, V.str w6, V.str w7] := fun v hv => by
    simp only [List.mem_cons, List.not_mem_nil, or_false] at hv
    rcases hv with rfl | rfl | rfl | rfl | rfl | rfl | rfl | rfl
    · exact ⟨_, rfl, by decide, asc_of (by decide +kernel)⟩
    · exact ⟨_, rfl, by omega, aw1⟩
    · exact ⟨_, rfl, by omega, aw2⟩
    · exact ⟨_, rfl, by omega, au⟩
    · exact ⟨_, rfl, by omega, aw4⟩
    · exact ⟨_, rfl, by omega, aw5⟩
    · exact ⟨_, rfl, by omega, aw6⟩
    · exact ⟨_, rfl, by omega, aw7⟩
  refine ⟨by show 8 ≤ sizeLine; decide, fun p2 hp2 => ?_⟩
  have s2 := same_upd hp2 (.lst [V.str (Str.ofString ""), V.str w1, V.str w2, V.str u, V.str w4, V.str w5, V.str w6, V.str w7])
  obtain ⟨m1, m2⟩ := mod_in k (n := 8) (by decide)
  obtain ⟨v, ev, y, rfl, ty⟩ := atI_all all m1 m2
  exact ⟨_, rfl, _, _, rfl, rfl, (by show (0 : Int) < 8; decide), _, _, _, _, rfl, rfl, SqL.of upd_same, ev, q y _ ty (s1.trans s2)⟩
end
end K4
namespace L2
open PySem PySem.Spec PyProof.Rows
abbrev TD := St → Hp → (Dat → Prop) → Prop
def tOf (t : TD) : TE := fun σ H Q => t σ H fun d => ∀ v H', Same H H' → Has H' v d → Q v H'
structure PD (X : Cx) (e : Expr) (t : TD) : Prop where
  pe : PE X e (tOf t)
  mono : ∀ σ H (R R' : Dat → Prop), (∀ d, R d → R' d) → t σ H R → t σ H R'
  stab : ∀ σ H H' (R : Dat → Prop), Same H H' → t σ H R → t σ H' R
def dAll : List TD → St → Hp → (List Dat → Prop) → Prop
  | [], _, _, R => R []
  | t :: ts, σ, H, R => t σ H fun d => dAll ts σ H fun ds => R (d :: ds)
def tAll (ts : List TD) : TA := fun σ H Q => dAll ts σ H fun ds => ∀ vs H', Same H H' → HasL H' vs ds → Q vs H'
theorem PA.imp {X : Cx} {es : List Expr} {t t' : TA} (h : PA X es t) (k : ∀ σ H Q, t' σ H Q → t σ H Q) : PA X es t' := fun pos pins s σ H Q I q => h pos pins s σ H Q I (k σ H Q q)
structure PDs (X : Cx) (es : List Expr) (ts : List TD) : Prop where
  pa : PA X es (tAll ts)
  mono : ∀ σ H (R R' : List Dat → Prop), (∀ d, R d → R' d) → dAll ts σ H R → dAll ts σ H R'
  stab : ∀ σ H H' (R : List Dat → Prop), Same H H' → dAll ts σ H R → dAll ts σ H' R
section
variable {X : Cx} {e e' a b : Expr} {es : List Expr} {t t' u : TD} {ts : List TD} {pos p2 p : Pos}
theorem ds_nil : PDs X [] [] := ⟨pa_nil.imp fun σ H Q q => q [] H (Same.refl _) HasL.nil, fun σ H R R' k q => k _ q, fun σ H H' R _ q => q⟩
theorem ds_cons (p : PD X e t) (r : PDs X es ts) (hs : starEach (e :: es) X.env = (false, eval e X.env) :: starEach es X.env := by rfl) : PDs X (e :: es) (t :: ts) := by
  refine ⟨(pa_cons p.pe r.pa hs).imp fun σ H Q q => ?_, fun σ H R R' k q => p.mono σ H _ _ (fun d z => r.mono σ H _ _ (fun ds z' => k _ z') z) q, fun σ H H' R k q => p.stab σ H H' _ k (p.mono σ H _ _ (fun d z => r.stab σ H H' _ k z) q)⟩
  refine p.mono σ H _ _ (fun d z v H1 s1 hv => ?_) q
  exact r.mono σ H1 _ _ (fun ds z' vs H2 s2 hvs => z' (v :: vs) H2 (s1.trans s2) (HasL.cons (hv.mono s2) hvs)) (r.stab σ H H1 _ s1 z)
def dC (d : Dat) : TD := fun _ _ R => R d
theorem d_str {x : Str} {j : Nat} : PD X (.Constant (.str x) j pos) (dC (.str x)) := ⟨PE.imp pe_str fun σ H Q q => q _ _ (Same.refl _) (by unfold Has; rfl), fun σ H R R' k q => k _ q, fun σ H H' R _ q => q⟩
theorem d_int {x : Int} {j : Nat} : PD X (.Constant (.int x) j pos) (dC (.int x)) := ⟨PE.imp pe_int fun σ H Q q => q _ _ (Same.refl _) (by unfold Has; rfl), fun σ H R R' k q => k _ q, fun σ H H' R _ q => q⟩
def dVar (i : Nat) : TD := fun σ H R => ∃ v d, σ[i]? = some (some v) ∧ Has H v d ∧ R d
theorem d_of {i : Nat} (h : PE X e (tVar i)) : PD X e (dVar i) := ⟨PE.imp h fun σ H Q ⟨v, d, e1, hv, q⟩ => ⟨v, e1, q v H (Same.refl _) hv⟩, fun σ H R R' k ⟨v, d, e1, hv, q⟩ => ⟨v, d, e1, hv, k _ q⟩, fun σ H H' R s ⟨v, d, e1, hv, q⟩ => ⟨v, d, e1, hv.mono s, q⟩⟩
def dTup (ts : List TD) : TD := fun σ H R => dAll ts σ H fun ds => ds.length ≤ 1000 ∧ R (.tup ds)
theorem has_tup {H : Hp} {p : Addr} {vs : List V} {ds : List Dat} (h : H p = some (.tup vs)) (k : HasL H vs ds) : Has H (.ref p) (.tup ds) := by unfold Has; exact ⟨p, vs, rfl, h, k⟩
theorem has_lst' {H : Hp} {p : Addr} {vs : List V} {ds : List Dat} (h : H p = some (.lst vs)) (k : HasL H vs ds) : Has H (.ref p) (.lst ds) := by unfold Has; exact ⟨p, vs, rfl, h, k⟩
theorem d_tup {k : Nat} (h : PDs X es ts) : PD X (.Tuple es k pos) (dTup ts) := by
  refine ⟨PE.imp (pe_tup h.pa) fun σ H Q q => ?_, fun σ H R R' k q => h.mono σ H _ _ (fun ds z => ⟨z.1, k _ z.2⟩) q, fun σ H H' R k q => h.stab σ H H' _ k q⟩
  refine h.mono σ H _ _ (fun ds z vs H1 s1 hvs => ⟨?_, fun p hp => ?_⟩) q
  · rw [hvs.length]; exact Nat.le_of_lt (small1000 z.1)
  · have s2 := same_upd hp (.tup vs)
    exact z.2 _ _ (s1.trans s2) (has_tup upd_same (hvs.mono s2))
def dLst (ts : List TD) : TD := fun σ H R => dAll ts σ H fun ds => ds.length ≤ 1000 ∧ R (.lst ds)
theorem d_lst (h : PDs X es ts) : PD X (.List es pos) (dLst ts) := by
  refine ⟨PE.imp (pe_lst h.pa) fun σ H Q q => ?_, fun σ H R R' k q => h.mono σ H _ _ (fun ds z => ⟨z.1, k _ z.2⟩) q, fun σ H H' R k q => h.stab σ H H' _ k q⟩
  refine h.mono σ H _ _ (fun ds z vs H1 s1 hvs => ⟨?_, fun p hp => ?_⟩) q
  · rw [hvs.length]; exact Nat.le_of_lt (small1000 z.1)
  · have s2 := same_upd hp (.lst vs)
    exact z.2 _ _ (s1.trans s2) (has_lst' upd_same (hvs.mono s2))
def d2 (t u : TD) (g : Dat → Dat → (Dat → Prop) → Prop) : TD := fun σ H R => t σ H fun d => u σ H fun e => g d e R
theorem d_two {g : Dat → Dat → (Dat → Prop) → Prop} (hg : ∀ d e (R R' : Dat → Prop), (∀ x, R x → R' x) → g d e R → g d e R') (ha : PD X a t) (hb : PD X b u)
    (h : PE X e (fun σ H Q => tOf t σ H fun x H1 => tOf u σ H1 fun y H2 => ∃ d e, Has H2 x d ∧ Has H2 y e ∧ g d e fun z => ∀ v H3, Same H2 H3 → Has H3 v z → Q v H3)) : PD X e (d2 t u g) := by
  refine ⟨PE.imp h fun σ H Q q => ?_, fun σ H R R' k q => ha.mono σ H _ _ (fun d z => hb.mono σ H _ _ (fun e z' => hg d e _ _ k z') z) q, fun σ H H' R k q => ha.stab σ H H' _ k (ha.mono σ H _ _ (fun d z => hb.stab σ H H' _ k z) q)⟩
  refine ha.mono σ H _ _ (fun d z x H1 s1 hx => ?_) q
  refine hb.mono σ H1 _ _ (fun e z' y H2 s2 hy => ?_) (hb.stab σ H H1 _ s1 z)
  exact ⟨d, e, hx.mono s2, hy, hg d e _ _ (fun c z v H3 s3 hv => z v H3 ((s1.trans s2).trans s3) hv) z'⟩
def d1 (t : TD) (g : Dat → (Dat → Prop) → Prop) : TD := fun σ H R => t σ H fun d => g d R
theorem d_one {g : Dat → (Dat → Prop) → Prop} (hg : ∀ d (R R' : Dat → Prop), (∀ x, R x → R' x) → g d R → g d R') (ha : PD X a t)
    (h : PE X e (fun σ H Q => tOf t σ H fun x H1 => ∃ d, Has H1 x d ∧ g d fun z => ∀ v H3, Same H1 H3 → Has H3 v z → Q v H3)) : PD X e (d1 t g) := by
  refine ⟨PE.imp h fun σ H Q q => ?_, fun σ H R R' k q => ha.mono σ H _ _ (fun d z => hg d _ _ k z) q, fun σ H H' R k q => ha.stab σ H H' _ k q⟩
  exact ha.mono σ H _ _ (fun d z x H1 s1 hx => ⟨d, hx, hg d _ _ (fun c z v H3 s3 hv => z v H3 (s1.trans s3) hv) z⟩) q
theorem has_int {H : Hp} {v : V} {i : Int} (h : Has H v (.int i)) : v = .int i := by unfold Has at h; exact h
theorem has_str' {H : Hp} {v : V} {x : Str} (h : Has H v (.str x)) : v = .str x := by unfold Has at h; exact h
theorem int_has {H : Hp} {i : Int} : Has H (.int i) (.int i) := by unfold Has; rfl
theorem str_has {H : Hp} {x : Str} : Has H (.str x) (.str x) := by unfold Has; rfl
theorem has_seq {H : Hp} {v : V} {d : Dat} {ds : List Dat} (hv : Has H v d) (e : d = .lst ds ∨ d = .tup ds) : ∃ a xs, v = .ref a ∧ (H a = some (.lst xs) ∨ H a = some (.tup xs)) ∧ HasL H xs ds ∧ (d = .lst ds → H a = some (.lst xs)) ∧ (d = .tup ds → H a = some (.tup xs)) := by
  rcases e with rfl | rfl
  · unfold Has at hv
    obtain ⟨a, xs, h1, h2, h3⟩ := hv
    exact ⟨a, xs, h1, .inl h2, h3, fun _ => h2, by intro z; cases z⟩
  · unfold Has at hv
    obtain ⟨a, xs, h1, h2, h3⟩ := hv
    exact ⟨a, xs, h1, .inr h2, h3, (by intro z; cases z), fun _ => h2⟩
def gI (c : Int → Int → Prop) (f : Int → Int → Int) : Dat → Dat → (Dat → Prop) → Prop := fun d e R => ∃ i j, d = .int i ∧ e = .int j ∧ c i j ∧ R (.int (f i j))
theorem gI_mono {c : Int → Int → Prop} {f : Int → Int → Int} : ∀ d e (R R' : Dat → Prop), (∀ x, R x → R' x) → gI c f d e R → gI c f d e R' := fun d e R R' k ⟨i, j, h1, h2, h3, q⟩ => ⟨i, j, h1, h2, h3, k _ q⟩
theorem d_mod (ha : PD X a t) (hb : PD X b u) : PD X (.BinOp a .Mod b pos) (d2 t u (gI (fun _ j => 0 < j) (· % ·))) := by
  refine d_two gI_mono ha hb (PE.imp (pe_op op_mod ha.pe hb.pe) fun σ H Q q => ha.mono σ H _ _ (fun d z x H1 s1 hx => hb.mono σ H1 _ _ (fun e z' y H2 s2 hy => ?_) (z x H1 s1 hx)) q)
  obtain ⟨d', e', h1, h2, i, j, rfl, rfl, c, r⟩ := z' y H2 s2 hy
  cases has_int h1
  cases has_int h2
  exact ⟨i, j, rfl, rfl, c, r _ _ (Same.refl _) int_has⟩
theorem d_div (ha : PD X a t) (hb : PD X b u) : PD X (.BinOp a .FloorDiv b pos) (d2 t u (gI CDiv (· / ·))) := by
  refine d_two gI_mono ha hb (PE.imp (pe_op op_fdiv ha.pe hb.pe) fun σ H Q q => ha.mono σ H _ _ (fun d z x H1 s1 hx => hb.mono σ H1 _ _ (fun e z' y H2 s2 hy => ?_) (z x H1 s1 hx)) q)
  obtain ⟨d', e', h1, h2, i, j, rfl, rfl, c, r⟩ := z' y H2 s2 hy
  cases has_int h1
  cases has_int h2
  exact ⟨i, j, rfl, rfl, c, r _ _ (Same.refl _) int_has⟩
theorem d_add (ha : PD X a t) (hb : PD X b u) : PD X (.BinOp a .Add b pos) (d2 t u (gI (fun _ _ => True) (· + ·))) := by
  refine d_two gI_mono ha hb (PE.imp (pe_op op_add ha.pe hb.pe) fun σ H Q q => ha.mono σ H _ _ (fun d z x H1 s1 hx => hb.mono σ H1 _ _ (fun e z' y H2 s2 hy => ?_) (z x H1 s1 hx)) q)
  obtain ⟨d', e', h1, h2, i, j, rfl, rfl, c, r⟩ := z' y H2 s2 hy
  cases has_int h1
  cases has_int h2
  exact ⟨i, j, rfl, rfl, r _ _ (Same.refl _) int_has⟩
def gCat : Dat → Dat → (Dat → Prop) → Prop := fun d e R => ∃ ds es, d = .lst ds ∧ e = .lst es ∧ ds.length + es.length ≤ 1000 ∧ R (.lst (ds ++ es))
theorem d_cat (ha : PD X a t) (hb : PD X b u) : PD X (.BinOp a .Add b pos) (d2 t u gCat) := by
  refine d_two (fun d e R R' k ⟨ds, es, h1, h2, h3, q⟩ => ⟨ds, es, h1, h2, h3, k _ q⟩) ha hb (PE.imp (pe_op op_cat ha.pe hb.pe) fun σ H Q q => ha.mono σ H _ _ (fun d z x H1 s1 hx => hb.mono σ H1 _ _ (fun e z' y H2 s2 hy => ?_) (z x H1 s1 hx)) q)
  obtain ⟨d', e', h1, h2, ds, es, rfl, rfl, c, r⟩ := z' y H2 s2 hy
  unfold Has at h1 h2
  obtain ⟨l, xs, rfl, e1, k1⟩ := h1
  obtain ⟨m, ys, rfl, e2, k2⟩ := h2
  refine ⟨l, m, xs, ys, rfl, rfl, e1, e2, ?_, fun p hp => ?_⟩
  · rw [k1.length, k2.length]; exact Nat.le_of_lt (small1000 c)
  · have s3 := same_upd hp (.lst (xs ++ ys))
    exact r _ _ s3 (has_lst' upd_same ((HasL.append k1 k2).mono s3))
def gCatT : Dat → Dat → (Dat → Prop) → Prop := fun d e R => ∃ ds es, d = .tup ds ∧ e = .tup es ∧ ds ≠ [] ∧ ds.length + es.length ≤ 1000 ∧ R (.tup (ds ++ es))
theorem d_catT (ha : PD X a t) (hb : PD X b u) : PD X (.BinOp a .Add b pos) (d2 t u gCatT) := by
  refine d_two (fun d e R R' k ⟨ds, es, h1, h2, h3, h4, q⟩ => ⟨ds, es, h1, h2, h3, h4, k _ q⟩) ha hb (PE.imp (pe_op op_catT ha.pe hb.pe) fun σ H Q q => ha.mono σ H _ _ (fun d z x H1 s1 hx => hb.mono σ H1 _ _ (fun e z' y H2 s2 hy => ?_) (z x H1 s1 hx)) q)
  obtain ⟨d', e', h1, h2, ds, es, rfl, rfl, hne, c, r⟩ := z' y H2 s2 hy
  unfold Has at h1 h2
  obtain ⟨l, xs, rfl, e1, k1⟩ := h1
  obtain ⟨m, ys, rfl, e2, k2⟩ := h2
  have l1 := k1.length
  have l2 := k2.length
  refine ⟨l, m, xs, ys, rfl, rfl, SqT.of e1, SqT.of e2, fun z => hne (List.length_eq_zero_iff.mp (by rw [← l1, z]; rfl)), by rw [l1, l2]; exact Nat.le_of_lt (small1000 c), fun z => ?_, fun _ p hp => ?_⟩
  · subst z
    have : es = [] := List.length_eq_zero_iff.mp l2.symm
    subst this
    rw [List.append_nil] at r
    exact r _ _ (Same.refl _) (has_tup e1 k1)
  · have s3 := same_upd hp (.tup (xs ++ ys))
    exact r _ _ s3 (has_tup upd_same ((HasL.append k1 k2).mono s3))
def gIx : Dat → Dat → (Dat → Prop) → Prop := fun d e R => ∃ ds i x, (d = .lst ds ∨ d = .tup ds) ∧ e = .int i ∧ atI ds i = some x ∧ R x
theorem hasL_at {H : Hp} {xs : List V} {ds : List Dat} {i : Int} {d : Dat} (h : HasL H xs ds) (e : atI ds i = some d) : ∃ v, atI xs i = some v ∧ Has H v d := by
  unfold atI at e ⊢
  rw [h.length]
  cases q : ixN ds.length i with
  | none => rw [q] at e; cases e
  | some j =>
    rw [q] at e
    have e' : ds[j]? = some d := e
    have hj := (List.getElem?_eq_some_iff.mp e').1
    have hx : xs[j]? = some (xs[j]'(by rw [h.length]; exact hj)) := List.getElem?_eq_getElem _
    obtain ⟨d2, h1, h2⟩ := h.get hx
    rw [e'] at h1
    cases h1
    exact ⟨_, hx, h2⟩
theorem d_ix (ha : PD X a t) (hb : PD X b u) (hs : NoSl b) : PD X (.Subscript a b pos) (d2 t u gIx) := by
  refine d_two (fun d e R R' k ⟨ds, i, x, h1, h2, h3, q⟩ => ⟨ds, i, x, h1, h2, h3, k _ q⟩) ha hb (PE.imp (pe_ix (ix_list.or ix_tup) ha.pe hb.pe hs) fun σ H Q q => ha.mono σ H _ _ (fun d z x H1 s1 hx => hb.mono σ H1 _ _ (fun e z' y H2 s2 hy => ?_) (z x H1 s1 hx)) q)
  obtain ⟨d', e', h1, h2, ds, i, x', hd, rfl, ea, r⟩ := z' y H2 s2 hy
  cases has_int h2
  obtain ⟨p, xs, rfl, hp, hl, k1, k2⟩ := has_seq h1 hd
  obtain ⟨v, ev, hv⟩ := hasL_at hl ea
  rcases hp with hp | hp
  · exact .inl ⟨p, xs, i, v, rfl, rfl, SqL.of hp, ev, r _ _ (Same.refl _) hv⟩
  · exact .inr ⟨p, xs, i, v, rfl, rfl, SqT.of hp, ev, r _ _ (Same.refl _) hv⟩
def gLen : Dat → (Dat → Prop) → Prop := fun d R => ∃ ds, (d = .lst ds ∨ d = .tup ds) ∧ R (.int ds.length)
theorem d_lenP {np cp : Pos} (hm : X.mg "len" = none) (ha : PD X a t) (hg : Gl X "len" := by rfl) (hs : starEach [a] X.env = [(false, eval a X.env)] := by rfl) : PD X (.Call (.Name "len" np) [a] [] cp) (d1 t gLen) := by
  refine d_one (fun d R R' k ⟨ds, h1, q⟩ => ⟨ds, h1, k _ q⟩) ha (PE.imp (pe_callB call_len_seq hg hm PySem.boot_len (pa_cons ha.pe pa_nil hs) (he := hs)) fun σ H Q q => ha.mono σ H _ _ (fun d z x H1 s1 hx => ?_) q)
  obtain ⟨d', h1, ds, hd, r⟩ := z x H1 s1 hx
  obtain ⟨p, xs, rfl, hp, hl, _, _⟩ := has_seq h1 hd
  rw [← hl.length] at r
  refine ⟨p, xs, rfl, ?_, r _ _ (Same.refl _) int_has⟩
  rcases hp with hp | hp
  · exact .inl (SqL.of hp)
  · exact .inr (SqT.of hp)
def gTupOf : Dat → (Dat → Prop) → Prop := fun d R => ∃ ds, d = .lst ds ∧ R (.tup ds)
theorem d_tupOf {np cp : Pos} (hm : X.mg "tuple" = none) (ha : PD X a t) (hg : Gl X "tuple" := by rfl) (hs : starEach [a] X.env = [(false, eval a X.env)] := by rfl) : PD X (.Call (.Name "tuple" np) [a] [] cp) (d1 t gTupOf) := by
  refine d_one (fun d R R' k ⟨ds, h1, q⟩ => ⟨ds, h1, k _ q⟩) ha (PE.imp (pe_callTy call_tuple_of hg hm boot_tuple' (pa_cons ha.pe pa_nil hs) (he := hs)) fun σ H Q q => ha.mono σ H _ _ (fun d z x H1 s1 hx => ?_) q)
  obtain ⟨d', h1, ds, rfl, r⟩ := z x H1 s1 hx
  unfold Has at h1
  obtain ⟨p, xs, rfl, hp, hl⟩ := h1
  refine ⟨p, xs, rfl, .inl ⟨SqL.of hp, fun l hl' => ?_⟩⟩
  have s3 := same_upd hl' (.tup xs)
  exact r _ _ s3 (has_tup upd_same (hl.mono s3))
theorem d_neg (ha : PD X a t) : PD X (.UnaryOp .USub a pos) (d1 t fun d R => ∃ i, d = .int i ∧ R (.int (-i))) := by
  refine d_one (fun d R R' k ⟨i, h1, q⟩ => ⟨i, h1, k _ q⟩) ha (PE.imp (pe_un un_neg ha.pe) fun σ H Q q => ha.mono σ H _ _ (fun d z x H1 s1 hx => ?_) q)
  obtain ⟨d', h1, i, rfl, r⟩ := z x H1 s1 hx
  cases has_int h1
  exact ⟨i, rfl, r _ _ (Same.refl _) int_has⟩
end
end L2
namespace L2
open PySem PySem.Spec PyProof.Rows
section
variable {prog : Program} {w : World} {A : Around} {E : Value → Shared → Prop} {s : Shared}
theorem getItem_whole {t sl : Addr} {items : Array Value} {vl vu : Value} {lo hi : Option Int} {Q : Value → Shared → Prop} (ht : IsTup s.heap t items) (hs : s.heap.IsSliceOf sl vl vu .none) (pl : IsPart vl lo) (pu : IsPart vu hi)
    (hw : HT.sIx items.size 0 lo = 0 ∧ HT.sIx items.size items.size hi = items.size) (h : Q (.ref t) s) : wpAny (model prog w) A (getItem (.ref t) (.ref sl)) Q E s := by
  obtain ⟨os, hos, hcs, hds⟩ := id hs
  have hTs : s.TypeIs (.ref sl) "slice" := ⟨os, hos, hcs⟩
  unfold getItem
  try with_reducible refine wpAny_holding ?_
  first | refine wpAny_bind (wpAny_pure ?_) | skip
  refine wpAny_bind (wpAny_sequenceKey ht.typeIs (by decide) ?_)
  refine wpAny_bind (wpAny_callSpecial?_slot (name := Str.ofString "__getitem__") ht.typeIs PyProof.Rows.slot_tuple_getitem (wpAny_call_entry PyProof.Rows.slot_tuple_getitem ht.typeIs entry_tuple_getitem ?_ (args_tuple_getitem _ _)))
  show wpAny _ _ (Builtin.Tuple.tupleItemsOf (.ref t) >>= _) _ _ s
  refine wpAny_bind (tupleItemsOf_ ht (wpAny_bind (wpAny_typeOf hTs ?_)))
  rw [if_pos (by decide)]
  refine wpAny_bind (HT.sliceApplied_gen hs pl pu ?_)
  have yes : (((HT.sIx items.size 0 lo : Nat) : Int) == 0 && (1 : Int) == 1 && (HT.sIx items.size items.size hi - HT.sIx items.size 0 lo) == items.size) = true := by
    rw [hw.1, hw.2]; simp
  show wpAny _ _ (if (((HT.sIx items.size 0 lo : Nat) : Int) == 0 && (1 : Int) == 1 && (HT.sIx items.size items.size hi - HT.sIx items.size 0 lo) == items.size) = true then _ else _) _ _ s
  rw [if_pos yes]
  have hT : s.TypeIs (.ref t) "tuple" := ht.typeIs
  unfold Builtin.Tuple.tupleIsExact
  first
  | exact wpAny_bind (wpAny_bind (wpAny_typeOf hT (wpAny_pure (wpAny_bind (wpAny_rule (wpAny_pure ⟨_, rfl, wpAny_pure h⟩))))))
  | exact wpAny_bind (wpAny_bind (wpAny_typeOf hT (wpAny_pure (wpAny_bind (wpAny_rule (wpAny_bind (wpAny_pure ⟨_, rfl, wpAny_pure h⟩)))))))
end
section
variable {X : Cx} {e e' a b : Expr} {es : List Expr} {t t' u : TD} {ts : List TD} {pos p2 p : Pos}
def rSlA : V → Option Int → Option Int → Hp → VK → Prop := fun x lo hi H Q => ∃ a xs, x = .ref a ∧ H a = some (.tup xs) ∧
  (HT.sIx xs.length 0 lo = 0 ∧ HT.sIx xs.length xs.length hi = xs.length → Q (.ref a) H) ∧ ∀ p, H p = none → Q (.ref p) (upd H p (.tup (cutV xs lo hi)))
theorem sl_tupA : SlR X rSlA := by
  intro pins s σ H x v vl vu lo hi sl Q I rx hs pl pu h
  obtain ⟨a, xs, rfl, hx, q1, q2⟩ := h
  by_cases hw : HT.sIx xs.length 0 lo = 0 ∧ HT.sIx xs.length xs.length hi = xs.length
  · cases rx
    obtain ⟨its, r, ht, hz⟩ := I.tuple (SqT.of hx)
    have hlen : its.toArray.size = xs.length := by rw [List.size_toArray]; exact r.length.symm
    exact ⟨"tuple", _, PyProof.Rows.slot_tuple_getitem.lookup, ht.typeIs, getItem_whole ht hs pl pu (by rw [hlen]; exact hw) ⟨.ref a, H, I, rfl, q1 hw⟩⟩
  · exact sl_tup pins s σ H _ v vl vu lo hi sl Q I rx hs pl pu ⟨a, xs, rfl, SqT.of hx, hw, q2⟩
def cutD (ds : List Dat) (lo hi : Option Int) : List Dat := (ds.drop (HT.sIx ds.length 0 lo)).take (HT.sIx ds.length ds.length hi - HT.sIx ds.length 0 lo)
theorem hasL_drop {H : Hp} : ∀ {ds : List Dat} {xs : List V} (n : Nat), HasL H xs ds → HasL H (xs.drop n) (ds.drop n)
  | _, _, 0, h => h
  | [], [], n + 1, h => h
  | [], _ :: _, _ + 1, h => by unfold HasL at h; exact h.elim
  | _ :: _, [], _ + 1, h => by unfold HasL at h; exact h.elim
  | d :: ds, x :: xs, n + 1, h => by
    unfold HasL at h
    rw [List.drop_succ_cons, List.drop_succ_cons]
    exact hasL_drop n h.2
theorem hasL_take {H : Hp} : ∀ {ds : List Dat} {xs : List V} (n : Nat), HasL H xs ds → HasL H (xs.take n) (ds.take n)
  | _, _, 0, _ => by rw [List.take_zero, List.take_zero]; exact HasL.nil
  | [], [], n + 1, h => h
  | [], _ :: _, _ + 1, h => by unfold HasL at h; exact h.elim
  | _ :: _, [], _ + 1, h => by unfold HasL at h; exact h.elim
  | d :: ds, x :: xs, n + 1, h => by
    unfold HasL at h
    rw [List.take_succ_cons, List.take_succ_cons]
    exact HasL.cons h.1 (hasL_take n h.2)
theorem hasL_cut {H : Hp} {ds : List Dat} {xs : List V} {lo hi : Option Int} (h : HasL H xs ds) : HasL H (cutV xs lo hi) (cutD ds lo hi) := by
  unfold cutV cutD
  rw [h.length]
  exact hasL_take _ (hasL_drop _ h)
def gCut (f : Int → Option Int × Option Int) : Dat → Dat → (Dat → Prop) → Prop := fun d e R => ∃ ds i, e = .int i ∧ (d = .lst ds ∧ R (.lst (cutD ds (f i).1 (f i).2)) ∨ d = .tup ds ∧ R (.tup (cutD ds (f i).1 (f i).2)))
theorem gCut_mono {f : Int → Option Int × Option Int} : ∀ d e (R R' : Dat → Prop), (∀ x, R x → R' x) → gCut f d e R → gCut f d e R' := fun d e R R' k ⟨ds, i, h1, h2⟩ => ⟨ds, i, h1, h2.imp (fun z => ⟨z.1, k _ z.2⟩) fun z => ⟨z.1, k _ z.2⟩⟩
theorem cut_fin {f : Int → Option Int × Option Int} {H : Hp} {x y : V} {d d' : Dat} {Q : VK} {K : PySem.W.Frag} (h1 : Has H x d) (h2 : Has H y d') (g : gCut f d d' fun z => ∀ v H3, Same H H3 → Has H3 v z → Q v H3) :
    ∃ i, y = .int i ∧ (rSlL K x (f i).1 (f i).2 H Q ∨ rSlA x (f i).1 (f i).2 H Q) := by
  obtain ⟨ds, i, rfl, g⟩ := g
  cases has_int h2
  refine ⟨i, rfl, ?_⟩
  rcases g with ⟨rfl, r⟩ | ⟨rfl, r⟩
  · unfold Has at h1
    obtain ⟨l, xs, rfl, e1, k1⟩ := h1
    refine .inl ⟨l, xs, rfl, SqL.of e1, fun p hp => ?_⟩
    have s3 := same_upd hp (.lst (cutV xs (f i).1 (f i).2))
    exact r _ _ s3 (has_lst' upd_same ((hasL_cut k1).mono s3))
  · unfold Has at h1
    obtain ⟨l, xs, rfl, e1, k1⟩ := h1
    refine .inr ⟨l, xs, rfl, e1, fun hw => ?_, fun p hp => ?_⟩
    · have e : cutD ds (f i).1 (f i).2 = ds := by
        unfold cutD
        rw [← k1.length, hw.1, hw.2, List.drop_zero, Nat.sub_zero, List.take_of_length_le (by rw [k1.length]; exact Nat.le_refl _)]
      rw [e] at r
      exact r _ _ (Same.refl _) (has_tup e1 k1)
    · have s3 := same_upd hp (.tup (cutV xs (f i).1 (f i).2))
      exact r _ _ s3 (has_tup upd_same ((hasL_cut k1).mono s3))
theorem d_to (ha : PD X a t) (hb : PD X b u) : PD X (.Subscript a (.Slice none (some b) none p2) pos) (d2 t u (gCut fun i => (none, some i))) := by
  refine d_two gCut_mono ha hb (PE.imp (pe_slice (sl_list.or sl_tupA) ha.pe po_none (po_some hb.pe)) fun σ H Q q => ha.mono σ H _ _ (fun d z x H1 s1 hx => hb.mono σ H1 _ _ (fun e z' y H2 s2 hy => ?_) (z x H1 s1 hx)) q)
  obtain ⟨d', e', h1, h2, g⟩ := z' y H2 s2 hy
  exact cut_fin h1 h2 g
theorem d_from (ha : PD X a t) (hb : PD X b u) : PD X (.Subscript a (.Slice (some b) none none p2) pos) (d2 t u (gCut fun i => (some i, none))) := by
  refine d_two gCut_mono ha hb (PE.imp (pe_slice (sl_list.or sl_tupA) ha.pe (po_some hb.pe) po_none) fun σ H Q q => ha.mono σ H _ _ (fun d z x H1 s1 hx => hb.mono σ H1 _ _ (fun e z' y H2 s2 hy => ?_) (z x H1 s1 hx)) q)
  obtain ⟨d', e', h1, h2, g⟩ := z' y H2 s2 hy
  exact cut_fin h1 h2 g
end
def GS.std (g : GS) : Prop := (∃ ts, g = .tg "tags" ts ∧ 1 ≤ ts.length ∧ ts.length ≤ 4 ∧ ∀ x ∈ ts, Tx x) ∨ ∃ a b, g = .pr "pair" a b
structure GB (gs : List (Str × GS)) : Prop where
  n0 : 0 < gs.length
  n6 : gs.length ≤ 6
  nm : ∀ k ∈ gs, Asc k.1 ∧ 1 ≤ k.1.length ∧ k.1.length ≤ 8
  st : ∀ k ∈ gs, k.2.std
theorem GB.at {gs : List (Str × GS)} (b : GB gs) {i : Int} (h1 : -(gs.length : Int) ≤ i) (h2 : i < gs.length) : ∃ k ∈ gs, atI (gs.map gD) i = some (gD k) ∧ atI (gs.map fun k => Dat.str k.1) i = some (.str k.1) := by
  obtain ⟨k, hk, e⟩ := atI_in (xs := gs) h1 h2
  refine ⟨k, hk, ?_, ?_⟩ <;>
  · unfold atI at e ⊢
    rw [List.length_map]
    cases q : ixN gs.length i with
    | none => rw [q] at e; cases e
    | some j =>
      rw [q] at e
      have e' : gs[j]? = some k := e
      show (gs.map _)[j]? = _
      rw [List.getElem?_map, e']; rfl
theorem GS.st (g : GS) : g.dat.st = true := by
  cases g with
  | tg w ts => unfold GS.dat Dat.st Dat.sts Dat.sts Dat.sts Dat.st; rw [strs_sts]; rfl
  | pr w a b => unfold GS.dat Dat.st Dat.sts Dat.sts Dat.sts Dat.sts Dat.st; rfl
theorem gss_sts : ∀ qs : List GS, Dat.sts (qs.map GS.dat) = true
  | [] => by unfold Dat.sts; rfl
  | q :: qs => by rw [List.map_cons]; unfold Dat.sts; rw [GS.st q, gss_sts qs]; rfl
theorem Same.putN {H0 H : Hp} {p : Addr} {o : HO} (s : Same H0 H) (h : H0 p = none) : Same H0 (upd H p o) := fun b u e => by
  rw [upd_ne (ne_of_none e h)]; exact s b u e
def Sm (H0 H : Hp) (l : Addr) (n : Nat) : Prop := Same H0 H ∧ H0 l = none ∧ ∃ (zs : List V) (qs : List GS), H l = some (.lst zs) ∧ HasL H zs (qs.map GS.dat) ∧ (∀ q ∈ qs, GS.tx q) ∧ qs.length = n
theorem Sm.app {H0 H H' : Hp} {l : Addr} {n : Nat} {xs : List V} {v : V} {q : GS} (h : Sm H0 H l n) (hl : H l = some (.lst xs)) (s : Same H H') (hv : Has H' v q.dat) (tx : q.tx) : Sm H0 (upd H' l (.lst (xs ++ [v]))) l (n + 1) := by
  obtain ⟨s0, f, zs, qs, h1, h2, h3, h4⟩ := h
  rw [h1] at hl
  cases hl
  have tk : TK H' (upd H' l (.lst (xs ++ [v]))) := tk_upd (s _ _ h1) fun ys z => nomatch z
  refine ⟨(s0.trans s).putN f, f, xs ++ [v], qs ++ [q], upd_same, ?_, fun z hz => ?_, by rw [List.length_append, h4]; rfl⟩
  · rw [List.map_append]
    exact HasL.append (hasL_tk tk _ (gss_sts qs) (h2.mono s)) (HasL.one (has_tk tk _ (GS.st q) hv))
  · rcases List.mem_append.mp hz with h | h
    · exact h3 z h
    · rw [List.mem_singleton.mp h]; exact tx
section
variable {X : Cx} {o a : Expr} {t : TD} {apos cpos pos : Pos}
def tApp (i : Nat) (t : TD) : TS := fun D σ H => ∃ l xs, σ[i]? = some (some (.ref l)) ∧ H l = some (.lst xs) ∧ xs.length < 1000 ∧ t σ H fun d => ∀ v H', Same H H' → Has H' v d → D.nx σ (upd H' l (.lst (xs ++ [v])))
theorem ps_app {i : Nat} (ho : PE X o (tVar i)) (ha : PD X a t) (hbase : attributeBase o "append" X.env (eval o X.env) = eval o X.env := by rfl)
    (hfew : ((backTo cpos (starEach [a] X.env)).all (fun x => !x.1) && (backToKw cpos (keywordEach [] X.env)).all (fun x => x.1.isSome)
      && decide (([a] : List Expr).length + ([] : List Keyword).length + (if ([] : List Keyword).isEmpty then 0 else 1) < 30)) = true := by rfl)
    (hline : (apos.endLine == cpos.line) = true := by rfl) (hs : starEach [a] X.env = (false, eval a X.env) :: starEach [] X.env := by rfl) (hsw : swapsWith (.Call (.Attribute o "append" apos) [a] [] cpos) none pos.line X.env = pure false := by rfl) :
    PS X (.Expr (.Call (.Attribute o "append" apos) [a] [] cpos) pos) (tApp i t) := by
  intro pins s σ H D I h
  obtain ⟨l, xs, e1, e2, e3, q⟩ := h
  refine ps_expr (pe_bm PySem.F.plainAttrs_list PySem.F.slot_list_append PySem.F.type_list_append mt_append ho (pa_cons ha.pe pa_nil hs) hbase hfew hline hs rfl) hsw pins s σ H D I ?_
  refine ⟨_, e1, .inl ⟨rfl, _, SqL.of e2⟩, ?_⟩
  exact ha.mono σ H _ _ (fun d z v H' s' hv => ⟨l, xs, v, rfl, rfl, s' _ _ e2, small1000 (by omega), z v H' s' hv⟩) q
end
theorem names_comp {K : PySem.W.Frag} {H : Hp} {kl : Addr} {xs : List V} {gs : List (Str × GS)} {Q : VK} {z : Option V} (hk : H kl = some (.lst xs)) (hx : HasL H xs (gs.map gD)) (l20 : gs.length ≤ 20)
    (q : ∀ p H', Same H H' → H p = none → H' p = some (.lst (gs.map fun k => V.str k.1)) → Q (.ref p) H') : CompW (Itl K kl) (gName 0) (tOp (rIxT K) (tVar 0) (tC (.int 0))) [z] Q H := by
  have lx := hx.length
  rw [List.length_map] at lx
  refine comp_form xs.length (small1000 (by omega)) (fun i vs H' => Same H H' ∧ i ≤ gs.length ∧ vs = (gs.take i).map fun k => V.str k.1) ⟨Same.refl _, Nat.zero_le _, rfl⟩ (fun i vs H' z => by rw [z.2.2, List.length_map, List.length_take]; have := z.2.1; omega) ?_ ?_ ?_ ?_
  · intro i vs H' hi z
    exact ⟨xs, xs[i], SqL.of (z.1 _ _ hk), by simp [hi]⟩
  · intro vs H' z
    exact ⟨xs, SqL.of (z.1 _ _ hk), Nat.le_refl _⟩
  · intro i vs H' x H'' R hi z yl hR
    obtain ⟨rfl, yy⟩ := yl
    obtain ⟨dx, hdx, hhx⟩ := hx.get (yy xs (SqL.of (z.1 _ _ hk)))
    rw [List.getElem?_map] at hdx
    cases hg : gs[i]? with
    | none => rw [hg] at hdx; cases hdx
    | some k =>
      rw [hg] at hdx
      cases hdx
      obtain ⟨y, g⟩ := k
      obtain ⟨a, v, rfl, ha, _⟩ := has_g (hhx.mono z.1)
      refine ⟨_, rfl, a, _, 0, _, rfl, rfl, SqT.of ha, rfl, hR _ _ ⟨z.1, (List.getElem?_eq_some_iff.mp hg).1, ?_⟩⟩
      rw [z.2.2, take_snoc hg, List.map_append]; rfl
  · intro vs H' p z hp
    have e := z.2.2
    rw [List.take_of_length_le (by omega)] at e
    subst e
    exact q p _ (z.1.trans (same_upd hp _)) (z.1.free hp) upd_same
theorem d_call {X : Cx} {CX : CXT} {k : Nat} {f : Addr} {fd : FuncData} {ps : List Str} {sp : Sp} {x : Str} {p pos : Pos} {e : Expr} {es : List Expr} {ts : List TD} {gg : List Dat → (Dat → Prop) → Prop} {E : XK} (F : FnOk X.prog X.w X.K X.mg X.base CX k f fd ps sp) (hr : Room k X.A) (hg : Gl X x) (hm : X.mg x = some (.ref f)) (hk : PySem.W.keepIn X.K (.ref f) = true) (hb : Binds X.K fd ps []) (hx : Passes CX X E)
    (ha : PDs X (e :: es) ts) (hgm : ∀ ds (R R' : Dat → Prop), (∀ d, R d → R' d) → gg ds R → gg ds R') (hsp : ∀ vs H Q ds, HasL H vs ds → (gg ds fun d => ∀ v H', Same H H' → Has H' v d → Q v H') → sp vs H Q E)
    (hdb : (x == ("__debug__" : Str)) = false := by decide) (he : starEach (e :: es) X.env = (false, eval e X.env) :: starEach es X.env := by rfl) (hpl : (backTo pos (starEach es X.env)).any (·.1) = false := by rfl) :
    PD X (.Call (.Name x p) (e :: es) [] pos) (fun σ H R => dAll ts σ H fun ds => gg ds R) := by
  refine ⟨PE.imp (pe_call F hr hg hm hk hb .nil hx ha.pa hdb he hpl) fun σ H Q q => ?_, fun σ H R R' k q => ha.mono σ H _ _ (fun ds z => hgm ds _ _ k z) q, fun σ H H' R k q => ha.stab σ H H' _ k q⟩
  refine ha.mono σ H _ _ (fun ds z vs H1 s1 hvs => ?_) q
  have := hsp vs H1 Q ds hvs (hgm ds _ _ (fun d z v H' s' hv => z v H' (s1.trans s') hv) z)
  show sp (vs ++ []) H1 Q E
  rw [List.append_nil]
  exact this
theorem names_has {H : Hp} : ∀ gs : List (Str × GS), HasL H (gs.map fun k => V.str k.1) (gs.map fun k => Dat.str k.1)
  | [] => HasL.nil
  | k :: gs => by rw [List.map_cons, List.map_cons]; exact HasL.cons str_has (names_has gs)
theorem cutD_tail (w : Dat) (r : List Dat) : cutD (w :: r) (some 1) none = r := by
  unfold cutD
  have e : HT.sIx (w :: r).length 0 (some 1) = 1 := by
    have := HT.sIx_nat (w :: r).length 0 1
    rw [show ((1 : Nat) : Int) = 1 from rfl] at this
    rw [this, List.length_cons]; omega
  rw [e, HT.sIx_none, List.drop_succ_cons, List.drop_zero, List.length_cons, Nat.add_sub_cancel, List.take_length]
def SD (ds : List Dat) (n : Nat) : Prop := ∃ ts : List Str, ds = ts.map Dat.str ∧ (∀ x ∈ ts, Tx x) ∧ ts.length ≤ n
theorem SD.cut {ds : List Dat} {n : Nat} (h : SD ds n) (lo hi : Option Int) : SD (cutD ds lo hi) n := by
  obtain ⟨ts, rfl, h1, h2⟩ := h
  refine ⟨(ts.drop (HT.sIx (ts.map Dat.str).length 0 lo)).take (HT.sIx (ts.map Dat.str).length (ts.map Dat.str).length hi - HT.sIx (ts.map Dat.str).length 0 lo), ?_, fun x hx => h1 x (List.mem_of_mem_drop (List.mem_of_mem_take hx)), ?_⟩
  · unfold cutD; rw [List.map_take, List.map_drop]
  · rw [List.length_take, List.length_drop]; omega
theorem SD.app {a b : List Dat} {n m : Nat} (h : SD a n) (k : SD b m) : SD (a ++ b) (n + m) := by
  obtain ⟨ts, rfl, h1, h2⟩ := h
  obtain ⟨us, rfl, k1, k2⟩ := k
  refine ⟨ts ++ us, by rw [List.map_append], fun x hx => (List.mem_append.mp hx).elim (h1 x) (k1 x), by rw [List.length_append]; omega⟩
theorem SD.one {x : Str} (h : Tx x) : SD [.str x] 1 := ⟨[x], rfl, fun y hy => by rw [List.mem_singleton.mp hy]; exact h, Nat.le_refl _⟩
theorem SD.len {a : List Dat} {n : Nat} (h : SD a n) : a.length ≤ n := by obtain ⟨ts, rfl, _, h2⟩ := h; rw [List.length_map]; exact h2
theorem SD.tags {a : List Dat} {n : Nat} (h : SD a n) (hn : n ≤ 10) (w : Str) : ∃ q : GS, q.dat = .tup [.str w, .tup a] ∧ q.tx := by
  obtain ⟨ts, rfl, h1, h2⟩ := h
  exact ⟨.tg w ts, rfl, by omega, h1⟩
theorem SD.at {a : List Dat} {n : Nat} (h : SD a n) {i : Int} (h1 : -(a.length : Int) ≤ i) (h2 : i < a.length) : ∃ x, atI a i = some (.str x) ∧ Tx x := by
  obtain ⟨ts, rfl, k1, k2⟩ := h
  obtain ⟨d, hd, e⟩ := atI_in h1 h2
  obtain ⟨x, hx, rfl⟩ := List.mem_map.mp hd
  exact ⟨x, e, k1 x hx⟩
def qqs : List Str := ["QA", "QB", "QC", "QD", "QE"]
theorem qqs_tx : ∀ x ∈ qqs, Tx x ∧ Asc x ∧ x.length = 2 := by
  have h : ∀ x ∈ qqs, x.length = 2 ∧ x.cps.toList.all (fun c => decide (c < 128)) = true := by decide +kernel
  intro x hx
  obtain ⟨h1, h2⟩ := h x hx
  exact ⟨⟨by omega, asc_of h2⟩, asc_of h2, h1⟩
theorem GS.std.tail {g : GS} (h : g.std) : ∃ (w : Dat) (rest : List Dat) (q : GS), g.dat = .tup (w :: rest) ∧ q.dat = .tup (.str "tag" :: rest) ∧ q.tx ∧ rest.length ≤ 2 := by
  rcases h with ⟨ts, rfl, h1, h4, ht⟩ | ⟨a, b, rfl⟩
  · exact ⟨_, _, .tg "tag" ts, rfl, rfl, ⟨by omega, ht⟩, by simp⟩
  · exact ⟨_, _, .pr "tag" a b, rfl, rfl, trivial, by simp⟩
end L2
namespace K4
open PySem L2
section
variable {P : Program} {w : World} {K : PySem.W.Frag} {mg : Str → Option Value} {base : Heap} {f g : Addr} {fd gd : FuncData}
def spOther : Sp := fun vs H Q _ => ∃ (kl : Addr) (xs : List V) (gs : List (Str × GS)) (at' nr : Int), vs = [.ref kl, .int at', .int nr] ∧ H kl = some (.lst xs) ∧ HasL H xs (gs.map gD) ∧ GB gs ∧ 0 ≤ at' ∧ at' < gs.length ∧
  ∀ v H' q, Same H H' → Has H' v (GS.dat q) → q.tx → Q v H'
theorem scOther : FnScope ["kinds", "at", "number", "names", "some", "tags", "k", "name", "shape"] ["kinds", "at", "number"] (defScope sOther) := ⟨rfl, rfl, rfl, by decide +kernel, rfl, by decide +kernel, by decide +kernel⟩
def gBad : List Dat → (Dat → Prop) → Prop := fun ds R => ∃ (x : Str) (k : Int), ds = [.str x, .int k] ∧ Asc x ∧ 1 ≤ x.length ∧ x.length ≤ 8 ∧ ∀ y, Tx y → R (.str y)
theorem gBad_mono : ∀ ds (R R' : Dat → Prop), (∀ d, R d → R' d) → gBad ds R → gBad ds R' := fun ds R R' k ⟨x, i, h1, h2, h3, h4, q⟩ => ⟨x, i, h1, h2, h3, h4, fun y hy => k _ (q y hy)⟩
theorem gBad_sp {E : XK} : ∀ vs H Q ds, HasL H vs ds → (gBad ds fun d => ∀ v H', Same H H' → Has H' v d → Q v H') → spBad vs H Q E := fun vs H Q ds h ⟨x, k, e, h2, h3, h4, q⟩ => by
  subst e
  match vs, h with
  | [], h => unfold HasL at h; exact h.elim
  | [_], h => unfold HasL HasL at h; exact h.2.elim
  | _ :: _ :: _ :: _, h => unfold HasL HasL HasL at h; exact h.2.2.elim
  | [a, b], h =>
    unfold HasL HasL at h
    cases has_str' h.1
    cases has_int h.2.1
    exact ⟨x, k, rfl, h2, h3, h4, fun y H' ty s' => q y ty _ _ s' str_has⟩
theorem ok_other {n : Nat} (B : Blt mg) (F : Fun K "_law_other_shape" "_law_other_shape" sOther f fd) (G : FnOk P w K mg base CX0 n g gd ["word", "way"] spBad) (bG : Binds K gd ["word", "way"] []) (kG : PySem.W.keepIn K (.ref g) = true) (mG : mg "_law_bad_word" = some (.ref g)) :
    FnOk P w K mg base CX0 (n + 1) f fd ["kinds", "at", "number"] spOther := by
  refine F.ok scOther (fun vs H Q E h => ?_) (fun cdv A outer s H vs Q E hr h => ?_)
  · obtain ⟨kl, xs, gs, at', nr, rfl, _⟩ := h
    rfl
  obtain ⟨kl, xs, gs, at', nr, rfl, hk, hx, gb, a0, a1, q⟩ := h
  refine ⟨_, pss_cons (ps_cmpr (i0 := 3) ["kind"] [] scOther.nd rfl (Or.inl rfl) (pi_list (pv 0)) (gk_name (i := 0) (by decide)) (fun cl C fp s H => pg_name (i := 0) nd_kind rfl (Or.inl rfl) (Or.inr rfl)) (fun cl C fp s H => pe_ix (r := rIxT K) ix_tup (pv 0) pe_int (fun _ _ => rfl)))
    (pss_cons (ps_set (i := 4) scOther.nd rfl (Or.inl rfl) (d_lst (ds_cons (d_catT (d_tup (ds_cons d_str ds_nil)) (d_from (d_ix (d_ix (d_of (pv 0)) (d_of (pv 1)) (fun _ _ => rfl)) d_int (fun _ _ => rfl)) d_int)) (ds_cons (d_tup (ds_cons d_str (ds_cons (d_tup ds_nil) ds_nil))) (ds_cons (d_tup (ds_cons d_str (ds_cons (d_tup (ds_cons d_str (ds_cons d_str (ds_cons d_str (ds_cons d_str (ds_cons d_str ds_nil)))))) ds_nil))) ds_nil)))).pe)
    (pss_cons (ps_set (i := 4) scOther.nd rfl (Or.inl rfl) (d_cat (d_of (pv 4)) (d_lst (ds_cons (d_tup (ds_cons d_str (ds_cons d_str (ds_cons d_str ds_nil)))) (ds_cons (d_tup (ds_cons d_str (ds_cons (d_tup (ds_cons d_str (ds_cons d_str ds_nil))) ds_nil))) (ds_cons (d_tup (ds_cons d_str (ds_cons (d_ix (d_of (pv 3)) (d_of (pv 1)) (fun _ _ => rfl)) (ds_cons (d_ix (d_of (pv 3)) d_int (fun _ _ => rfl)) ds_nil)))) ds_nil))))).pe)
    (pss_cons (ps_set (i := 4) scOther.nd rfl (Or.inl rfl) (pe_op op_cat (pv 4) (d_lst (ds_cons (d_tup (ds_cons d_str (ds_cons d_str (ds_cons (d_ix (d_of (pv 3)) d_int (fun _ _ => rfl)) ds_nil)))) (ds_cons (d_tup (ds_cons d_str (ds_cons (d_ix (d_of (pv 3)) d_int (fun _ _ => rfl)) (ds_cons (d_ix (d_of (pv 3)) (d_neg d_int) (fun _ _ => rfl)) ds_nil)))) (ds_cons (d_tup (ds_cons d_str (ds_cons (d_ix (d_of (pv 3)) d_int (fun _ _ => rfl)) (ds_cons (d_ix (d_of (pv 3)) d_int (fun _ _ => rfl)) ds_nil)))) ds_nil)))).pe))
    (pss_cons (ps_app (i := 4) (pv 4) (d_tup (ds_cons d_str (ds_cons (d_ix (d_of (pv 3)) (d_mod (d_div (d_of (pv 2)) d_int) (d_lenP B.len (d_of (pv 3)))) (fun _ _ => rfl)) (ds_cons (d_ix (d_of (pv 3)) (d_mod (d_div (d_of (pv 2)) d_int) (d_lenP B.len (d_of (pv 3)))) (fun _ _ => rfl)) ds_nil)))))
    (pss_cons (ps_set (i := 5) scOther.nd rfl (Or.inl rfl) (pe_slice sl_list (d_lst (ds_cons d_str (ds_cons d_str (ds_cons d_str (ds_cons d_str ds_nil))))).pe po_none (po_some (d_add d_int (d_mod (d_div (d_of (pv 2)) d_int) d_int)).pe)))
    (pss_cons (ps_set (i := 6) scOther.nd rfl (Or.inl rfl) (d_mod (d_div (d_of (pv 2)) d_int) (d_lenP B.len (d_of (pv 5)))).pe)
    (pss_cons (ps_app (i := 4) (pv 4) (d_tup (ds_cons d_str (ds_cons (d_tupOf B.tuple (d_cat (d_cat (d_to (d_of (pv 5)) (d_of (pv 6))) (d_lst (ds_cons (d_call G hr rfl mG kG bG pass0 (ds_cons (d_ix (d_of (pv 5)) (d_of (pv 6)) (fun _ _ => rfl)) (ds_cons (d_div (d_of (pv 2)) d_int) ds_nil)) gBad_mono gBad_sp) ds_nil))) (d_from (d_of (pv 5)) (d_add (d_of (pv 6)) d_int)))) ds_nil))))
    (pss_cons (ps_app (i := 4) (pv 4) (d_tup (ds_cons d_str (ds_cons (d_tupOf B.tuple (d_cat (d_to (d_of (pv 5)) d_int) (d_lst (ds_cons (d_ix (d_of (pv 5)) (d_div (d_of (pv 6)) d_int) (fun _ _ => rfl)) ds_nil)))) ds_nil))))
    (pss_cons (ps_for PassesOwn.never rfl (pi_list (pv 0)) (pg_tup (n := 2) rfl (pgs_cons (pg_name (i := 7) scOther.nd rfl (Or.inl rfl)) (pgs_cons (pg_name (i := 8) scOther.nd rfl (Or.inl rfl)) pgs_nil)))
      (pss_one (ps_if (pt_cmpR op_eq (pe_ix ix_tup (pv 8) pe_int (fun _ _ => rfl)) pe_str (nomark _))
        (pss_one (ps_app (i := 4) (pv 4) (d_tup (ds_cons d_str (ds_cons (d_tup (ds_cons d_str (ds_cons (d_ix (d_ix (d_of (pv 8)) d_int (fun _ _ => rfl)) (d_mod (d_div (d_of (pv 2)) d_int) (d_lenP B.len (d_ix (d_of (pv 8)) d_int (fun _ _ => rfl)))) (fun _ _ => rfl)) (ds_cons d_str ds_nil)))) ds_nil)))))
        (pss_one (ps_app (i := 4) (pv 4) (d_of (pv 8)))))))
    (pss_one (ps_ret (pe_ix ix_list (pv 4) (d_mod (d_of (pv 2)) (d_lenP B.len (d_of (pv 4)))).pe (fun _ _ => rfl))))))))))))), ?_⟩
  dsimp only [cxOf, Cx.nox, Cx.wish]
  have n20 : gs.length ≤ 20 := by have := gb.n6; omega
  refine ⟨_, rfl, kl, rfl, ⟨_, SqL.of hk⟩, ?_⟩
  refine names_comp hk hx n20 fun nl H1 s1 fnl hnl => ?_
  have hK1 : Has H1 (.ref kl) (.lst (gs.map gD)) := has_lst' (s1 _ _ hk) (hx.mono s1)
  have hN1 : Has H1 (.ref nl) (.lst (gs.map fun k => Dat.str k.1)) := has_lst' hnl (names_has gs)
  obtain ⟨⟨y, g⟩, mk, eK, eN⟩ := gb.at (i := at') (by omega) a1
  obtain ⟨k0, mk0, _, eN0⟩ := gb.at (i := 0) (by omega) (by have := gb.n0; omega)
  obtain ⟨kz, mkz, _, eNz⟩ := gb.at (i := -1) (by have := gb.n0; omega) (by omega)
  obtain ⟨w0, rest, q1, eg, eq1, tq1, lr⟩ := (gb.st _ mk).tail
  refine ⟨by decide, _, _, rfl, hK1, _, _, rfl, int_has, _, _, _, .inl rfl, rfl, eK, _, _, _, .inr rfl, rfl, rfl, w0 :: rest, 1, rfl, .inr ⟨eg, ?_⟩⟩
  dsimp only
  rw [cutD_tail]
  refine ⟨_, _, rfl, rfl, by simp, by simp; omega, by decide, by decide, by decide, by decide, by simp, fun v2 H2 s2 h2 => ?_⟩
  have hN2 := hN1.mono s2
  refine ⟨_, _, rfl, h2, by decide, by decide, by decide, _, _, rfl, hN2, _, _, rfl, int_has, _, _, _, .inl rfl, rfl, eN, _, _, rfl, hN2, _, _, _, .inl rfl, rfl, eN0, by simp, by simp, _, _, rfl, rfl, by simp, fun v3 H3 s3 h3 => ?_⟩
  have hN3 := hN2.mono s3
  refine ⟨_, rfl, _, _, rfl, hN3, _, _, _, .inl rfl, rfl, eN0, by simp, _, _, rfl, hN3, _, _, _, .inl rfl, rfl, eN0, _, _, rfl, hN3, _, rfl, _, _, _, .inl rfl, rfl, eNz, by simp, _, _, rfl, hN3, _, _, _, .inl rfl, rfl, eN0, _, _, rfl, hN3, _, _, _, .inl rfl, rfl, eN0, by simp, by simp, fun v4 H4 s4 h4 => ?_⟩
  have h3' := h3.mono s4
  have hN4 := hN3.mono s4
  unfold Has at h3' h4
  obtain ⟨l3, zs3, rfl, hl3, hz3⟩ := h3'
  obtain ⟨l4, zs4, rfl, hl4, hz4⟩ := h4
  have n3 := hz3.length
  have n4 := hz4.length
  refine ⟨l3, l4, zs3, zs4, rfl, rfl, hl3, hl4, Nat.le_of_lt (small1000 (by rw [n3, n4]; simp)), fun l fl => ?_⟩
  have sm : Sm H4 (upd H4 l (.lst (zs3 ++ zs4))) l 9 := by
    refine ⟨same_upd fl _, fl, _, [q1, .tg "tags" [], .tg "tags" ["QA", "QB", "QC", "QD", "QE"], .pr "tags" "QA" "QB", .tg "pair" ["QA", "QB"], .pr "pair" y k0.1, .pr "pair" "none" k0.1, .pr "pair" k0.1 kz.1, .pr "pair" k0.1 k0.1], upd_same, ?_, fun q hq => ?_, rfl⟩
    · have hz := (HasL.append hz3 hz4).mono (same_upd fl (.lst (zs3 ++ zs4)))
      rw [List.map_cons, eq1]
      exact hz
    · simp only [List.mem_cons, List.not_mem_nil, or_false] at hq
      rcases hq with rfl | rfl | rfl | rfl | rfl | rfl | rfl | rfl | rfl
      · exact tq1
      · exact ⟨by decide, fun x hx => by simp at hx⟩
      · exact ⟨by decide, fun x hx => (qqs_tx x hx).1⟩
      · trivial
      · exact ⟨by decide, fun x hx => (qqs_tx x (by simp [qqs] at hx ⊢; rcases hx with h | h <;> simp [h])).1⟩
      all_goals trivial
  have sB : Same H H4 := ((s1.trans s2).trans s3).trans s4
  generalize upd H4 l (.lst (zs3 ++ zs4)) = H5 at sm ⊢
  have lN : (gs.map fun k => Dat.str k.1).length = gs.length := List.length_map _
  have lN0 : 0 < (gs.map fun k => Dat.str k.1).length := by rw [lN]; exact gb.n0
  have idx : ∀ m : Int, ∃ y : Str, atI (gs.map fun k => Dat.str k.1) (m % ((gs.map fun k => Dat.str k.1).length : Int)) = some (.str y) := fun m => by
    obtain ⟨m1, m2⟩ := mod_in m lN0
    rw [lN] at m1 m2 ⊢
    obtain ⟨k, _, _, e⟩ := gb.at (i := m % (gs.length : Int)) (by omega) m2
    exact ⟨k.1, e⟩
  have lNi : (0 : Int) < ((gs.map fun k => Dat.str k.1).length : Int) := by omega
  obtain ⟨y5, e5⟩ := idx (nr / 16)
  obtain ⟨y6, e6⟩ := idx (nr / 96)
  have cd : ∀ {j : Int}, 0 < j → j < 1000 → CDiv nr j := fun h1 h2 => ⟨h1, by omega⟩
  -- names drawn
  obtain ⟨_, _, zs5, qs5, hl5, hz5, _, n5⟩ := id sm
  have hN5 := hN4.mono sm.1
  have m5 := hz5.length
  rw [List.length_map] at m5
  refine ⟨l, zs5, rfl, hl5, by omega, _, _, rfl, hN5, _, _, rfl, int_has, _, _, rfl, rfl, cd (by decide) (by decide), _, _, rfl, hN5, _, .inl rfl, _, _, rfl, rfl, lNi, _, _, _, .inl rfl, rfl, e5, _, _, rfl, hN5, _, _, rfl, int_has, _, _, rfl, rfl, cd (by decide) (by decide), _, _, rfl, hN5, _, .inl rfl, _, _, rfl, rfl, lNi, _, _, _, .inl rfl, rfl, e6, by simp, fun v6 H6 s6 h6 => ?_⟩
  have sm6 := sm.app (q := .pr "pair" y5 y6) hl5 s6 h6 trivial
  generalize upd H6 l (.lst (zs5 ++ [v6])) = H7 at sm6 ⊢
  -- tags
  refine ⟨by decide, fun va Ha sa ha => ?_⟩
  refine ⟨_, _, rfl, int_has, _, _, rfl, rfl, cd (by decide) (by decide), _, _, rfl, rfl, (by show (0 : Int) < 4; decide), _, _, rfl, rfl, trivial, fun vb Hb sb hb => ?_⟩
  cases has_int hb
  have ha' := ha.mono sb
  unfold Has at ha'
  obtain ⟨la, xa, rfl, hla, hxa⟩ := ha'
  have exa : xa = (["QA", "QB", "QC", "QD"] : List Str).map V.str := strs_is (ts := ["QA", "QB", "QC", "QD"]) hxa
  subst exa
  refine ⟨_, rfl, la, _, rfl, SqL.of hla, fun tl ftl => ?_⟩
  have sab := sa.trans sb
  obtain ⟨r0, r1⟩ := mod_in (nr / 16) (n := 4) (by decide)
  obtain ⟨r, er⟩ : ∃ r : Nat, nr / 16 % ((4 : Nat) : Int) = r := ⟨(nr / 16 % ((4 : Nat) : Int)).toNat, by omega⟩
  have r3 : r < 4 := by omega
  have ecut : cutV ((["QA", "QB", "QC", "QD"] : List Str).map V.str) none (some (1 + nr / 16 % 4)) = ((["QA", "QB", "QC", "QD"] : List Str).take (1 + r)).map V.str := by
    have e : (1 + nr / 16 % 4 : Int) = ((1 + r : Nat) : Int) := by
      have : nr / 16 % 4 = (r : Int) := er
      omega
    rw [e, cut_take _ _ (by simp; omega), List.map_take]
  rw [ecut]
  have tx5 : ∀ x ∈ (["QA", "QB", "QC", "QD"] : List Str).take (1 + r), Tx x ∧ Asc x ∧ x.length = 2 := fun x hx => qqs_tx x (by
    have := List.mem_of_mem_take hx
    simp [qqs] at this ⊢
    rcases this with h | h | h | h <;> simp [h])
  have lt5 : ((["QA", "QB", "QC", "QD"] : List Str).take (1 + r)).length = 1 + r := by rw [List.length_take]; simp; omega
  generalize (["QA", "QB", "QC", "QD"] : List Str).take (1 + r) = tg at tx5 lt5 ⊢
  obtain ⟨_, _, zs7, qs7, hl7, hz7, _, n7⟩ := id sm6
  have nel : tl ≠ l := fun e => by rw [e] at ftl; rw [sab _ _ hl7] at ftl; cases ftl
  have sT := sab.trans (same_upd ftl (.lst (tg.map V.str)))
  have htl : upd Hb tl (.lst (tg.map V.str)) tl = some (.lst (tg.map V.str)) := upd_same
  have sm8 : Sm H4 (upd Hb tl (.lst (tg.map V.str))) l 10 := ⟨sm6.1.trans sT, sm6.2.1, zs7, qs7, sT _ _ hl7, hz7.mono sT, by assumption, n7⟩
  generalize upd Hb tl (.lst (tg.map V.str)) = H8 at sm8 htl ⊢
  have hasT : ∀ {H' : Hp}, H' tl = some (.lst (tg.map V.str)) → Has H' (.ref tl) (.lst (tg.map Dat.str)) := fun h => has_lst' h (strs_has tg)
  have sd : SD (tg.map Dat.str) 4 := ⟨tg, rfl, fun x hx => (tx5 x hx).1, by omega⟩
  have lT : (tg.map Dat.str).length = 1 + r := by rw [List.length_map]; exact lt5
  have lTi : (0 : Int) < ((tg.map Dat.str).length : Int) := by omega
  -- k
  refine ⟨_, _, rfl, int_has, _, _, rfl, rfl, cd (by decide) (by decide), _, _, rfl, hasT htl, _, .inl rfl, _, _, rfl, rfl, lTi, fun vk H9 s9 hk9 => ?_⟩
  cases has_int hk9
  obtain ⟨kk0, kk1⟩ := mod_in (nr / 64) (n := (tg.map Dat.str).length) (by omega)
  dsimp only
  generalize nr / 64 % ((tg.map Dat.str).length : Int) = kk at kk0 kk1 ⊢
  have htl9 := s9 _ _ htl
  have sm9 : Sm H4 H9 l 10 := by
    obtain ⟨g1, g2, g3, g4, g5, g6, g7, g8⟩ := sm8
    exact ⟨g1.trans s9, g2, g3, g4, s9 _ _ g5, g6.mono s9, g7, g8⟩
  obtain ⟨x8, e8, t8⟩ := sd.at (i := kk) (by omega) kk1
  have ax8 : Asc x8 ∧ x8.length = 2 := by
    obtain ⟨d, hd, ed⟩ := atI_in (xs := tg.map Dat.str) (i := kk) (by omega) kk1
    rw [e8] at ed
    cases ed
    obtain ⟨x', hx', ex'⟩ := List.mem_map.mp hd
    cases ex'
    exact (tx5 _ hx').2
  obtain ⟨_, _, zs9, qs9, hl9, hz9, _, n9⟩ := id sm9
  have m9 := hz9.length
  rw [List.length_map] at m9
  refine ⟨l, zs9, rfl, hl9, by omega, _, _, rfl, hasT htl9, _, _, rfl, int_has, _, _, rfl, .inl ⟨rfl, ?_⟩⟩
  have c1 := sd.cut none (some kk)
  have c2 := sd.cut (some (kk + 1)) none
  refine ⟨_, _, rfl, hasT htl9, _, _, rfl, int_has, _, _, _, .inl rfl, rfl, e8, _, _, rfl, int_has, _, _, rfl, rfl, cd (by decide) (by decide), x8, _, rfl, ax8.1, by omega, by omega, fun yb tyb => ?_⟩
  have c3 := (c1.app (SD.one tyb)).app c2
  have L1 := c1.len
  have L2 := c2.len
  refine ⟨by simp, _, _, rfl, rfl, Nat.le_trans (Nat.add_le_add_right L1 1) (by decide), _, _, rfl, hasT htl9, _, _, rfl, int_has, _, _, rfl, rfl, trivial, _, _, rfl, .inl ⟨rfl, _, _, rfl, rfl, Nat.le_trans (Nat.add_le_add (c1.app (SD.one tyb)).len L2) (by decide), _, rfl, by simp, fun vx Hx sx hvx => ?_⟩⟩
  obtain ⟨q8, eq8, tq8⟩ := c3.tags (by decide) "tags"
  have sm10 := sm9.app (q := q8) hl9 sx (by rw [eq8]; exact hvx) tq8
  have htlX : upd Hx l (.lst (zs9 ++ [vx])) tl = some (.lst (tg.map V.str)) := by rw [upd_ne nel]; exact sx _ _ htl9
  generalize upd Hx l (.lst (zs9 ++ [vx])) = H10 at sm10 htlX ⊢
  -- one tag twice
  obtain ⟨x9, e9, t9⟩ := sd.at (i := kk / 2) (by omega) (by omega)
  have c4 := (sd.cut none (some 3)).app (SD.one t9)
  obtain ⟨_, _, zsA, qsA, hlA, hzA, _, nA⟩ := id sm10
  have mA := hzA.length
  rw [List.length_map] at mA
  refine ⟨l, zsA, rfl, hlA, by omega, _, _, rfl, hasT htlX, _, _, rfl, .inl ⟨rfl, ?_⟩⟩
  refine ⟨_, _, rfl, hasT htlX, _, _, rfl, int_has, _, _, rfl, rfl, ⟨by decide, by decide⟩, _, _, _, .inl rfl, rfl, e9, by simp, _, _, rfl, rfl, Nat.le_trans (Nat.add_le_add_right (sd.cut none (some 3)).len 1) (by decide), _, rfl, by simp, fun vy Hy sy hvy => ?_⟩
  obtain ⟨q9, eq9, tq9⟩ := c4.tags (by decide) "tags"
  have sm11 := sm10.app (q := q9) hlA sy (by rw [eq9]; exact hvy) tq9
  generalize upd Hy l (.lst (zsA ++ [vy])) = H11 at sm11 ⊢
  -- the kinds' own shapes
  have lx := hx.length
  rw [List.length_map] at lx
  have nk : kl ≠ l := fun e => by have := sm11.2.1; rw [← e, sB _ _ hk] at this; cases this
  refine ⟨_, rfl, kl, rfl, ⟨_, SqL.of (sm11.1 _ _ (sB _ _ hk))⟩, ?_⟩
  refine fl_list (xs := xs) (fun i σ H' => ∃ z7 z8, Sm H4 H' l (12 + i) ∧ σ = [some (.ref kl), some (.int at'), some (.int nr), some (.ref nl), some (.ref l), some (.ref tl), some (.int kk), z7, z8]) ⟨_, _, sm11, rfl⟩ ?_ ?_ ?_
  · rintro i σ H' _ ⟨z7, z8, smi, _⟩
    exact SqL.of (smi.1 _ _ (sB _ _ hk))
  · rintro BB RR i v σ H' hv ⟨z7, z8, smi, rfl⟩
    have ilt := (List.getElem?_eq_some_iff.mp hv).1
    obtain ⟨dv, hdv, hhv⟩ := hx.get hv
    rw [List.getElem?_map] at hdv
    cases hg : gs[i]? with
    | none => rw [hg] at hdv; cases hdv
    | some k =>
      rw [hg] at hdv
      cases hdv
      obtain ⟨y', g'⟩ := k
      obtain ⟨a, v8, rfl, ha8, hv8⟩ := has_g ((hhv.mono sB).mono smi.1)
      refine ⟨a, _, rfl, SqT.of ha8, rfl, _, _, rfl, _, _, rfl, rfl, ?_⟩
      obtain ⟨_, _, zsB, qsB, hlB, hzB, _, nB⟩ := id smi
      have mB := hzB.length
      rw [List.length_map] at mB
      have n6 := gb.n6
      rcases gb.st _ (List.mem_of_getElem? hg) with ⟨ts, rfl, t1, t4, tt⟩ | ⟨c, e, rfl⟩
      · obtain ⟨p8, l8, rfl, hp8, hl8⟩ := has_gtg hv8
        refine ⟨_, rfl, p8, _, 0, _, rfl, rfl, SqT.of hp8, rfl, rfl, _, rfl, ?_⟩
        refine iteP (by simp) ?_
        have lt : (ts.map Dat.str).length = ts.length := List.length_map _
        obtain ⟨m1, m2⟩ := mod_in (nr / 16) (n := (ts.map Dat.str).length) (by omega)
        obtain ⟨x, ex, tx⟩ := SD.at (n := 4) (a := ts.map Dat.str) ⟨ts, rfl, tt, t4⟩ (i := nr / 16 % ((ts.map Dat.str).length : Int)) (by omega) m2
        refine ⟨l, zsB, rfl, hlB, by omega, _, _, rfl, hv8, _, _, _, .inr rfl, rfl, rfl, _, _, rfl, int_has, _, _, rfl, rfl, cd (by decide) (by decide), _, _, rfl, hv8, _, _, _, .inr rfl, rfl, rfl, _, .inr rfl, _, _, rfl, rfl, (by omega), _, _, _, .inr rfl, rfl, ex, by simp, by simp, fun vz Hz sz hvz => ?_⟩
        refine ⟨_, _, smi.app (q := .tg "tags" ["QA", x, "QB"]) hlB sz hvz ⟨by simp, fun x' hx' => ?_⟩, rfl⟩
        simp only [List.mem_cons, List.not_mem_nil, or_false] at hx'
        rcases hx' with rfl | rfl | rfl
        · exact (qqs_tx _ (by simp [qqs])).1
        · exact tx
        · exact (qqs_tx _ (by simp [qqs])).1
      · obtain ⟨p8, rfl, hp8⟩ := has_gpr hv8
        refine ⟨_, rfl, p8, _, 0, _, rfl, rfl, SqT.of hp8, rfl, rfl, _, rfl, ?_⟩
        refine iteM (by decide) ?_
        refine ⟨l, zsB, rfl, hlB, by omega, _, _, rfl, hv8, fun vz Hz sz hvz => ?_⟩
        exact ⟨_, _, smi.app (q := .pr "pair" c e) hlB sz hvz trivial, rfl⟩
  · rintro σ H' ⟨z7, z8, smi, rfl⟩
    obtain ⟨sE, _, zsE, qsE, hlE, hzE, txE, nE⟩ := smi
    have mE := hzE.length
    have lq : (qsE.map GS.dat).length = qsE.length := List.length_map _
    obtain ⟨m1, m2⟩ := mod_in nr (n := (qsE.map GS.dat).length) (by omega)
    refine ⟨_, rfl, _, _, rfl, int_has, _, _, rfl, has_lst' hlE hzE, _, .inl rfl, _, _, rfl, rfl, (by omega), fun vi Hi si hi => ?_⟩
    cases has_int hi
    obtain ⟨d, hd, ed⟩ := atI_in (xs := qsE.map GS.dat) (i := nr % ((qsE.map GS.dat).length : Int)) (by omega) m2
    obtain ⟨v, ev, hv⟩ := hasL_at hzE ed
    obtain ⟨qq, hq, rfl⟩ := List.mem_map.mp hd
    exact ⟨l, zsE, _, v, rfl, rfl, SqL.of (si _ _ hlE), ev, q v Hi qq ((sB.trans sE).trans si) (hv.mono si) (txE qq hq)⟩
end
end K4
namespace L2
open PySem
section
variable {X : Cx} {e a b : Expr} {t u : TD} {pos : Pos}
theorem pd_pe (h : PD X e t) : PE X e (tOf t) := h.pe
def gAddS : Dat → Dat → (Dat → Prop) → Prop := fun d e R => ∃ i j : Str, d = .str i ∧ e = .str j ∧ Asc i ∧ Asc j ∧ i.length ≤ 1000 ∧ j.length ≤ 1000 ∧ ∀ y : Str, y.length = i.length + j.length → Asc y → R (.str y)
theorem d_addS (ha : PD X a t) (hb : PD X b u) : PD X (.BinOp a .Add b pos) (d2 t u gAddS) := by
  refine d_two (fun d e R R' k ⟨i, j, h1, h2, h3, h4, h5, h6, q⟩ => ⟨i, j, h1, h2, h3, h4, h5, h6, fun y l z => k _ (q y l z)⟩) ha hb (PE.imp (pe_op op_addW ha.pe hb.pe) fun σ H Q q => ha.mono σ H _ _ (fun d z x H1 s1 hx => hb.mono σ H1 _ _ (fun e z' y H2 s2 hy => ?_) (z x H1 s1 hx)) q)
  obtain ⟨d', e', h1, h2, i, j, rfl, rfl, h3, h4, h5, h6, r⟩ := z' y H2 s2 hy
  cases has_str' h1
  cases has_str' h2
  exact ⟨i, j, rfl, rfl, h3, h4, h5, h6, fun y l z => r y l z _ _ (Same.refl _) str_has⟩
def gIxS : Dat → Dat → (Dat → Prop) → Prop := fun d e R => ∃ (z : Str) (i : Int), d = .str z ∧ e = .int i ∧ Asc z ∧ z.length ≤ 1000 ∧ -(z.length : Int) ≤ i ∧ i < z.length ∧ ∀ y : Str, y.length = 1 → Asc y → R (.str y)
theorem d_ixS (ha : PD X a t) (hb : PD X b u) (hs : NoSl b) : PD X (.Subscript a b pos) (d2 t u gIxS) := by
  refine d_two (fun d e R R' k ⟨z, i, h1, h2, h3, h4, h5, h6, q⟩ => ⟨z, i, h1, h2, h3, h4, h5, h6, fun y l z => k _ (q y l z)⟩) ha hb (PE.imp (pe_ix ix_strW ha.pe hb.pe hs) fun σ H Q q => ha.mono σ H _ _ (fun d z x H1 s1 hx => hb.mono σ H1 _ _ (fun e z' y H2 s2 hy => ?_) (z x H1 s1 hx)) q)
  obtain ⟨d', e', h1, h2, z, i, rfl, rfl, h3, h4, h5, h6, r⟩ := z' y H2 s2 hy
  cases has_str' h1
  cases has_int h2
  exact ⟨z, i, rfl, rfl, h3, h4, h5, h6, fun y l z => r y l z _ _ (Same.refl _) str_has⟩
def gGt : Dat → Dat → (Dat → Prop) → Prop := fun d e R => ∃ i j : Int, d = .int i ∧ e = .int j ∧ R (.bl (decide (j < i)))
theorem d_gt (ha : PD X a t) (hb : PD X b u) : PD X (.Compare a [.Gt] [b] pos) (d2 t u gGt) := by
  refine d_two (fun d e R R' k ⟨i, j, h1, h2, q⟩ => ⟨i, j, h1, h2, k _ q⟩) ha hb (PE.imp (pe_cmpR op_gt ha.pe hb.pe (nomark _)) fun σ H Q q => ha.mono σ H _ _ (fun d z x H1 s1 hx => hb.mono σ H1 _ _ (fun e z' y H2 s2 hy => ?_) (z x H1 s1 hx)) q)
  obtain ⟨d', e', h1, h2, i, j, rfl, rfl, r⟩ := z' y H2 s2 hy
  cases has_int h1
  cases has_int h2
  exact ⟨i, j, rfl, rfl, r _ _ (Same.refl _) (by unfold Has; rfl)⟩
def gIntB : Dat → (Dat → Prop) → Prop := fun d R => ∃ b, d = .bl b ∧ R (.int (if b = true then 1 else 0))
theorem d_intB {np cp : Pos} (hm : X.mg "int" = none) (ha : PD X a t) (hg : Gl X "int" := by rfl) (hs : starEach [a] X.env = [(false, eval a X.env)] := by rfl) : PD X (.Call (.Name "int" np) [a] [] cp) (d1 t gIntB) := by
  refine d_one (fun d R R' k ⟨b, h1, q⟩ => ⟨b, h1, k _ q⟩) ha (PE.imp (pe_callTy call_int1 hg hm boot_int' (pa_cons ha.pe pa_nil hs) (he := hs)) fun σ H Q q => ha.mono σ H _ _ (fun d z x H1 s1 hx => ?_) q)
  obtain ⟨d', h1, b, rfl, r⟩ := z x H1 s1 hx
  have e : x = .bl b := by unfold Has at h1; exact h1
  subst e
  exact .inr ⟨b, rfl, r _ _ (Same.refl _) int_has⟩
end
def Fd (H0 H : Hp) (l : Addr) : Prop := Same H0 H ∧ ∃ (zs : List V) (gs : List (Str × GS)), H l = some (.lst zs) ∧ HasL H zs (gs.map gD) ∧ gs.length ≤ 12 ∧ ∀ k ∈ gs, Tx k.1 ∧ k.2.tx
theorem gk_st (k : Str × GS) : (gD k).st = true := by
  have h := GS.st k.2
  unfold gD
  simp [Dat.st, Dat.sts, h]
theorem gks_sts : ∀ gs : List (Str × GS), Dat.sts (gs.map gD) = true
  | [] => by unfold Dat.sts; rfl
  | k :: gs => by rw [List.map_cons]; unfold Dat.sts; rw [gk_st k, gks_sts gs]; rfl
theorem hasL_set {H : Hp} : ∀ {ds : List Dat} {xs : List V} (j : Nat) {v : V} {d : Dat}, HasL H xs ds → Has H v d → HasL H (xs.set j v) (ds.set j d)
  | [], [], _, _, _, h, _ => h
  | [], _ :: _, _, _, _, h, _ => by unfold HasL at h; exact h.elim
  | _ :: _, [], _, _, _, h, _ => by unfold HasL at h; exact h.elim
  | d :: ds, x :: xs, 0, _, _, h, k => by unfold HasL at h; exact HasL.cons k h.2
  | d :: ds, x :: xs, j + 1, _, _, h, k => by unfold HasL at h; rw [List.set_cons_succ, List.set_cons_succ]; exact HasL.cons h.1 (hasL_set j h.2 k)
theorem Fd.set {H0 H H' : Hp} {l : Addr} {xs : List V} {v : V} {k : Str × GS} (h : Fd H0 H l) (f : H0 l = none) (hl : H l = some (.lst xs)) (s : Same H H') (hv : Has H' v (gD k)) (tx : Tx k.1 ∧ k.2.tx) (j : Nat) : Fd H0 (upd H' l (.lst (xs.set j v))) l := by
  obtain ⟨s0, zs, gs, h1, h2, h3, h4⟩ := h
  rw [h1] at hl
  cases hl
  have tk : TK H' (upd H' l (.lst (xs.set j v))) := tk_upd (s _ _ h1) fun ys z => nomatch z
  refine ⟨(s0.trans s).putN f, _, gs.set j k, upd_same, ?_, by rw [List.length_set]; exact h3, fun z hz => ?_⟩
  · rw [List.map_set]
    exact hasL_set j (hasL_tk tk _ (gks_sts gs) (h2.mono s)) (has_tk tk _ (gk_st k) hv)
  · rcases List.mem_or_eq_of_mem_set hz with h | h
    · exact h4 z h
    · rw [h]; exact tx
theorem ixN_of {n : Nat} {i : Int} (h1 : 0 ≤ i) (h2 : i < n) : ixN n i = some i.toNat := by unfold ixN; rw [if_pos h1, if_pos h2]
theorem GS.std.tx {g : GS} (h : g.std) : g.tx := by
  rcases h with ⟨ts, rfl, h1, h4, ht⟩ | ⟨a, b, rfl⟩
  · exact ⟨by omega, ht⟩
  · trivial
def GL (ds : List Dat) (n : Nat) : Prop := ∃ gs : List (Str × GS), ds = gs.map gD ∧ gs.length ≤ n ∧ ∀ k ∈ gs, Tx k.1 ∧ k.2.tx
theorem GL.cut {ds : List Dat} {n : Nat} (h : GL ds n) (lo hi : Option Int) : GL (cutD ds lo hi) n := by
  obtain ⟨ts, rfl, h2, h1⟩ := h
  refine ⟨(ts.drop (HT.sIx (ts.map gD).length 0 lo)).take (HT.sIx (ts.map gD).length (ts.map gD).length hi - HT.sIx (ts.map gD).length 0 lo), ?_, ?_, fun x hx => h1 x (List.mem_of_mem_drop (List.mem_of_mem_take hx))⟩
  · unfold cutD; rw [List.map_take, List.map_drop]
  · rw [List.length_take, List.length_drop]; omega
theorem GL.fd {ds : List Dat} {H0 H : Hp} {l : Addr} (h : GL ds 12) (s : Same H0 H) (hv : Has H (.ref l) (.lst ds)) : Fd H0 H l := by
  obtain ⟨gs, rfl, h1, h2⟩ := h
  unfold Has at hv
  obtain ⟨a, xs, e, e1, e2⟩ := hv
  cases e
  exact ⟨s, xs, gs, e1, e2, h1, h2⟩
theorem tx_lit {x : Str} (h : (decide (x.length ≤ 20) && x.cps.toList.all (fun c => decide (c < 128))) = true) : Tx x := by
  rw [Bool.and_eq_true, decide_eq_true_eq] at h
  exact ⟨h.1, asc_of h.2⟩
structure Bx (p : Prop) : Prop where
  h : p
theorem bx_set {X : Cx} {i : Nat} {x : Str} {e : Expr} {te : TD} {pos pos' : Pos} (hN : X.N.Nodup) (hi : X.N[i]? = some x) (hx : Loc X.env.scope x) (he : PD X e te) (hs : swapsWith e (some (.Name x pos')) pos.line X.env = pure false) (hf : X.fn x = true ∨ X.env.scope.names.lookup x = some .local) : Bx (PS X (.Assign [.Name x pos'] e pos) (tAsg (tOf te) (gName i))) := ⟨ps_set hN hi hx he.pe hs hf⟩
theorem bx_three {X : Cx} {s1 s2 s3 : Stmt} {t1 t2 t3 : TS} (h1 : Bx (PS X s1 t1)) (h2 : Bx (PS X s2 t2)) (h3 : Bx (PS X s3 t3)) : Bx (PSs X [s1, s2, s3] (tSeq t1 (tSeq t2 t3))) := ⟨pss_cons h1.h (pss_cons h2.h (pss_one h3.h))⟩
theorem ps_ifB {X : Cx} {c : Expr} {a b : List Stmt} {tc : TT} {t u : TS} {pos : Pos} (hc : PT X c tc) (ha : Bx (PSs X a t)) (hb : PSs X b u) : PS X (.If c a b pos) (tIfS tc t u) := ps_if hc ha.h hb
end L2
namespace K4
open PySem L2
section
variable {P : Program} {w : World} {K : PySem.W.Frag} {mg : Str → Option Value} {base : Heap} {f g h : Addr} {fd gd hd : FuncData}
def spSpoilt : Sp := fun vs H Q _ => ∃ (kl : Addr) (xs : List V) (gs : List (Str × GS)) (nr : Int), vs = [.ref kl, .int nr] ∧ H kl = some (.lst xs) ∧ HasL H xs (gs.map gD) ∧ GB gs ∧ ∀ l H', Fd H H' l → Q (.ref l) H'
theorem scSpoilt : FnScope ["kinds", "number", "at", "way", "found"] ["kinds", "number"] (defScope sSpoilt) := ⟨rfl, rfl, rfl, by decide +kernel, rfl, by decide +kernel, by decide +kernel⟩
theorem nd_k1 : List.Nodup [("k" : Str)] := by decide +kernel
def gOther : List Dat → (Dat → Prop) → Prop := fun ds R => ∃ (gs : List (Str × GS)) (a n : Int), ds = [.lst (gs.map gD), .int a, .int n] ∧ GB gs ∧ 0 ≤ a ∧ a < gs.length ∧ ∀ q : GS, q.tx → R q.dat
theorem gOther_mono : ∀ ds (R R' : Dat → Prop), (∀ d, R d → R' d) → gOther ds R → gOther ds R' := fun ds R R' k ⟨gs, a, n, h1, h2, h3, h4, q⟩ => ⟨gs, a, n, h1, h2, h3, h4, fun y hy => k _ (q y hy)⟩
theorem gOther_sp {E : XK} : ∀ vs H Q ds, HasL H vs ds → (gOther ds fun d => ∀ v H', Same H H' → Has H' v d → Q v H') → spOther vs H Q E := fun vs H Q ds h ⟨gs, a, n, e, h2, h3, h4, q⟩ => by
  subst e
  match vs, h with
  | [], h => unfold HasL at h; exact h.elim
  | [_], h => unfold HasL HasL at h; exact h.2.elim
  | [_, _], h => unfold HasL HasL HasL at h; exact h.2.2.elim
  | _ :: _ :: _ :: _ :: _, h => unfold HasL HasL HasL HasL at h; exact h.2.2.2.elim
  | [x, b, c], h =>
    unfold HasL HasL HasL at h
    obtain ⟨hx, hb, hc, _⟩ := h
    cases has_int hb
    cases has_int hc
    unfold Has at hx
    obtain ⟨l, zs, rfl, e1, e2⟩ := hx
    exact ⟨l, zs, gs, a, n, rfl, e1, e2, h2, h3, h4, fun v H' q' s' hv tx => q q' tx _ _ s' hv⟩
theorem ok_spoilt {n : Nat} (B : Blt mg) (F : Fun K "_law_spoilt" "_law_spoilt" sSpoilt f fd) (G : FnOk P w K mg base CX0 n g gd ["word", "way"] spBad) (bG : Binds K gd ["word", "way"] []) (kG : PySem.W.keepIn K (.ref g) = true) (mG : mg "_law_bad_word" = some (.ref g))
    (GO : FnOk P w K mg base CX0 n h hd ["kinds", "at", "number"] spOther) (bO : Binds K hd ["kinds", "at", "number"] []) (kO : PySem.W.keepIn K (.ref h) = true) (mO : mg "_law_other_shape" = some (.ref h)) :
    FnOk P w K mg base CX0 (n + 1) f fd ["kinds", "number"] spSpoilt := by
  refine F.ok scSpoilt (fun vs H Q E h => ?_) (fun cdv A outer s H vs Q E hr h => ?_)
  · obtain ⟨kl, xs, gs, nr, rfl, _⟩ := h
    rfl
  obtain ⟨kl, xs, gs, nr0, rfl, hk, hx, gb, q⟩ := h
  refine ⟨_, pss_cons (ps_set (i := 2) scSpoilt.nd rfl (Or.inl rfl) (pd_pe (d_mod (d_div (d_of (pv 1)) d_int) (d_lenP B.len (d_of (pv 0))))))
    (pss_cons (ps_set (i := 3) scSpoilt.nd rfl (Or.inl rfl) (pe_op op_mod (pv 1) pe_int))
    (pss_cons (ps_set (i := 1) scSpoilt.nd rfl (Or.inl rfl) (pe_op op_fdiv (pv 1) pe_int))
    (pss_cons (ps_set (i := 4) scSpoilt.nd rfl (Or.inl rfl) (pe_callTy call_list_of rfl B.list boot_list' (pa_cons (pv 0) pa_nil)))
    (pss_cons (ps_if (pt_cmpR op_eq (pv 3) pe_int (nomark _)) (pss_one (ps_asg (pd_pe (d_tup (ds_cons (d_call G hr rfl mG kG bG pass0 (ds_cons (d_ix (d_ix (d_of (pv 0)) (d_of (pv 2)) (fun _ _ => rfl)) d_int (fun _ _ => rfl)) (ds_cons (d_of (pv 1)) ds_nil)) gBad_mono gBad_sp) (ds_cons (d_ix (d_ix (d_of (pv 0)) (d_of (pv 2)) (fun _ _ => rfl)) d_int (fun _ _ => rfl)) ds_nil)))) (pg_sub (pv 4) (pv 2) set_list))) pss_nil)
    (pss_cons (ps_if (pt_cmpR op_eq (pv 3) pe_int (nomark _)) (pss_one (ps_asg (pd_pe (d_tup (ds_cons (d_ix (d_ix (d_of (pv 0)) (d_mod (d_of (pv 1)) (d_lenP B.len (d_of (pv 0)))) (fun _ _ => rfl)) d_int (fun _ _ => rfl)) (ds_cons (d_ix (d_ix (d_of (pv 0)) (d_of (pv 2)) (fun _ _ => rfl)) d_int (fun _ _ => rfl)) ds_nil)))) (pg_sub (pv 4) (pv 2) set_list))) pss_nil)
    (pss_cons (ps_if (PW.pt (pw_or (pt_cmpR op_eq (pv 3) pe_int (nomark _)) (pw_or1 (pt_cmpR op_eq (pv 3) pe_int (nomark _))))) (pss_one (ps_asg (pd_pe (d_tup (ds_cons (d_ix (d_ix (d_of (pv 0)) (d_of (pv 2)) (fun _ _ => rfl)) d_int (fun _ _ => rfl)) (ds_cons (d_call GO hr rfl mO kO bO pass0 (ds_cons (d_of (pv 0)) (ds_cons (d_of (pv 2)) (ds_cons (d_of (pv 1)) ds_nil))) gOther_mono gOther_sp) ds_nil)))) (pg_sub (pv 4) (pv 2) set_list))) pss_nil)
    (pss_cons (ps_if (pt_cmpR op_eq (pv 3) pe_int (nomark _)) (pss_one (ps_set (i := 4) scSpoilt.nd rfl (Or.inl rfl) (pe_op op_cat (pv 4) (pe_cmpr ["k"] [] (pi_range1 rfl B.range (pa_cons (pd_pe (d_mod (d_of (pv 1)) d_int)) pa_nil)) (gk_name (i := 0) (by decide)) (fun cl C fp s H => pg_name (i := 0) nd_k1 rfl (Or.inl rfl) (Or.inr rfl))
        (fun cl C fp s H => (pd_pe (d_tup (ds_cons (d_addS d_str (d_ixS d_str (d_of (pv 0)) (fun _ _ => rfl))) (ds_cons (d_tup (ds_cons d_str (ds_cons (d_tup (ds_cons (d_addS d_str (d_ixS d_str (d_of (pv 0)) (fun _ _ => rfl))) ds_nil)) ds_nil))) ds_nil))))))))) pss_nil)
    (pss_cons (ps_ifB (pt_cmpR op_eq (pv 3) pe_int (nomark _))
      (bx_three (bx_set (i := 4) scSpoilt.nd rfl (Or.inl rfl) (d_lst (ds_cons (d_tup (ds_cons d_str (ds_cons (d_tup (ds_cons d_str (ds_cons (d_to (d_tup (ds_cons d_str (ds_cons d_str (ds_cons d_str (ds_cons d_str ds_nil))))) (d_add d_int (d_mod (d_of (pv 1)) d_int))) ds_nil))) ds_nil))) (ds_cons (d_tup (ds_cons d_str (ds_cons (d_tup (ds_cons d_str (ds_cons d_str (ds_cons d_str ds_nil)))) ds_nil))) ds_nil))) rfl (Or.inl rfl))
      (bx_set (i := 4) scSpoilt.nd rfl (Or.inl rfl) (d_cat (d_of (pv 4)) (d_lst (ds_cons (d_tup (ds_cons d_str (ds_cons (d_tup (ds_cons d_str (ds_cons (d_ix (d_lst (ds_cons d_str (ds_cons d_str ds_nil))) (d_mod (d_div (d_of (pv 1)) d_int) d_int) (fun _ _ => rfl)) (ds_cons d_str ds_nil)))) ds_nil))) (ds_cons (d_tup (ds_cons d_str (ds_cons (d_tup (ds_cons d_str (ds_cons d_str (ds_cons d_str ds_nil)))) ds_nil))) ds_nil)))) rfl (Or.inl rfl))
      (bx_set (i := 4) scSpoilt.nd rfl (Or.inl rfl) (d_ix (d_lst (ds_cons (d_lst ds_nil) (ds_cons (d_to (d_of (pv 4)) (d_add d_int (d_mod (d_div (d_of (pv 1)) d_int) d_int))) ds_nil))) (d_intB B.int (d_gt (d_mod (d_div (d_of (pv 1)) d_int) d_int) d_int)) (fun _ _ => rfl)) rfl (Or.inl rfl))) pss_nil)
    (pss_one (ps_ret (pv 4))))))))))), ?_⟩
  dsimp only [cxOf, Cx.nox, Cx.wish]
  have lx := hx.length
  rw [List.length_map] at lx
  have hK0 : Has H (.ref kl) (.lst (gs.map gD)) := has_lst' hk hx
  have lK : (gs.map gD).length = gs.length := List.length_map _
  have g0 := gb.n0
  have g6 := gb.n6
  refine ⟨_, _, rfl, int_has, _, _, rfl, rfl, ⟨by decide, by decide⟩, _, _, rfl, hK0, _, .inl rfl, _, _, rfl, rfl, (by omega), fun va H1 s1 ha => ?_⟩
  cases has_int ha
  obtain ⟨a0, a1⟩ := mod_in (nr0 / 8) (n := (gs.map gD).length) (by omega)
  dsimp only
  generalize nr0 / 8 % ((gs.map gD).length : Int) = at' at a0 a1 ⊢
  refine ⟨_, rfl, _, _, rfl, rfl, (by show (0 : Int) < 8; decide), ?_⟩
  dsimp only
  generalize nr0 % 8 = way
  refine ⟨_, rfl, _, _, rfl, rfl, ⟨by decide, by decide⟩, ?_⟩
  dsimp only
  generalize nr0 / 48 = nr
  refine ⟨_, rfl, kl, xs, rfl, .inl (SqL.of (s1 _ _ hk)), fun l fl => ?_⟩
  have f0 : H l = none := s1.free fl
  have s2 := same_upd fl (.lst xs)
  have fd0 : Fd H (upd H1 l (.lst xs)) l := ⟨s1.trans s2, xs, gs, upd_same, (hx.mono s1).mono s2, by omega, fun k hk' => ⟨⟨by have := (gb.nm k hk').2.2; omega, (gb.nm k hk').1⟩, (gb.st k hk').tx⟩⟩
  have ln0 : ∀ zs, upd H1 l (.lst xs) l = some (.lst zs) → zs.length = gs.length := fun zs e => by rw [upd_same] at e; cases e; exact lx
  generalize upd H1 l (.lst xs) = H2 at fd0 ln0 ⊢
  have cd : ∀ {m j : Int}, 0 < j → j < 1000 → CDiv m j := fun h1 h2 => ⟨h1, by omega⟩
  let C1 : St → Hp → Prop := fun σ H' => σ = [some (.ref kl), some (.int nr), some (.int at'), some (.int way), some (.ref l)] ∧ Fd H H' l ∧ ∀ zs, H' l = some (.lst zs) → zs.length = gs.length
  let C2 : St → Hp → Prop := fun σ H' => ∃ l', σ = [some (.ref kl), some (.int nr), some (.int at'), some (.int way), some (.ref l')] ∧ Fd H H' l'
  obtain ⟨⟨y, g⟩, mk, eK, _⟩ := gb.at (i := at') (by omega) (by omega)
  obtain ⟨ay, y1, y8⟩ := gb.nm _ mk
  have ty : Tx y := ⟨by have : y.length ≤ 8 := y8; omega, ay⟩
  have tg : g.tx := (gb.st _ mk).tx
  -- a store in the list
  have put : ∀ (σ : St) (N : St → Hp → Prop) (H' H'' : Hp) (v : V) (k : Str × GS), (∀ σ H, C1 σ H → N σ H) → C1 σ H' → Same H' H'' → Has H'' v (gD k) → Tx k.1 ∧ k.2.tx → ∃ zs, H'' l = some (.lst zs) ∧ ixN zs.length at' = some at'.toNat ∧ N σ (upd H'' l (.lst (zs.set at'.toNat v))) := by
    rintro σ N H' H'' v k hN ⟨rfl, fd, ln⟩ sx hv tx
    obtain ⟨_, zs, _, hz, _⟩ := id fd
    refine ⟨zs, sx _ _ hz, ixN_of a0 (by rw [ln zs hz]; omega), hN _ _ ⟨rfl, fd.set f0 hz sx hv tx _, fun zs' e => ?_⟩⟩
    rw [upd_same] at e
    cases e
    rw [List.length_set]; exact ln zs hz
  -- way 2
  dsimp only [gName]
  refine seq_named C1 ?k5 ?m5
  case m5 =>
    intro N hN
    refine ⟨_, rfl, rfl, _, rfl, ?_⟩
    by_cases hw : way = 2
    · refine iteP (by simp [hw]) ?_
      have hK := hK0.mono fd0.1
      refine ⟨_, _, rfl, hK, _, _, rfl, int_has, _, _, _, .inl rfl, rfl, eK, _, _, _, .inr rfl, rfl, rfl, _, _, rfl, int_has, y, nr, rfl, ay, y1, y8, fun yb tyb => ?_⟩
      refine ⟨_, _, rfl, hK, _, _, rfl, int_has, _, _, _, .inl rfl, rfl, eK, _, _, _, .inr rfl, rfl, rfl, by simp, fun v H3 s3 hv => ?_⟩
      obtain ⟨zs, e1, e2, e3⟩ := put _ N H2 H3 v (yb, g) hN ⟨rfl, fd0, ln0⟩ s3 hv ⟨tyb, tg⟩
      exact ⟨_, rfl, _, rfl, l, zs, at', _, rfl, rfl, e1, e2, e3⟩
    · exact iteM (by simp [hw]) (hN _ _ ⟨rfl, fd0, ln0⟩)
  case k5 =>
  rintro _ H3 ⟨rfl, fd3, ln3⟩
  -- way 3
  refine seq_named C1 ?k6 ?m6
  case m6 =>
    intro N hN
    refine ⟨_, rfl, rfl, _, rfl, ?_⟩
    by_cases hw : way = 3
    · refine iteP (by simp [hw]) ?_
      have hK := hK0.mono fd3.1
      obtain ⟨m1, m2⟩ := mod_in nr (n := (gs.map gD).length) (by omega)
      obtain ⟨⟨y', g'⟩, mk', eK', _⟩ := gb.at (i := nr % ((gs.map gD).length : Int)) (by omega) (by omega)
      have ty' : Tx y' := ⟨by have : y'.length ≤ 8 := (gb.nm _ mk').2.2; omega, (gb.nm _ mk').1⟩
      refine ⟨_, _, rfl, hK, _, _, rfl, int_has, _, _, rfl, hK, _, .inl rfl, _, _, rfl, rfl, (by omega), _, _, _, .inl rfl, rfl, eK', _, _, _, .inr rfl, rfl, rfl, ?_⟩
      refine ⟨_, _, rfl, hK, _, _, rfl, int_has, _, _, _, .inl rfl, rfl, eK, _, _, _, .inr rfl, rfl, rfl, by simp, fun v H4 s4 hv => ?_⟩
      obtain ⟨zs, e1, e2, e3⟩ := put _ N H3 H4 v (y', g) hN ⟨rfl, fd3, ln3⟩ s4 hv ⟨ty', tg⟩
      exact ⟨_, rfl, _, rfl, l, zs, at', _, rfl, rfl, e1, e2, e3⟩
    · exact iteM (by simp [hw]) (hN _ _ ⟨rfl, fd3, ln3⟩)
  case k6 =>
  rintro _ H4 ⟨rfl, fd4, ln4⟩
  -- ways 4 and 5
  refine seq_named C1 ?k7 ?m7
  case m7 =>
    intro N hN
    have body : ∀ D : Ends, D.nx = N → tAsg (tOf (dTup [d2 (d2 (dVar 0) (dVar 2) gIx) (dC (Dat.int 0)) gIx, fun σ H R => dAll [dVar 0, dVar 2, dVar 1] σ H fun ds => gOther ds R])) (gSub (tVar 4) (tVar 2) rSetL) D [some (.ref kl), some (.int nr), some (.int at'), some (.int way), some (.ref l)] H4 := by
      intro D eD
      have hK := hK0.mono fd4.1
      refine ⟨_, _, rfl, hK, _, _, rfl, int_has, _, _, _, .inl rfl, rfl, eK, _, _, _, .inr rfl, rfl, rfl, ?_⟩
      refine ⟨_, _, rfl, hK, _, _, rfl, int_has, _, _, rfl, int_has, gs, at', nr, rfl, gb, a0, by omega, fun q' tq' => ⟨by simp, fun v H5 s5 hv => ?_⟩⟩
      obtain ⟨zs, e1, e2, e3⟩ := put _ N H4 H5 v (y, q') hN ⟨rfl, fd4, ln4⟩ s5 hv ⟨ty, tq'⟩
      refine ⟨_, rfl, _, rfl, l, zs, at', _, rfl, rfl, e1, e2, ?_⟩
      rw [eD]; exact e3
    refine ⟨_, rfl, rfl, _, rfl, ?_⟩
    by_cases hw : way = 4
    · refine iteP (by simp [hw]) ?_
      refine iteP (by simp [hw]) ?_
      exact body _ rfl
    · refine iteM (by simp [hw]) ?_
      refine ⟨_, rfl, rfl, _, rfl, ?_⟩
      by_cases hw5 : way = 5
      · refine iteP (by simp [hw5]) ?_
        exact body _ rfl
      · exact iteM (by simp [hw5]) (hN _ _ ⟨rfl, fd4, ln4⟩)
  case k7 =>
  rintro _ H5 ⟨rfl, fd5, ln5⟩
  -- way 6
  refine seq_named C2 ?k8 ?m8
  case m8 =>
    intro N hN
    refine ⟨_, rfl, rfl, _, rfl, ?_⟩
    by_cases hw : way = 6
    · refine iteP (by simp [hw]) ?_
      obtain ⟨s05, zs, gs5, hz, hzl, l12, tx5⟩ := id fd5
      have lz := ln5 zs hz
      obtain ⟨m1, m2⟩ := mod_in nr (n := 7) (by decide)
      refine ⟨_, rfl, _, _, rfl, int_has, _, _, rfl, rfl, (by show (0 : Int) < 7; decide), fun vj Hj sj hj => ?_⟩
      cases has_int hj
      refine ⟨_, rfl, by show -(2 ^ 62) ≤ nr % ((7 : Nat) : Int); omega, by show nr % ((7 : Nat) : Int) < 2 ^ 62; omega, ?_⟩
      have nn : (nr % ((7 : Nat) : Int)).toNat ≤ 6 := by omega
      dsimp only
      have en : (nr % 7).toNat = (nr % ((7 : Nat) : Int)).toNat := rfl
      rw [en]
      generalize (nr % ((7 : Nat) : Int)).toNat = m at nn ⊢
      refine comp_form m (small1000 (by omega)) (fun i vs H' => Same Hj H' ∧ vs.length = i ∧ ∃ gs2 : List (Str × GS), HasL H' vs (gs2.map gD) ∧ gs2.length = i ∧ ∀ k ∈ gs2, Tx k.1 ∧ k.2.tx) ⟨Same.refl _, rfl, [], HasL.nil, rfl, fun k hk => by cases hk⟩ (fun i vs H' z => z.2.1) ?_ ?_ ?_ ?_
      · intro i vs H' hi z
        exact hi
      · intro vs H' z
        exact Nat.le_refl _
      · intro i vs H' v H'' R hi z yl hR
        obtain ⟨rfl, rfl⟩ := yl
        obtain ⟨z1, z2, gs2, z3, z4, z5⟩ := z
        have a1 : Asc (Str.ofString "abcdefg") ∧ (Str.ofString "abcdefg").length = 7 := ⟨asc_of (by decide +kernel), by decide⟩
        have a2 : Asc (Str.ofString "ABCDEFG") ∧ (Str.ofString "ABCDEFG").length = 7 := ⟨asc_of (by decide +kernel), by decide⟩
        have a3 : Asc (Str.ofString "qa") ∧ (Str.ofString "qa").length = 2 := ⟨asc_of (by decide +kernel), by decide⟩
        have a4 : Asc (Str.ofString "QQ") ∧ (Str.ofString "QQ").length = 2 := ⟨asc_of (by decide +kernel), by decide⟩
        refine ⟨_, _, rfl, int_has, _, _, rfl, rfl, a1.1, by rw [a1.2]; decide, by rw [a1.2]; omega, by rw [a1.2]; omega, fun c lc ac => ?_⟩
        refine ⟨_, _, rfl, rfl, a3.1, ac, by rw [a3.2]; decide, by omega, fun y6 ly6 ay6 => ?_⟩
        refine ⟨_, _, rfl, int_has, _, _, rfl, rfl, a2.1, by rw [a2.2]; decide, by rw [a2.2]; omega, by rw [a2.2]; omega, fun c2 lc2 ac2 => ?_⟩
        refine ⟨_, _, rfl, rfl, a4.1, ac2, by rw [a4.2]; decide, by omega, fun y7 ly7 ay7 => ?_⟩
        refine ⟨by simp, by simp, by simp, fun v3 H3 s3 h3 => hR v3 H3 ⟨z1.trans s3, by rw [List.length_append, z2]; rfl, gs2 ++ [(y6, .tg "tags" [y7])], ?_, by rw [List.length_append, z4]; rfl, fun k hk' => ?_⟩⟩
        · rw [List.map_append]
          exact HasL.append (z3.mono s3) (HasL.one h3)
        · rcases List.mem_append.mp hk' with h | h
          · exact z5 k h
          · rw [List.mem_singleton.mp h]
            refine ⟨⟨by show y6.length ≤ 20; rw [a3.2] at ly6; omega, ay6⟩, by simp, fun x hx' => ?_⟩
            rw [List.mem_singleton.mp hx']
            exact ⟨by rw [a4.2] at ly7; omega, ay7⟩
      · intro vs H' p z hp
        obtain ⟨z1, z2, gs2, z3, z4, z5⟩ := z
        have s6 := same_upd hp (.lst vs)
        have sx := (sj.trans z1).trans s6
        refine ⟨l, p, zs, vs, rfl, rfl, sx _ _ hz, upd_same, Nat.le_of_lt (small1000 (by omega)), fun p2 hp2 => ?_⟩
        have s7 := same_upd hp2 (.lst (zs ++ vs))
        refine hN _ _ ⟨p2, rfl, s05.trans (sx.trans s7), zs ++ vs, gs5 ++ gs2, upd_same, ?_, ?_, fun k hk' => ?_⟩
        · rw [List.map_append]
          exact HasL.append (hzl.mono (sx.trans s7)) ((z3.mono s6).mono s7)
        · have := hzl.length
          rw [List.length_map] at this
          rw [List.length_append]; omega
        · exact (List.mem_append.mp hk').elim (tx5 k) (z5 k)
    · exact iteM (by simp [hw]) (hN _ _ ⟨l, rfl, fd5⟩)
  case k8 =>
  rintro _ H6 ⟨l6, rfl, fd6⟩
  -- way 7
  refine seq_named C2 ?k9 ?m9
  case m9 =>
    intro N hN
    refine ⟨_, rfl, rfl, _, rfl, ?_⟩
    by_cases hw : way = 7
    · refine iteP (by simp [hw]) ?_
      refine ⟨by decide, _, _, rfl, int_has, _, _, rfl, rfl, (by show (0 : Int) < 4; decide), _, _, rfl, rfl, trivial, _, _, rfl, .inr ⟨rfl, by simp, by simp, by decide, by decide, by simp, fun v7 H7 s7 h7 => ?_⟩⟩
      have sd : SD [.str (Str.ofString "QA"), .str (Str.ofString "QB"), .str (Str.ofString "QC"), .str (Str.ofString "QD")] 4 := ⟨["QA", "QB", "QC", "QD"], rfl, fun x hx' => (qqs_tx x (by simp [qqs] at hx' ⊢; rcases hx' with h | h | h | h <;> simp [h])).1, by decide⟩
      obtain ⟨q7, eq7, tq7⟩ := (sd.cut none (some (1 + nr % 4))).tags (by decide) "tags"
      obtain ⟨n1, n2⟩ := mod_in (nr / 4) (n := 2) (by decide)
      obtain ⟨x8, e8⟩ : ∃ x8 : Str, atI [Dat.str (Str.ofString "qa"), .str (Str.ofString "qb")] (nr / 4 % ((2 : Nat) : Int)) = some (.str x8) := by
        obtain ⟨d, hd, e⟩ := atI_in (xs := [Dat.str (Str.ofString "qa"), .str (Str.ofString "qb")]) (i := nr / 4 % ((2 : Nat) : Int)) (by omega) (by exact n2)
        simp only [List.mem_cons, List.not_mem_nil, or_false] at hd
        rcases hd with rfl | rfl
        · exact ⟨_, e⟩
        · exact ⟨_, e⟩
      refine ⟨_, _, rfl, h7, by decide, _, _, rfl, int_has, _, _, rfl, rfl, cd (by decide) (by decide), _, _, rfl, rfl, (by show (0 : Int) < 2; decide), _, _, _, .inl rfl, rfl, e8, by simp, by simp, by decide, by decide, by simp, _, _, rfl, rfl, by simp, fun v8 H8 s8 h8 => ?_⟩
      have gl : GL [.tup [.str (Str.ofString "qa"), .tup [.str (Str.ofString "tags"), .tup (cutD [.str (Str.ofString "QA"), .str (Str.ofString "QB"), .str (Str.ofString "QC"), .str (Str.ofString "QD")] none (some (1 + nr % 4)))]], .tup [.str (Str.ofString "qb"), .tup [.str (Str.ofString "pair"), .str (Str.ofString "qa"), .str (Str.ofString "qa")]], .tup [.str (Str.ofString "qc"), .tup [.str (Str.ofString "pair"), .str x8, .str (Str.ofString "qb")]], .tup [.str (Str.ofString "qd"), .tup [.str (Str.ofString "pair"), .str (Str.ofString "qc"), .str (Str.ofString "qa")]]] 12 := by
        refine ⟨[("qa", q7), ("qb", .pr "pair" "qa" "qa"), ("qc", .pr "pair" x8 "qb"), ("qd", .pr "pair" "qc" "qa")], ?_, by simp, fun k hk' => ?_⟩
        · rw [← eq7]; rfl
        · simp only [List.mem_cons, List.not_mem_nil, or_false] at hk'
          rcases hk' with rfl | rfl | rfl | rfl
          · exact ⟨(tx_lit (by decide +kernel) : Tx (Str.ofString "qa")), tq7⟩
          · exact ⟨(tx_lit (by decide +kernel) : Tx (Str.ofString "qb")), trivial⟩
          · exact ⟨(tx_lit (by decide +kernel) : Tx (Str.ofString "qc")), trivial⟩
          · exact ⟨(tx_lit (by decide +kernel) : Tx (Str.ofString "qd")), trivial⟩
      refine ⟨by decide, _, _, rfl, h8, _, _, rfl, int_has, _, _, rfl, rfl, cd (by decide) (by decide), _, _, rfl, rfl, (by show (0 : Int) < 3; decide), _, _, rfl, rfl, trivial, _, _, rfl, .inl ⟨rfl, by simp, ?_⟩⟩
      refine ⟨_, _, rfl, int_has, _, _, rfl, rfl, cd (by decide) (by decide), _, _, rfl, rfl, (by show (0 : Int) < 4; decide), _, _, rfl, rfl, _, rfl, ?_⟩
      have c8 := gl.cut none (some (2 + nr / 8 % 3))
      have sA := (fd6.1.trans s7).trans s8
      have fin : ∀ (ds : List Dat), GL ds 12 → ∀ v H9, Same H8 H9 → Has H9 v (.lst ds) → N [some (.ref kl), some (.int nr), some (.int at'), some (.int way), some v] H9 := fun ds gl' v H9 s9 h9 => by
        obtain ⟨a, _, rfl, _, _⟩ := (show ∃ a xs, v = .ref a ∧ H9 a = some (.lst xs) ∧ HasL H9 xs ds by unfold Has at h9; exact h9)
        exact hN _ _ ⟨a, rfl, gl'.fd (sA.trans s9) h9⟩
      by_cases hb : (0 : Int) < nr / 24 % 4
      · refine ⟨_, _, _, .inl rfl, rfl, by rw [if_pos (decide_eq_true hb)]; rfl, fun v9 H9 s9 h9 => ?_⟩
        exact fin _ c8 v9 H9 s9 h9
      · refine ⟨_, _, _, .inl rfl, rfl, by rw [if_neg (by simpa using hb)]; rfl, fun v9 H9 s9 h9 => ?_⟩
        exact fin [] ⟨[], rfl, by decide, fun k hk' => by cases hk'⟩ v9 H9 s9 h9
    · exact iteM (by simp [hw]) (hN _ _ ⟨l6, rfl, fd6⟩)
  case k9 =>
  rintro _ H7 ⟨l7, rfl, fd7⟩
  exact ⟨_, rfl, q l7 H7 fd7⟩
end
end K4
namespace L2
open PySem
theorem for_enum {K : PySem.W.Frag} {tp : Bool} {a : Addr} {xs : List V} {g : TG} {tb : TS} {D : Ends} {σ : St} {H : Hp} (Pv : Nat → St → Hp → Prop) (h0 : Pv 0 σ H) (hl : ∀ i σ H, i ≤ xs.length → Pv i σ H → Sq K tp H a xs)
    (hs : ∀ i x σ H r, xs[i]? = some x → Pv i σ H → H r = none → g (.ref r) σ (upd H r (.tup [.int ((i : Nat) : Int), x])) fun σ2 H2 => tb { D with nx := Pv (i + 1), ct := Pv (i + 1), bk := D.nx } σ2 H2) (hd : ∀ σ H, Pv xs.length σ H → D.nx σ H) :
    ∃ W : Nat → Nat → St → Hp → Prop, (∃ m, W 0 m σ H) ∧ ∀ i m σ H, W i m σ H →
      ((Ite K tp a).stop i H ∧ D.nx σ H) ∨ ((Ite K tp a).go i H ∧ ∃ N : St → Hp → Prop, (∀ σ' H', N σ' H' → ∃ m', m' < m ∧ W (i + 1) m' σ' H') ∧ ∀ x H', (Ite K tp a).yld i H x H' → g x σ H' fun σ2 H2 => tb { D with nx := N, ct := N, bk := D.nx } σ2 H2) := by
  refine ⟨fun i m σ H => m = xs.length - i ∧ i ≤ xs.length ∧ Pv i σ H, ⟨xs.length, by simp, Nat.zero_le _, h0⟩, fun i m σ H z => ?_⟩
  obtain ⟨rfl, hi, p⟩ := z
  have q := hl i σ H hi p
  rcases Nat.lt_or_ge i xs.length with hlt | hge
  · refine .inr ⟨⟨xs, xs[i], q, List.getElem?_eq_getElem hlt⟩, Pv (i + 1), fun σ' H' p' => ⟨xs.length - (i + 1), by omega, rfl, hlt, p'⟩, fun x H' y => ?_⟩
    obtain ⟨r, x1, rfl, hr, rfl, hx⟩ := y
    exact hs i x1 σ H r (hx xs q) p hr
  · have e : i = xs.length := by omega
    exact .inl ⟨⟨xs, q, by omega⟩, by subst e; exact hd σ H p⟩
theorem key_at {ks : List (Str × Shp)} {kvs : List (Key × V)} (e : kvs.map (·.1) = ks.map (fun k => (Sum.inr k.1 : Key))) {i : Nat} {kv : Key × V} (h : kvs[i]? = some kv) : ∃ y s, ks[i]? = some (y, s) ∧ kv.1 = Sum.inr y := by
  have q := congrArg (fun l => l[i]?) e
  simp only [List.getElem?_map, h, Option.map_some] at q
  cases hk : ks[i]? with
  | none => rw [hk] at q; cases q
  | some k =>
    rw [hk] at q
    obtain ⟨y, s⟩ := k
    exact ⟨y, s, rfl, Option.some.inj q⟩
theorem key_len {ks : List (Str × Shp)} {kvs : List (Key × V)} (e : kvs.map (·.1) = ks.map (fun k => (Sum.inr k.1 : Key))) : kvs.length = ks.length := by
  have := congrArg List.length e
  rwa [List.length_map, List.length_map] at this
theorem shOf_nd {ks : List (Str × Shp)} (nd : (ks.map (·.1)).Nodup) {y : Str} {s : Shp} (h : (y, s) ∈ ks) : shOf ks y = some s := by
  induction ks with
  | nil => simp at h
  | cons k ks ih =>
    rw [List.map_cons, List.nodup_cons] at nd
    unfold shOf
    rw [List.find?_cons]
    rcases List.mem_cons.mp h with e | e
    · subst e; simp
    · have ne : ¬ k.1 = y := fun q => nd.1 (by rw [q]; exact List.mem_map.mpr ⟨_, e, rfl⟩)
      rw [decide_eq_false ne]
      exact ih nd.2 e
structure LD (H : Hp) (z : JS) (sh dp cn tg : Addr) (kvs : List (Key × V)) (tgs : List Str) : Prop where
  sh : H sh = some (.dK kvs)
  ke : kvs.map (·.1) = z.ks.map (fun k => Sum.inr k.1)
  sv : ∀ y s, shOf z.ks y = some s → ∃ v, valV kvs (Sum.inr y) = some v ∧ Has H v s.dat
  dp : ∃ kd, H dp = some (.dK kd) ∧ kd.length ≤ 2 * z.ks.length ∧ ∀ y ∈ z.nm, valV kd (Sum.inr y) = some (.int (z.d y : Nat))
  cn : ∃ kc, H cn = some (.dK kc) ∧ kc.length ≤ 2 * z.ks.length ∧ ∀ y ∈ z.nm, valV kc (Sum.inr y) = some (.int (z.c y : Nat))
  tg : H tg = some (.lst (tgs.map V.str))
  tm : ∀ x, x ∈ tgs ↔ tagKind z.ks x ≠ none
  tl : tgs.length ≤ 4 * z.ks.length
theorem LD.mono {H H' : Hp} {z : JS} {sh dp cn tg : Addr} {kvs : List (Key × V)} {tgs : List Str} (h : LD H z sh dp cn tg kvs tgs) (e : Same H H') : LD H' z sh dp cn tg kvs tgs := by
  obtain ⟨kd, d1, d2, d3⟩ := h.dp
  obtain ⟨kc, c1, c2, c3⟩ := h.cn
  exact ⟨e _ _ h.sh, h.ke, fun y s hs => let ⟨v, h1, h2⟩ := h.sv y s hs; ⟨v, h1, h2.mono e⟩, ⟨kd, e _ _ d1, d2, d3⟩, ⟨kc, e _ _ c1, c2, c3⟩, e _ _ h.tg, h.tm, h.tl⟩
def OkG (z : JS) (g : GS) : Prop := ∃ s, shp? g = some s ∧ OkS z s
theorem shp_beq (s : Shp) (a b : Str) : s.dat.beq (Shp.pair a b).dat = isPair a b s := by
  cases s with
  | tags ts =>
    unfold Shp.dat Dat.beq Dat.beqs Dat.beq isPair
    have : ((Str.ofString "tags") == (Str.ofString "pair")) = false := by decide +kernel
    rw [this]; rfl
  | pair c e =>
    unfold Shp.dat Dat.beq Dat.beqs Dat.beqs Dat.beqs Dat.beqs Dat.beq isPair
    simp
    by_cases h1 : c = a <;> by_cases h2 : e = b <;> simp [h1, h2]
theorem any_pair (ks : List (Str × Shp)) (a b : Str) : ((ks.map fun k => k.2.dat).any fun e => e.beq (GS.pr "pair" a b).dat) = (pairKind ks a b).isSome := by
  induction ks with
  | nil => rfl
  | cons k ks ih =>
    have e : (GS.pr "pair" a b).dat = (Shp.pair a b).dat := rfl
    rw [List.map_cons, List.any_cons, ih, e, shp_beq]
    unfold pairKind
    rw [List.find?_cons]
    cases isPair a b k.2 <;> simp
theorem shapes_comp {H : Hp} {z : JS} {sh dp cn tg : Addr} {kvs : List (Key × V)} {tgs : List Str} {Q : VK} (ld : LD H z sh dp cn tg kvs tgs) (nd : z.nm.Nodup) (l6 : z.ks.length ≤ 6) {x0 : Option V}
    (q : ∀ p xs H', Same H H' → H' p = some (.lst xs) → HasL H' xs (z.ks.map fun k => k.2.dat) → Q (.ref p) H') (o : Obj) :
    CompW (Itd sh o kvs) (gName 0) (tDGet (tVar 1) (tVar 0)) [x0, some (.ref sh)] (fun v H1 => ∃ H2, Thaw H H1 H2 ∧ Q v H2) (upd H sh (.frz o (.dK kvs))) := by
  have hf : upd H sh (.frz o (.dK kvs)) sh = some (.frz o (.dK kvs)) := upd_same
  have lk := key_len ld.ke
  have sb : ∀ b u, b ≠ sh → H b = some u → upd H sh (.frz o (.dK kvs)) b = some u := fun b u n e => by rw [upd_ne n]; exact e
  have tk : TL H (upd H sh (.frz o (.dK kvs))) := ⟨fun b xs h => sb _ _ (ne_of h ld.sh (by intro z; cases z)) h, fun b xs h => sb _ _ (ne_of h ld.sh (by intro z; cases z)) h⟩
  refine comp_form kvs.length (small1000 (by omega)) (fun i vs H' => Same (upd H sh (.frz o (.dK kvs))) H' ∧ i ≤ kvs.length ∧ HasL H' vs ((z.ks.take i).map fun k => k.2.dat)) ⟨Same.refl _, Nat.zero_le _, by rw [List.take_zero]; exact HasL.nil⟩ (fun i vs H' w => by rw [w.2.2.length, List.length_map, List.length_take]; have := w.2.1; omega) ?_ ?_ ?_ ?_
  · intro i vs H' hi w
    exact ⟨w.1 _ _ hf, hi⟩
  · intro vs H' w
    exact ⟨w.1 _ _ hf, rfl⟩
  · intro i vs H' x H'' R hi w yl hR
    obtain ⟨rfl, kv, hkv, rfl⟩ := yl
    obtain ⟨y, s, hks, ek⟩ := key_at ld.ke hkv
    have hs := shOf_nd nd (List.mem_of_getElem? hks)
    obtain ⟨v, hv1, hv2⟩ := ld.sv y s hs
    refine ⟨_, rfl, _, rfl, sh, v, rfl, .inl ⟨kvs, kv.1, .inr ⟨o, w.1 _ _ hf⟩, rfl, by rw [ek, hv1]⟩, hR _ _ ⟨w.1, by omega, ?_⟩⟩
    rw [take_snoc hks, List.map_append]
    exact HasL.append w.2.2 (HasL.one ((Has.tl tk _ hv2).mono w.1))
  · intro vs H' p w hp
    have s3 := same_upd hp (.lst vs)
    have hfp : upd H' p (.lst vs) sh = some (.frz o (.dK kvs)) := s3 _ _ (w.1 _ _ hf)
    have hpl : upd H' p (.lst vs) p = some (.lst vs) := upd_same
    have hw := w.2.2
    rw [lk, List.take_length] at hw
    have hw' := hw.mono s3
    have ss := w.1.trans s3
    generalize upd H' p (.lst vs) = H3 at hfp hpl hw' ss ⊢
    have tl3 : TL H3 (upd H3 sh (.dK kvs)) := ⟨fun b xs h => by rw [upd_ne (ne_of h hfp (by intro z; cases z))]; exact h, fun b xs h => by rw [upd_ne (ne_of h hfp (by intro z; cases z))]; exact h⟩
    refine ⟨upd H3 sh (.dK kvs), .inr ⟨sh, o, kvs, hfp, fun o' u' e => ?_, rfl⟩, q p vs _ (fun b u e => ?_) (tl3.2 _ _ hpl) (HasL.tl tl3 _ hw')⟩
    · rw [ld.sh] at e; cases e
    · by_cases n : b = sh
      · subst n; rw [upd_same]; rw [ld.sh] at e; exact e
      · rw [upd_ne n]; exact ss b u (sb b u n e)
end L2
namespace K4
open PySem L2
section
variable {P : Program} {w : World} {K : PySem.W.Frag} {mg : Str → Option Value} {base : Heap} {f g : Addr} {fd gd : FuncData}
def spShR : Sp := fun vs H Q _ => ∃ (sh dp cn tg : Addr) (v : V) (z : JS) (kvs : List (Key × V)) (tgs : List Str) (g : GS), vs = [.ref sh, .ref dp, .ref cn, .ref tg, v] ∧ LD H z sh dp cn tg kvs tgs ∧ JOk z ∧ z.ks.length ≤ 6 ∧ Has H v g.dat ∧ g.tx ∧
  (OkG z g → ∀ H', Same H H' → Q (.bl true) H') ∧ (¬ OkG z g → ∀ H', Same H H' → Q (.bl false) H')
theorem scShR : FnScope ["shapes", "depths", "counts", "tags", "shape", "k", "tag"] ["shapes", "depths", "counts", "tags", "shape"] (defScope sShapeR) := ⟨rfl, rfl, rfl, by decide +kernel, rfl, by decide +kernel, by decide +kernel⟩
theorem nd_nsh : List.Nodup [("name" : Str), "shapes"] := by decide +kernel
theorem ok_shapeR {n : Nat} (B : Blt mg) (me : mg "enumerate" = none) (F : Fun K "_law_shape_right" "_law_shape_right" sShapeR f fd) (G : FnOk P w K mg base CX0 (n + 6) g gd ["text", "letters"] spSpelt) (bG : Binds K gd ["text", "letters"] []) (kG : PySem.W.keepIn K (.ref g) = true) (mG : mg "_law_word" = some (.ref g)) :
    FnOk P w K mg base CX0 (n + 6 + 1) f fd ["shapes", "depths", "counts", "tags", "shape"] spShR := by
  refine F.ok scShR (fun vs H Q E h => ?_) (fun cdv A outer s H vs Q E hr h => ?_)
  · obtain ⟨sh, dp, cn, tg, v, z, kvs, tgs, g, rfl, _⟩ := h
    rfl
  obtain ⟨sh, dp, cn, tg, v, z, kvs, tgs, g, rfl, ld, jo, l6, hv, tx, qt, qf⟩ := h
  have hu := hu_of hr
  refine ⟨_, pss_cons (ps_if (PW.pt (pw_and (pt_cmpR op_eq (pe_callB call_len_seq rfl B.len PySem.boot_len (pa_cons (pv 4) pa_nil)) pe_int (nomark _)) (pw_and1 (pt_cmpR op_eq (pe_ix ix_tup (pv 4) pe_int (fun _ _ => rfl)) pe_str (nomark _)))))
      (pss_cons (ps_if (PW.pt (pw_or (pt_cmp (pc_dnotin hu (pe_ix ix_tup (pv 4) pe_int (fun _ _ => rfl)) (pv 0))) (pw_or (pt_cmp (pc_dnotin hu (pe_ix ix_tup (pv 4) pe_int (fun _ _ => rfl)) (pv 0))) (pw_or1 (pt_cmpR (op_in_dat hr) (pv 4) (pe_thaw (pe_cmpr ["name"] [0] (pi_dict (pv 0)) (gk_name (i := 0) (by decide)) (fun cl C fp s H => pg_name (i := 0) nd_nsh rfl (Or.inl rfl) (Or.inr rfl)) (fun cl C fp s H => pe_dget hu (pv 1) (pv 0) (fun _ _ => rfl)))) rfl)))))
          (pss_one (ps_ret pe_bl)) pss_nil)
        (pss_one (ps_ret (pe_and (pe_cmpR op_lt (pe_dget hu (pv 1) (pe_ix ix_tup (pv 4) pe_int (fun _ _ => rfl)) (fun _ _ => rfl)) pe_int (nomark _)) (pe_and (pe_cmpR op_lt (pe_dget hu (pv 1) (pe_ix ix_tup (pv 4) pe_int (fun _ _ => rfl)) (fun _ _ => rfl)) pe_int (nomark _)) (pe_one (pe_cmpR op_lt (pe_op op_mul (pe_dget hu (pv 2) (pe_ix ix_tup (pv 4) pe_int (fun _ _ => rfl)) (fun _ _ => rfl)) (pe_dget hu (pv 2) (pe_ix ix_tup (pv 4) pe_int (fun _ _ => rfl)) (fun _ _ => rfl))) pe_int (nomark _)))))))) pss_nil)
    (pss_cons (ps_if (PW.pt (pw_or (pt_cmpR op_ne (pe_callB call_len_seq rfl B.len PySem.boot_len (pa_cons (pv 4) pa_nil)) pe_int (nomark _)) (pw_or (pt_cmpR op_ne (pe_ix ix_tup (pv 4) pe_int (fun _ _ => rfl)) pe_str (nomark _)) (pw_or (pt_not (pt_val (pe_isi rfl B.isi rfl B.tuple boot_tuple' (pe_ix ix_tup (pv 4) pe_int (fun _ _ => rfl))))) (pw_or1 (pt_not (pt_chain op_le op_le pe_int (pe_callB call_len_seq rfl B.len PySem.boot_len (pa_cons (pe_ix ix_tup (pv 4) pe_int (fun _ _ => rfl)) pa_nil)) pe_int)))))))
        (pss_one (ps_ret pe_bl)) pss_nil)
    (pss_cons (ps_for PassesOwn.never rfl (pi_enum rfl me (pa_cons (pe_ix ix_tup (pv 4) pe_int (fun _ _ => rfl)) pa_nil)) (pg_tup (n := 2) rfl (pgs_cons (pg_name (i := 5) scShR.nd rfl (Or.inl rfl)) (pgs_cons (pg_name (i := 6) scShR.nd rfl (Or.inl rfl)) pgs_nil)))
        (pss_one (ps_if (PW.pt (pw_or (pt_not (pt_val (pe_call G hr rfl mG kG bG .nil pass0 (pa_cons (pv 6) (pa_cons pe_str pa_nil))))) (pw_or (pt_cmpR op_in_seq (pv 6) (pv 3) rfl) (pw_or1 (pt_cmpR op_in_seq (pv 6) (pe_slice sl_tupA (pe_ix ix_tup (pv 4) pe_int (fun _ _ => rfl)) po_none (po_some (pv 5))) rfl))))) (pss_one (ps_ret pe_bl)) pss_nil)))
    (pss_one (ps_ret pe_bl)))), ?_⟩
  dsimp only [cxOf, Cx.nox, Cx.wish]
  cases g with
  | pr w' a b =>
    obtain ⟨p, rfl, hp⟩ := has_gpr hv
    refine ⟨_, rfl, p, _, rfl, .inr (SqT.of hp), rfl, _, rfl, ?_⟩
    refine iteP (by simp) ?_
    refine ⟨_, rfl, p, _, 0, _, rfl, rfl, SqT.of hp, rfl, rfl, _, rfl, ?_⟩
    by_cases ew : w' = "pair"
    case neg =>
      refine iteM (by simp [ew]) ?_
      refine ⟨_, rfl, p, _, rfl, .inr (SqT.of hp), rfl, _, rfl, ?_⟩
      refine iteP (by simp) ?_
      refine iteP rfl ?_
      exact qf (fun ⟨s, h1, _⟩ => by rw [shp_pr, if_neg ew] at h1; cases h1) _ (Same.refl _)
    subst ew
    refine iteP (by simp) ?_
    have no : ¬ OkP z a b → ∀ H', Same H H' → Q (.bl false) H' := fun h => qf fun ⟨s, h1, h2⟩ => by
      rw [shp_pr, if_pos rfl] at h1
      cases h1
      exact h h2
    have ga : DGet H sh (.str a) (valV kvs (Sum.inr a)) := DGet.k (k := Sum.inr a) ld.sh
    have gb : DGet H sh (.str b) (valV kvs (Sum.inr b)) := DGet.k (k := Sum.inr b) ld.sh
    have vi := val_is ld.ke fun y s h => let ⟨v, h1, _⟩ := ld.sv y s h; ⟨v, h1⟩
    refine ⟨_, rfl, p, _, 1, _, rfl, rfl, SqT.of hp, rfl, _, rfl, _, _, rfl, ga, _, rfl, ?_⟩
    rw [vi a]
    by_cases ma : a ∈ z.ks.map (·.1)
    case neg =>
      refine iteP (by simp [ma]) ?_
      refine iteP (by simp [ma]) ?_
      exact no (fun h => ma h.ia) _ (Same.refl _)
    refine iteM (by simp [ma]) ?_
    refine ⟨_, rfl, p, _, 2, _, rfl, rfl, SqT.of hp, rfl, _, rfl, _, _, rfl, gb, _, rfl, ?_⟩
    rw [vi b]
    by_cases mb : b ∈ z.ks.map (·.1)
    case neg =>
      refine iteP (by simp [mb]) ?_
      refine iteP (by simp [mb]) ?_
      exact no (fun h => mb h.ib) _ (Same.refl _)
    refine iteM (by simp [mb]) ?_
    refine ⟨_, rfl, _, rfl, sh, kvs, rfl, ld.sh, fun o => ?_⟩
    refine shapes_comp ld jo.nd l6 (fun pl xs H1 s1 hpl hxs => ?_) o
    have hv1 := hv.mono s1
    have st : Dat.sts (z.ks.map fun k => k.2.dat) = true ∧ Dat.deps (z.ks.map fun k => k.2.dat) ≤ 4 := by
      have e : (z.ks.map fun k => k.2.dat) = (z.ks.map (·.2)).map Shp.dat := by rw [List.map_map]; rfl
      rw [e]
      exact ⟨shps_sts _, Nat.le_trans (shps_deps _) (by decide)⟩
    refine ⟨pl, xs, _, _, rfl, SqL.of hpl, hxs, hv1, st.1, GS.st _, st.2, _, rfl, ?_⟩
    rw [any_pair]
    cases epk : pairKind z.ks a b with
    | some k =>
      refine iteP (by simp) ?_
      exact no (fun h => by have := h.nw; rw [epk] at this; cases this) _ s1
    | none =>
    refine iteM (by simp) ?_
    have hp1 := s1 _ _ hp
    obtain ⟨kd, d1, d2, d3⟩ := (ld.mono s1).dp
    obtain ⟨kc, c1, c2, c3⟩ := (ld.mono s1).cn
    have gda : DGet H1 dp (.str a) (some (.int (z.d a : Nat))) := by rw [← d3 a ma]; exact DGet.k (k := Sum.inr a) d1
    have gdb : DGet H1 dp (.str b) (some (.int (z.d b : Nat))) := by rw [← d3 b mb]; exact DGet.k (k := Sum.inr b) d1
    have gca : DGet H1 cn (.str a) (some (.int (z.c a : Nat))) := by rw [← c3 a ma]; exact DGet.k (k := Sum.inr a) c1
    have gcb : DGet H1 cn (.str b) (some (.int (z.c b : Nat))) := by rw [← c3 b mb]; exact DGet.k (k := Sum.inr b) c1
    refine ⟨_, rfl, _, rfl, p, _, 1, _, rfl, rfl, SqT.of hp1, rfl, dp, _, rfl, gda, _, _, rfl, rfl, _, rfl, ?_⟩
    by_cases da : z.d a < 2
    case neg =>
      refine iteM (by simp; omega) ?_
      have e2 : decide ((z.d a : Int) < 2) = false := by simp; omega
      exact no (fun h => da h.da) _ s1
    refine iteP (by simp; omega) ?_
    refine ⟨_, rfl, _, rfl, p, _, 2, _, rfl, rfl, SqT.of hp1, rfl, dp, _, rfl, gdb, _, _, rfl, rfl, _, rfl, ?_⟩
    by_cases db : z.d b < 2
    case neg =>
      refine iteM (by simp; omega) ?_
      exact no (fun h => db h.db) _ s1
    refine iteP (by simp; omega) ?_
    have la := (jo.le ma).2
    have lb := (jo.le mb).2
    refine ⟨_, rfl, _, rfl, p, _, 1, _, rfl, rfl, SqT.of hp1, rfl, cn, _, rfl, gca, _, rfl, _, rfl, p, _, 2, _, rfl, rfl, SqT.of hp1, rfl, cn, _, rfl, gcb, _, _, rfl, rfl, .inl ⟨by omega, by omega⟩, _, _, rfl, rfl, ?_⟩
    have em : ((z.c a : Int) * (z.c b : Int)) = ((z.c a * z.c b : Nat) : Int) := by push_cast; rfl
    dsimp only
    rw [em]
    by_cases cc : z.c a * z.c b < 30
    · have e : decide (((z.c a * z.c b : Nat) : Int) < 30) = true := by simp; omega
      rw [e]
      exact qt ⟨.pair a b, by rw [shp_pr, if_pos rfl], ma, mb, epk, da, db, cc⟩ _ s1
    · have e : decide (((z.c a * z.c b : Nat) : Int) < 30) = false := by simp; omega
      rw [e]
      exact no (fun h => cc h.cc) _ s1
  | tg w' ts =>
    obtain ⟨p, l, rfl, hp, hl⟩ := has_gtg hv
    refine ⟨_, rfl, p, _, rfl, .inr (SqT.of hp), rfl, _, rfl, ?_⟩
    refine iteM (by simp) ?_
    refine iteM (by simp) ?_
    refine ⟨_, rfl, p, _, rfl, .inr (SqT.of hp), rfl, _, rfl, ?_⟩
    refine iteM (by simp) ?_
    refine ⟨_, rfl, p, _, 0, _, rfl, rfl, SqT.of hp, rfl, rfl, _, rfl, ?_⟩
    by_cases ew : w' = "tags"
    case neg =>
      refine iteP (by simp [ew]) ?_
      refine iteP (by simp [ew]) ?_
      exact qf (fun ⟨s, h1, _⟩ => by rw [shp_tg, if_neg ew] at h1; cases h1) _ (Same.refl _)
    subst ew
    refine iteM (by simp) ?_
    have no : ¬ OkT z.ks ts → ∀ H', Same H H' → Q (.bl false) H' := fun h => qf fun ⟨s, h1, h2⟩ => by
      rw [shp_tg, if_pos rfl] at h1
      cases h1
      exact h h2
    refine ⟨_, rfl, p, _, 1, _, rfl, rfl, SqT.of hp, rfl, _, _, _, _, rfl, .tup hl, kit_same K "tuple", _, rfl, ?_⟩
    refine iteM (by simp) ?_
    have lt : (ts.map V.str).length = ts.length := List.length_map _
    refine ⟨_, rfl, p, _, 1, _, rfl, rfl, SqT.of hp, rfl, l, _, rfl, .inr (SqT.of hl), _, _, rfl, rfl, _, rfl, ?_⟩
    by_cases l1 : 1 ≤ ts.length
    case neg =>
      refine iteM (by simp; omega) ?_
      refine ⟨_, rfl, iteP rfl ?_⟩
      exact no (fun h => l1 h.l1) _ (Same.refl _)
    refine iteP (by simp; omega) ?_
    refine ⟨_, _, rfl, rfl, _, rfl, ?_⟩
    by_cases l4 : ts.length ≤ 4
    case neg =>
      refine iteP (by simp; omega) ?_
      exact no (fun h => l4 h.l4) _ (Same.refl _)
    refine iteM (by simp; omega) ?_
    refine ⟨_, rfl, p, _, 1, _, rfl, rfl, SqT.of hp, rfl, l, true, _, rfl, SqT.of hl, ?_⟩
    refine for_enum (tp := true) (xs := ts.map V.str) (fun i σ H' => Same H H' ∧ (ts.take i).Nodup ∧ (∀ x ∈ ts.take i, wordB 65 x = true ∧ tagKind z.ks x = none) ∧ ∃ z5 z6, σ = [some (.ref sh), some (.ref dp), some (.ref cn), some (.ref tg), some (.ref p), z5, z6]) ⟨Same.refl _, by simp, fun x hx => by simp at hx, _, _, rfl⟩ (fun i σ H' _ z => SqT.of (z.1 _ _ hl)) ?_ ?_
    · rintro i v σ H' r hv' ⟨sj, ndi, wdi, z5, z6, rfl⟩ hr'
      rw [List.getElem?_map] at hv'
      cases hx : ts[i]? with
      | none => rw [hx] at hv'; cases hv'
      | some x =>
        rw [hx] at hv'
        cases hv'
        have mx : x ∈ ts := List.mem_of_getElem? hx
        have ilt := (List.getElem?_eq_some_iff.mp hx).1
        have tx' := tx.2 x mx
        have s1 := sj.trans (same_upd hr' (.tup [.int ((i : Nat) : Int), .str x]))
        have hrr : upd H' r (.tup [.int ((i : Nat) : Int), .str x]) r = some (.tup [.int ((i : Nat) : Int), .str x]) := upd_same
        generalize upd H' r (.tup [.int ((i : Nat) : Int), .str x]) = H1 at s1 hrr ⊢
        refine ⟨r, _, rfl, SqT.of hrr, rfl, _, _, rfl, _, _, rfl, rfl, ?_⟩
        refine ⟨_, rfl, x, 65, by rw [← great_abc]; rfl, tx'.len, fun H2 s2 => ⟨_, rfl, ?_⟩⟩
        have s02 := s1.trans s2
        cases hw : wordB 65 x with
        | false =>
          refine iteP (by simp) ?_
          refine iteP (by simp) ?_
          exact no (fun o => by have := o.wd x mx; rw [hw] at this; cases this) _ s02
        | true =>
        refine iteM (by simp) ?_
        refine ⟨_, rfl, _, rfl, tg, _, rfl, .inl (SqL.of (s02 _ _ ld.tg)), rfl, flat_strs _, _, rfl, ?_⟩
        rw [if_neg (by simp), inV_strs]
        by_cases mt : x ∈ tgs
        case pos =>
          refine iteP (by simp [mt]) ?_
          refine iteP (by simp [mt]) ?_
          exact no (fun o => (ld.tm x).mp mt (o.nw x mx)) _ s02
        refine iteM (by simp [mt]) ?_
        have hl2 := s02 _ _ hl
        have ecut : cutV (ts.map V.str) none (some ((i : Nat) : Int)) = (ts.take i).map V.str := by rw [cut_take _ _ (by omega), List.map_take]
        refine ⟨_, rfl, _, rfl, p, _, 1, _, rfl, rfl, SqT.of (s02 _ _ hp), rfl, _, rfl, _, rfl, l, _, rfl, hl2, fun hw' => ?_, fun q' hq' => ?_⟩
        · exfalso
          have e2 := hw'.2
          rw [HT.sIx_nat, lt] at e2
          omega
        · have s3 := same_upd hq' (.tup (cutV (ts.map V.str) none (some ((i : Nat) : Int))))
          refine ⟨q', _, rfl, .inr (SqT.of upd_same), rfl, by rw [ecut]; exact flat_strs _, _, rfl, ?_⟩
          rw [ecut] at s3
          rw [if_neg (by simp), ecut, inV_strs]
          by_cases mi : x ∈ ts.take i
          · refine iteP (by simp [mi]) ?_
            exact no (fun o => take_nd o.nd hx mi) _ (s02.trans s3)
          · refine iteM (by simp [mi]) ?_
            refine ⟨s02.trans s3, nd_snoc2 hx ndi mi, fun x' hx' => ?_, _, _, rfl⟩
            rcases (mem_take_succ hx).mp hx' with h | rfl
            · exact wdi x' h
            · refine ⟨hw, ?_⟩
              cases et : tagKind z.ks x' with
              | none => rfl
              | some y => exact absurd ((ld.tm x').mpr (by rw [et]; simp)) mt
    · rintro σ H' ⟨sj, ndi, wdi, z5, z6, rfl⟩
      rw [List.take_of_length_le (by omega)] at ndi wdi
      exact qt ⟨.tags ts, by rw [shp_tg, if_pos rfl], l1, l4, fun x hx => (wdi x hx).1, ndi, fun x hx => (wdi x hx).2⟩ _ sj
end
end K4
namespace L2
open PySem
theorem tagKind_snoc (ks : List (Str × Shp)) (y : Str) (s : Shp) (x : Str) : tagKind (ks ++ [(y, s)]) x = (tagKind ks x).or (if hasTag x s = true then some y else none) := by
  unfold tagKind
  rw [find_snoc]
  cases ks.find? fun k => hasTag x k.2 with
  | some k => rfl
  | none =>
    show Option.map _ (if hasTag x s = true then some (y, s) else none) = _
    cases hasTag x s <;> rfl
def tsOf : Shp → List Str
  | .tags ts => ts
  | .pair _ _ => []
theorem hasTag_ts (x : Str) (s : Shp) : hasTag x s = true ↔ x ∈ tsOf s := by
  cases s with
  | tags ts => unfold hasTag tsOf; simp
  | pair a b => unfold hasTag tsOf; simp
theorem LD.step {H H' : Hp} {z : JS} {sh dp cn tg tg' : Addr} {kvs kd kc kd' kc' : List (Key × V)} {tgs : List Str} {y : Str} {g : GS} {s : Shp} {v : V} (ld : LD H z sh dp cn tg kvs tgs) (st : StepOk z y g s) (tl : TL H H') (hv : Has H v g.dat)
    (h1 : H' sh = some (.dK (putK kvs (Sum.inr y) v))) (d0 : H dp = some (.dK kd)) (d1 : H' dp = some (.dK kd')) (d2 : kd'.length ≤ kd.length + 2) (d3 : ∀ t : Str, valV kd' (Sum.inr t) = if t = y then some (.int (dN z s : Nat)) else valV kd (Sum.inr t))
    (c0 : H cn = some (.dK kc)) (c1 : H' cn = some (.dK kc')) (c2 : kc'.length ≤ kc.length + 2) (c3 : ∀ t : Str, valV kc' (Sum.inr t) = if t = y then some (.int (cN z s : Nat)) else valV kc (Sum.inr t))
    (h4 : H' tg' = some (.lst ((tgs ++ tsOf s).map V.str))) (lt : (tsOf s).length ≤ 4) : LD H' (z.new y s) sh dp cn tg' (putK kvs (Sum.inr y) v) (tgs ++ tsOf s) := by
  obtain ⟨kd0, e1, e2, e3⟩ := ld.dp
  rw [d0] at e1
  cases e1
  obtain ⟨kc0, f1, f2, f3⟩ := ld.cn
  rw [c0] at f1
  cases f1
  have ln : (z.new y s).ks.length = z.ks.length + 1 := by unfold JS.new; rw [List.length_append]; rfl
  have vn := val_none ld.ke st.nw
  have mem : ∀ t, t ∈ (z.new y s).nm → t ≠ y → t ∈ z.nm := fun t ht n => by
    rw [new_nm, List.mem_append, List.mem_singleton] at ht
    exact ht.resolve_right n
  refine ⟨h1, ?_, fun t s' ht => ?_, ⟨kd', d1, by omega, fun t ht => ?_⟩, ⟨kc', c1, by omega, fun t ht => ?_⟩, h4, fun x => ?_, ?_⟩
  · rw [putK_new v vn, List.map_append, ld.ke]
    unfold JS.new
    rw [List.map_append]; rfl
  · rw [valV_put]
    by_cases e : t = y
    · subst e
      rw [show (z.new t s).ks = z.ks ++ [(t, s)] from rfl, shOf_new st.nw] at ht
      cases ht
      rw [if_pos rfl]
      exact ⟨v, rfl, by rw [← shp_dat st.sh]; exact Has.tl tl _ hv⟩
    · rw [if_neg fun q => e (Sum.inr.inj q)]
      have ht' := mem_snoc_ne (List.mem_map.mpr ⟨_, shOf_mem ht, rfl⟩) e
      rw [show (z.new y s).ks = z.ks ++ [(y, s)] from rfl, shOf_snoc ht'] at ht
      obtain ⟨v', g1, g2⟩ := ld.sv t s' ht
      exact ⟨v', g1, Has.tl tl _ g2⟩
  · rw [d3 t]
    by_cases e : t = y
    · rw [if_pos e]; show _ = some (V.int ((if t = y then dN z s else z.d t : Nat) : Int)); rw [if_pos e]
    · rw [if_neg e, e3 t (mem t ht e)]; show _ = some (V.int ((if t = y then dN z s else z.d t : Nat) : Int)); rw [if_neg e]
  · rw [c3 t]
    by_cases e : t = y
    · rw [if_pos e]; show _ = some (V.int ((if t = y then cN z s else z.c t : Nat) : Int)); rw [if_pos e]
    · rw [if_neg e, f3 t (mem t ht e)]; show _ = some (V.int ((if t = y then cN z s else z.c t : Nat) : Int)); rw [if_neg e]
  · rw [show (z.new y s).ks = z.ks ++ [(y, s)] from rfl, tagKind_snoc, List.mem_append, ld.tm x, ← hasTag_ts]
    cases tagKind z.ks x with
    | some k => simp
    | none => cases hasTag x s <;> simp
  · have := ld.tl
    rw [List.length_append]; omega
theorem shp_inv {g : GS} {s : Shp} (e : shp? g = some s) : (∃ ts, g = .tg "tags" ts ∧ s = .tags ts) ∨ ∃ a b, g = .pr "pair" a b ∧ s = .pair a b := by
  cases g with
  | tg w ts =>
    rw [shp_tg] at e
    by_cases h : w = "tags"
    · rw [if_pos h] at e; cases e; subst h; exact .inl ⟨ts, rfl, rfl⟩
    · rw [if_neg h] at e; cases e
  | pr w a b =>
    rw [shp_pr] at e
    by_cases h : w = "pair"
    · rw [if_pos h] at e; cases e; subst h; exact .inr ⟨a, b, rfl, rfl⟩
    · rw [if_neg h] at e; cases e
theorem tl_put {H : Hp} {a : Addr} {l : List (Key × V)} (h : H a = some (.dK l)) (o : HO) : TL H (upd H a o) := ⟨fun b xs e => by rw [upd_ne (ne_of e h (by intro z; cases z))]; exact e, fun b xs e => by rw [upd_ne (ne_of e h (by intro z; cases z))]; exact e⟩
end L2
namespace K4
open PySem L2
section
variable {P : Program} {w : World} {K : PySem.W.Frag} {mg : Str → Option Value} {base : Heap} {f g h : Addr} {fd gd hd : FuncData}
def spGood : Sp := fun vs H Q _ => ∃ (kl : Addr) (xs : List V) (gs : List (Str × GS)), vs = [.ref kl] ∧ H kl = some (.lst xs) ∧ HasL H xs (gs.map gD) ∧ gs.length ≤ 20 ∧ (∀ k ∈ gs, Tx k.1 ∧ k.2.tx) ∧
  (GoodAll gs → ∀ H', Same H H' → Q (.bl true) H') ∧ (¬ GoodAll gs → ∀ H', Same H H' → Q (.bl false) H')
theorem scGood : FnScope ["kinds", "shapes", "depths", "counts", "tags", "name", "shape"] ["kinds"] (defScope sGood) := ⟨rfl, rfl, rfl, by decide +kernel, rfl, by decide +kernel, by decide +kernel⟩
theorem ok_good {n : Nat} (B : Blt mg) (F : Fun K "_law_good" "_law_good" sGood f fd) (G : FnOk P w K mg base CX0 n g gd ["text", "letters"] spSpelt) (bG : Binds K gd ["text", "letters"] []) (kG : PySem.W.keepIn K (.ref g) = true) (mG : mg "_law_word" = some (.ref g))
    (GS : FnOk P w K mg base CX0 n h hd ["shapes", "depths", "counts", "tags", "shape"] spShR) (bS : Binds K hd ["shapes", "depths", "counts", "tags", "shape"] []) (kS : PySem.W.keepIn K (.ref h) = true) (mS : mg "_law_shape_right" = some (.ref h)) :
    FnOk P w K mg base CX0 (n + 1) f fd ["kinds"] spGood := by
  refine F.ok scGood (fun vs H Q E h => ?_) (fun cdv A outer s H vs Q E hr h => ?_)
  · obtain ⟨kl, xs, gs, rfl, _⟩ := h
    rfl
  obtain ⟨kl, xs, gs, rfl, hk, hx, l20, tx, qt, qf⟩ := h
  have hu := hu_of hr
  refine ⟨_, pss_cons (ps_set (i := 1) scGood.nd rfl (Or.inl rfl) pe_dnewK) (pss_cons (ps_set (i := 2) scGood.nd rfl (Or.inl rfl) pe_dnewK) (pss_cons (ps_set (i := 3) scGood.nd rfl (Or.inl rfl) pe_dnewK)
    (pss_cons (ps_set (i := 4) scGood.nd rfl (Or.inl rfl) (pe_lst pa_nil))
    (pss_cons (ps_if (pt_not (pt_chain op_le op_le pe_int (pe_callB call_len_seq rfl B.len PySem.boot_len (pa_cons (pv 0) pa_nil)) pe_int)) (pss_one (ps_ret pe_bl)) pss_nil)
    (pss_cons (ps_for PassesOwn.never rfl (pi_list (pv 0)) (pg_tup (n := 2) rfl (pgs_cons (pg_name (i := 5) scGood.nd rfl (Or.inl rfl)) (pgs_cons (pg_name (i := 6) scGood.nd rfl (Or.inl rfl)) pgs_nil)))
      (pss_cons (ps_if (PW.pt (pw_or (pt_not (pt_val (pe_call G hr rfl mG kG bG .nil pass0 (pa_cons (pv 5) (pa_cons pe_str pa_nil))))) (pw_or1 (pt_cmp (pc_din hu (pv 5) (pv 1)))))) (pss_one (ps_ret pe_bl)) pss_nil)
      (pss_cons (ps_if (pt_not (pt_val (pe_call GS hr rfl mS kS bS .nil pass0 (pa_cons (pv 1) (pa_cons (pv 2) (pa_cons (pv 3) (pa_cons (pv 4) (pa_cons (pv 6) pa_nil)))))))) (pss_one (ps_ret pe_bl)) pss_nil)
      (pss_cons (ps_dput hu (pv 1) (pv 5) (pv 6) rfl)
      (pss_cons (ps_dput hu (pv 2) (pv 5) pe_int rfl)
      (pss_cons (ps_dput hu (pv 3) (pv 5) (pe_op op_add pe_int (pe_callB call_len rfl B.len PySem.boot_len (pa_cons (pe_ix ix_tup (pv 6) pe_int (fun _ _ => rfl)) pa_nil))) rfl)
      (pss_one (ps_if (pt_cmpR op_eq (pe_ix ix_tup (pv 6) pe_int (fun _ _ => rfl)) pe_str (nomark _))
        (pss_cons (ps_dput hu (pv 2) (pv 5) (pe_op op_add pe_int (pe_callB (call_max2 rfl) rfl B.max boot_max' (pa_cons (pe_dget hu (pv 2) (pe_ix ix_tup (pv 6) pe_int (fun _ _ => rfl)) (fun _ _ => rfl)) (pa_cons (pe_dget hu (pv 2) (pe_ix ix_tup (pv 6) pe_int (fun _ _ => rfl)) (fun _ _ => rfl)) pa_nil)))) rfl)
        (pss_one (ps_dput hu (pv 3) (pv 5) (pe_op op_add pe_int (pe_op op_mul (pe_dget hu (pv 3) (pe_ix ix_tup (pv 6) pe_int (fun _ _ => rfl)) (fun _ _ => rfl)) (pe_dget hu (pv 3) (pe_ix ix_tup (pv 6) pe_int (fun _ _ => rfl)) (fun _ _ => rfl)))) rfl)))
        (pss_one (ps_set (i := 4) scGood.nd rfl (Or.inl rfl) (pe_op op_cat (pv 4) (pe_callTy call_list_of rfl B.list boot_list' (pa_cons (pe_ix ix_tup (pv 6) pe_int (fun _ _ => rfl)) pa_nil)))))))))))))
    (pss_one (ps_ret pe_bl))))))), ?_⟩
  dsimp only [cxOf, Cx.nox, Cx.wish]
  have lx := hx.length
  rw [List.length_map] at lx
  intro sh fsh dp fdp cn fcn
  refine ⟨by decide, fun tg ftg => ?_⟩
  have s1 := same_upd fsh (.dK [])
  have s2 := same_upd fdp (.dK [])
  have s3 := same_upd fcn (.dK [])
  have s4 := same_upd ftg (.lst [])
  have a1 := s4 _ _ (s3 _ _ (s2 _ _ (show upd H sh (.dK []) sh = some (.dK []) from upd_same)))
  have a2 := s4 _ _ (s3 _ _ (show upd (upd H sh (.dK [])) dp (.dK []) dp = some (.dK []) from upd_same))
  have a3 := s4 _ _ (show upd (upd (upd H sh (.dK [])) dp (.dK [])) cn (.dK []) cn = some (.dK []) from upd_same)
  have a4 : upd (upd (upd (upd H sh (.dK [])) dp (.dK [])) cn (.dK [])) tg (.lst []) tg = some (.lst []) := upd_same
  have n12 : sh ≠ dp := ne_of_none (show upd H sh (.dK []) sh = some (.dK []) from upd_same) fdp
  have n13 : sh ≠ cn := ne_of_none (s2 _ _ (show upd H sh (.dK []) sh = some (.dK []) from upd_same)) fcn
  have n23 : dp ≠ cn := ne_of_none (show upd (upd H sh (.dK [])) dp (.dK []) dp = some (.dK []) from upd_same) fcn
  have f2 : H dp = none := s1.free fdp
  have f3 : H cn = none := (s1.trans s2).free fcn
  have sA := ((s1.trans s2).trans s3).trans s4
  generalize upd (upd (upd (upd H sh (.dK [])) dp (.dK [])) cn (.dK [])) tg (.lst []) = H0 at a1 a2 a3 a4 sA ⊢
  have hk0 := sA _ _ hk
  refine ⟨_, rfl, kl, _, rfl, .inl (SqL.of hk0), _, _, rfl, rfl, _, rfl, ?_⟩
  by_cases k0 : 1 ≤ gs.length
  case neg =>
    refine iteM (by simp; omega) ?_
    refine ⟨_, rfl, ?_⟩
    exact qf (fun h => k0 h.1) _ sA
  refine iteP (by simp; omega) ?_
  refine ⟨_, _, rfl, rfl, _, rfl, ?_⟩
  by_cases k6 : gs.length ≤ 6
  case neg =>
    refine iteP (by simp; omega) ?_
    exact qf (fun h => k6 h.2.1) _ sA
  refine iteM (by simp; omega) ?_
  refine ⟨_, rfl, kl, rfl, ⟨_, SqL.of hk0⟩, ?_⟩
  refine for_list (xs := xs) (fun i σ H' => ∃ z tg' kvs tgs z5 z6, Same H H' ∧ At gs i z ∧ LD H' z sh dp cn tg' kvs tgs ∧ σ = [some (.ref kl), some (.ref sh), some (.ref dp), some (.ref cn), some (.ref tg'), z5, z6]) ⟨z0, tg, [], [], _, _, sA, At.zero gs, ?_, rfl⟩ ?_ ?_ ?_
  · exact ⟨a1, rfl, fun y s e => by simp [shOf, z0] at e, ⟨[], a2, Nat.zero_le _, fun y hy => by simp [JS.nm, z0] at hy⟩, ⟨[], a3, Nat.zero_le _, fun y hy => by simp [JS.nm, z0] at hy⟩, a4, fun x => by simp [tagKind, z0], Nat.zero_le _⟩
  · rintro i σ H' _ ⟨z, tg', kvs, tgs, z5, z6, sj, _⟩
    exact SqL.of (sj _ _ hk)
  · rintro i v σ H' hv ⟨z, tg', kvs, tgs, z5, z6, sj, at', ld, rfl⟩
    have ilt := (List.getElem?_eq_some_iff.mp hv).1
    obtain ⟨dv, hdv, hhv⟩ := hx.get hv
    rw [List.getElem?_map] at hdv
    cases hg : gs[i]? with
    | none => rw [hg] at hdv; cases hdv
    | some k =>
      rw [hg] at hdv
      cases hdv
      obtain ⟨y, g⟩ := k
      obtain ⟨a, v6, rfl, ha6, hv6⟩ := has_g (hhv.mono sj)
      obtain ⟨ty, tg6⟩ := tx _ (List.mem_of_getElem? hg)
      have lz := at'.len
      have no : (∀ s, ¬ StepOk z y g s) → ∀ H', Same H H' → Q (.bl false) H' := fun h => qf fun o => at'.no hg h o.2.2
      refine ⟨a, _, rfl, SqT.of ha6, rfl, _, _, rfl, _, _, rfl, rfl, ?_⟩
      refine ⟨_, rfl, y, 97, by rw [← small_abc]; rfl, ty.len, fun H1 e1 => ⟨_, rfl, ?_⟩⟩
      have sj1 := sj.trans e1
      cases hw : wordB 97 y with
      | false =>
        refine iteP (by simp) ?_
        refine iteP (by simp) ?_
        exact no (fun s h => by have := h.wd; rw [hw] at this; cases this) _ sj1
      | true =>
      refine iteM (by simp) ?_
      have ld1 := ld.mono e1
      have gy : DGet H1 sh (.str y) (valV kvs (Sum.inr y)) := DGet.k (k := Sum.inr y) ld1.sh
      refine ⟨_, rfl, _, rfl, _, _, rfl, gy, _, rfl, ?_⟩
      rw [val_is ld.ke (fun y s h => let ⟨v, h1, _⟩ := ld.sv y s h; ⟨v, h1⟩) y]
      by_cases my : y ∈ z.ks.map (·.1)
      case pos =>
        refine iteP (by simp [my]) ?_
        exact no (fun s h => h.nw my) _ sj1
      refine iteM (by simp [my]) ?_
      refine ⟨_, rfl, _, rfl, _, rfl, _, rfl, _, rfl, sh, dp, cn, tg', v6, z, kvs, tgs, g, rfl, ld1, at'.ok, by omega, hv6.mono e1, tg6, fun okg H2 e2 => ⟨_, rfl, ?_⟩, fun nok H2 e2 => ⟨_, rfl, ?_⟩⟩
      case refine_2 =>
        refine iteP (by simp) ?_
        exact no (fun s h => nok ⟨s, h.sh, h.ok⟩) _ (sj1.trans e2)
      refine iteM (by simp) ?_
      obtain ⟨s', hs', oks⟩ := okg
      have st : StepOk z y g s' := ⟨hw, my, hs', oks⟩
      have sj2 := sj1.trans e2
      have ld2 := ld1.mono e2
      have hv2 := (hv6.mono e1).mono e2
      obtain ⟨kd, d1, d2, d3⟩ := ld2.dp
      obtain ⟨kc, c1, c2, c3⟩ := ld2.cn
      have lk := key_len ld.ke
      -- shapes, depths, counts
      refine ⟨_, rfl, _, rfl, _, rfl, _, _, rfl, DPut.k (k := Sum.inr y) ld2.sh (small1000 (by omega)), ?_⟩
      have t3 := tl_put ld2.sh (.dK (putK kvs (Sum.inr y) v6))
      have u3 := sj2.putN (o := .dK (putK kvs (Sum.inr y) v6)) fsh
      have x3 : upd H2 sh (.dK (putK kvs (Sum.inr y) v6)) sh = some (.dK (putK kvs (Sum.inr y) v6)) := upd_same
      have d4 : upd H2 sh (.dK (putK kvs (Sum.inr y) v6)) dp = some (.dK kd) := by rw [upd_ne n12.symm]; exact d1
      have c4 : upd H2 sh (.dK (putK kvs (Sum.inr y) v6)) cn = some (.dK kc) := by rw [upd_ne n13.symm]; exact c1
      generalize upd H2 sh (.dK (putK kvs (Sum.inr y) v6)) = H3 at t3 u3 x3 d4 c4 ⊢
      refine ⟨_, rfl, _, rfl, _, _, rfl, DPut.k (k := Sum.inr y) d4 (small1000 (by omega)), ?_⟩
      have t4 := t3.trans (tl_put d4 (.dK (putK kd (Sum.inr y) (.int 0))))
      have u4 := u3.putN (o := .dK (putK kd (Sum.inr y) (.int 0))) f2
      have x4 : upd H3 dp (.dK (putK kd (Sum.inr y) (.int 0))) sh = some (.dK (putK kvs (Sum.inr y) v6)) := by rw [upd_ne n12]; exact x3
      have d5 : upd H3 dp (.dK (putK kd (Sum.inr y) (.int 0))) dp = some (.dK (putK kd (Sum.inr y) (.int 0))) := upd_same
      have c5 : upd H3 dp (.dK (putK kd (Sum.inr y) (.int 0))) cn = some (.dK kc) := by rw [upd_ne n23.symm]; exact c4
      have lkd := length_putK kd (Sum.inr y) (.int 0)
      have vkd := fun j => valV_put kd (Sum.inr y) j (.int 0)
      generalize putK kd (Sum.inr y) (.int 0) = kd1 at d5 lkd vkd t4 u4 x4 c5 ⊢
      generalize upd H3 dp (.dK kd1) = H4 at t4 u4 x4 d5 c5 ⊢
      rcases shp_inv hs' with ⟨ts, rfl, rfl⟩ | ⟨c, e, rfl, rfl⟩
      · obtain ⟨p, l, rfl, hp, hl⟩ := has_gtg hv2
        have okt : OkT z.ks ts := st.ok
        have lt : (ts.map V.str).length = ts.length := List.length_map _
        have t14 := okt.l4
        refine ⟨_, rfl, p, _, 1, _, rfl, rfl, SqT.of (t4.1 _ _ hp), rfl, _, _, rfl, .inr ⟨_, SqT.of (t4.1 _ _ hl), rfl⟩, _, _, rfl, rfl, _, rfl, _, rfl, _, _, rfl, DPut.k (k := Sum.inr y) c5 (small1000 (by omega)), ?_⟩
        have ec : (1 + ((ts.map V.str).length : Int)) = ((1 + ts.length : Nat) : Int) := by rw [lt]; push_cast; rfl
        dsimp only
        rw [ec]
        have t5 := t4.trans (tl_put c5 (.dK (putK kc (Sum.inr y) (.int ((1 + ts.length : Nat) : Int)))))
        have u5 := u4.putN (o := .dK (putK kc (Sum.inr y) (.int ((1 + ts.length : Nat) : Int)))) f3
        have x5 : upd H4 cn (.dK (putK kc (Sum.inr y) (.int ((1 + ts.length : Nat) : Int)))) sh = some (.dK (putK kvs (Sum.inr y) (.ref p))) := by rw [upd_ne n13]; exact x4
        have d6 : upd H4 cn (.dK (putK kc (Sum.inr y) (.int ((1 + ts.length : Nat) : Int)))) dp = some (.dK kd1) := by rw [upd_ne n23]; exact d5
        have c6 : upd H4 cn (.dK (putK kc (Sum.inr y) (.int ((1 + ts.length : Nat) : Int)))) cn = some (.dK (putK kc (Sum.inr y) (.int ((1 + ts.length : Nat) : Int)))) := upd_same
        generalize upd H4 cn (.dK (putK kc (Sum.inr y) (.int ((1 + ts.length : Nat) : Int)))) = H5 at t5 u5 x5 d6 c6 ⊢
        refine ⟨_, rfl, p, _, 0, _, rfl, rfl, SqT.of (t5.1 _ _ hp), rfl, rfl, _, rfl, ?_⟩
        refine iteM (by decide) ?_
        refine ⟨_, rfl, _, rfl, p, _, 1, _, rfl, rfl, SqT.of (t5.1 _ _ hp), rfl, l, _, rfl, .inr (SqT.of (t5.1 _ _ hl)), fun l1 hl1 => ?_⟩
        have e6 := same_upd hl1 (.lst (ts.map V.str))
        refine ⟨tg', l1, _, _, rfl, rfl, e6 _ _ (t5.2 _ _ ld2.tg), upd_same, Nat.le_of_lt (small1000 (by have := ld.tl; rw [List.length_map, List.length_map]; omega)), fun l2 hl2 => ?_⟩
        have e7 := e6.trans (same_upd hl2 (.lst (tgs.map V.str ++ ts.map V.str)))
        have g7 : upd (upd H5 l1 (.lst (ts.map V.str))) l2 (.lst (tgs.map V.str ++ ts.map V.str)) l2 = some (.lst ((tgs ++ ts).map V.str)) := by rw [upd_same, List.map_append]
        generalize upd (upd H5 l1 (.lst (ts.map V.str))) l2 (.lst (tgs.map V.str ++ ts.map V.str)) = H7 at e7 g7 ⊢
        refine ⟨z.new y (.tags ts), l2, _, _, _, _, u5.trans e7, at'.step hg st, LD.step ld2 st (t5.trans e7.tl) hv2 (e7 _ _ x5) d1 (e7 _ _ d6) (by omega) (fun t => ?_) c1 (e7 _ _ c6) ?_ (fun t => ?_) g7 t14, rfl⟩
        · rw [vkd]
          by_cases q : t = y
          · rw [if_pos (by rw [q]), if_pos q]; rfl
          · rw [if_neg fun w => q (Sum.inr.inj w), if_neg q]
        · have := length_putK kc (Sum.inr y) (.int ((1 + ts.length : Nat) : Int)); omega
        · rw [valV_put]
          by_cases q : t = y
          · rw [if_pos (by rw [q]), if_pos q]; rfl
          · rw [if_neg fun w => q (Sum.inr.inj w), if_neg q]
      · obtain ⟨p, rfl, hp⟩ := has_gpr hv2
        have okp : OkP z c e := st.ok
        have c8 := at'.ok.wl c okp.ia
        have nc : c ≠ y := fun q => my (q ▸ okp.ia)
        have ne' : e ≠ y := fun q => my (q ▸ okp.ib)
        have la := (at'.ok.le okp.ia).2
        have lb := (at'.ok.le okp.ib).2
        refine ⟨_, rfl, p, _, 1, _, rfl, rfl, SqT.of (t4.1 _ _ hp), rfl, _, _, rfl, ⟨Nat.le_of_lt (small1000 (by omega)), rfl⟩, _, _, rfl, rfl, _, rfl, _, rfl, _, _, rfl, DPut.k (k := Sum.inr y) c5 (small1000 (by omega)), ?_⟩
        have t5 := t4.trans (tl_put c5 (.dK (putK kc (Sum.inr y) (.int (1 + (c.length : Int))))))
        have u5 := u4.putN (o := .dK (putK kc (Sum.inr y) (.int (1 + (c.length : Int))))) f3
        have x5 : upd H4 cn (.dK (putK kc (Sum.inr y) (.int (1 + (c.length : Int))))) sh = some (.dK (putK kvs (Sum.inr y) (.ref p))) := by rw [upd_ne n13]; exact x4
        have d6 : upd H4 cn (.dK (putK kc (Sum.inr y) (.int (1 + (c.length : Int))))) dp = some (.dK kd1) := by rw [upd_ne n23]; exact d5
        have c6 : upd H4 cn (.dK (putK kc (Sum.inr y) (.int (1 + (c.length : Int))))) cn = some (.dK (putK kc (Sum.inr y) (.int (1 + (c.length : Int))))) := upd_same
        have lkc := length_putK kc (Sum.inr y) (.int (1 + (c.length : Int)))
        have vkc := fun j => valV_put kc (Sum.inr y) j (.int (1 + (c.length : Int)))
        dsimp only
        generalize putK kc (Sum.inr y) (.int (1 + (c.length : Int))) = kc1 at t5 u5 x5 d6 c6 lkc vkc ⊢
        generalize upd H4 cn (.dK kc1) = H5 at t5 u5 x5 d6 c6 ⊢
        refine ⟨_, rfl, p, _, 0, _, rfl, rfl, SqT.of (t5.1 _ _ hp), rfl, rfl, _, rfl, ?_⟩
        refine iteP (by decide) ?_
        have va : valV kd1 (Sum.inr c) = some (.int (z.d c : Nat)) := by rw [vkd, if_neg fun w => nc (Sum.inr.inj w), d3 c okp.ia]
        have vb : valV kd1 (Sum.inr e) = some (.int (z.d e : Nat)) := by rw [vkd, if_neg fun w => ne' (Sum.inr.inj w), d3 e okp.ib]
        refine ⟨_, rfl, _, rfl, p, _, 1, _, rfl, rfl, SqT.of (t5.1 _ _ hp), rfl, dp, _, rfl, by rw [← va]; exact DGet.k (k := Sum.inr c) d6, _, rfl, _, rfl, p, _, 2, _, rfl, rfl, SqT.of (t5.1 _ _ hp), rfl, dp, _, rfl, by rw [← vb]; exact DGet.k (k := Sum.inr e) d6, _, _, rfl, _, _, rfl, rfl, ?_⟩
        have em : (1 + (if (z.d e : Int) > (z.d c : Int) then (z.d e : Int) else (z.d c : Int))) = ((1 + max (z.d c) (z.d e) : Nat) : Int) := by
          by_cases q : z.d c < z.d e
          · rw [if_pos (by omega), Nat.max_eq_right (Nat.le_of_lt q)]; omega
          · rw [if_neg (by omega), Nat.max_eq_left (by omega)]; omega
        dsimp only
        rw [em]
        refine ⟨_, rfl, _, rfl, _, _, rfl, DPut.k (k := Sum.inr y) d6 (small1000 (by omega)), ?_⟩
        have t6 := t5.trans (tl_put d6 (.dK (putK kd1 (Sum.inr y) (.int ((1 + max (z.d c) (z.d e) : Nat) : Int)))))
        have u6 := u5.putN (o := .dK (putK kd1 (Sum.inr y) (.int ((1 + max (z.d c) (z.d e) : Nat) : Int)))) f2
        have x6 : upd H5 dp (.dK (putK kd1 (Sum.inr y) (.int ((1 + max (z.d c) (z.d e) : Nat) : Int)))) sh = some (.dK (putK kvs (Sum.inr y) (.ref p))) := by rw [upd_ne n12]; exact x5
        have d7 : upd H5 dp (.dK (putK kd1 (Sum.inr y) (.int ((1 + max (z.d c) (z.d e) : Nat) : Int)))) dp = some (.dK (putK kd1 (Sum.inr y) (.int ((1 + max (z.d c) (z.d e) : Nat) : Int)))) := upd_same
        have c7 : upd H5 dp (.dK (putK kd1 (Sum.inr y) (.int ((1 + max (z.d c) (z.d e) : Nat) : Int)))) cn = some (.dK kc1) := by rw [upd_ne n23.symm]; exact c6
        generalize upd H5 dp (.dK (putK kd1 (Sum.inr y) (.int ((1 + max (z.d c) (z.d e) : Nat) : Int)))) = H6 at t6 u6 x6 d7 c7 ⊢
        have wa : valV kc1 (Sum.inr c) = some (.int (z.c c : Nat)) := by rw [vkc, if_neg fun w => nc (Sum.inr.inj w), c3 c okp.ia]
        have wb : valV kc1 (Sum.inr e) = some (.int (z.c e : Nat)) := by rw [vkc, if_neg fun w => ne' (Sum.inr.inj w), c3 e okp.ib]
        refine ⟨_, rfl, _, rfl, p, _, 1, _, rfl, rfl, SqT.of (t6.1 _ _ hp), rfl, cn, _, rfl, by rw [← wa]; exact DGet.k (k := Sum.inr c) c7, _, rfl, _, rfl, p, _, 2, _, rfl, rfl, SqT.of (t6.1 _ _ hp), rfl, cn, _, rfl, by rw [← wb]; exact DGet.k (k := Sum.inr e) c7, _, _, rfl, rfl, .inl ⟨by omega, by omega⟩, _, _, rfl, rfl, ?_⟩
        have ec : (1 + (z.c c : Int) * (z.c e : Int)) = ((1 + z.c c * z.c e : Nat) : Int) := by push_cast; rfl
        dsimp only
        rw [ec]
        refine ⟨_, rfl, _, rfl, _, _, rfl, DPut.k (k := Sum.inr y) c7 (small1000 (by omega)), ?_⟩
        have t7 := t6.trans (tl_put c7 (.dK (putK kc1 (Sum.inr y) (.int ((1 + z.c c * z.c e : Nat) : Int)))))
        have u7 := u6.putN (o := .dK (putK kc1 (Sum.inr y) (.int ((1 + z.c c * z.c e : Nat) : Int)))) f3
        refine ⟨z.new y (.pair c e), tg', _, _, _, _, u7, at'.step hg st, LD.step (tgs := tgs) ld2 st t7 hv2 (by rw [upd_ne n13]; exact x6) d1 (by rw [upd_ne n23]; exact d7) ?_ (fun t => ?_) c1 upd_same ?_ (fun t => ?_) (by show _ = some (HO.lst ((tgs ++ []).map V.str)); rw [List.append_nil]; exact t7.2 _ _ ld2.tg) (Nat.zero_le _), rfl⟩
        · have := length_putK kd1 (Sum.inr y) (.int ((1 + max (z.d c) (z.d e) : Nat) : Int)); omega
        · rw [valV_put]
          by_cases q : t = y
          · rw [if_pos (by rw [q]), if_pos q]; rfl
          · rw [if_neg fun w => q (Sum.inr.inj w), vkd, if_neg fun w => q (Sum.inr.inj w), if_neg q]
        · have := length_putK kc1 (Sum.inr y) (.int ((1 + z.c c * z.c e : Nat) : Int)); omega
        · rw [valV_put]
          by_cases q : t = y
          · rw [if_pos (by rw [q]), if_pos q]; rfl
          · rw [if_neg fun w => q (Sum.inr.inj w), vkc, if_neg fun w => q (Sum.inr.inj w), if_neg q]
  · rintro σ H' ⟨z, tg', kvs, tgs, z5, z6, sj, at', ld, rfl⟩
    exact qt ⟨k0, k6, at'.done (by omega)⟩ _ sj
end
end K4
namespace L2
open PySem
theorem pe_cls {X : Cx} {x : Str} {C : Addr} {pos : Pos} (hg : Gl X x) (hm : X.mg x = some (.ref C)) (hd : (x == ("__debug__" : Str)) = false := by decide) : PE X (.Name x pos) (tC (.ref C)) := pe_glob (v := .ref C) hg hm rfl hd
structure XC (K : PySem.W.Frag) (mg : Str → Option Value) (aW c1 c2 c3 c4 c5 c6 c7 c8 c9 c10 c11 c12 aN : Addr) : Prop where
  mW : mg "WantError" = some (.ref aW)
  m1 : mg "Falling" = some (.ref c1)
  m2 : mg "NoAsking" = some (.ref c2)
  m3 : mg "NoBook" = some (.ref c3)
  m4 : mg "NoCell" = some (.ref c4)
  m5 : mg "NoMore" = some (.ref c5)
  m6 : mg "NoMost" = some (.ref c6)
  m7 : mg "NoNote" = some (.ref c7)
  m8 : mg "NoPart" = some (.ref c8)
  m9 : mg "NoRows" = some (.ref c9)
  m10 : mg "NoSheet" = some (.ref c10)
  m11 : mg "NoWorth" = some (.ref c11)
  m12 : mg "Torn" = some (.ref c12)
  mN : mg "NoKinds" = some (.ref aN)
  mV : mg "ValueError" = none
  hand : HandC K aW
  exc : PySem.W.ExcC K aN
  isx : IsX K aN
  sub : PySem.W.subIn K (.ref aN) (.ref aW) = some true
  k1 : PySem.W.kitAny K (.ref aN) ([c1, c2, c3, c4, c5, c6, c7, c8, c9].map Value.ref) = some false
  k2 : PySem.W.kitAny K (.ref aN) ([c10, c11, c12].map Value.ref) = some false
  k3 : PySem.W.kitOne K (.ref aN) (.ref aN) = some true
  k4 : PySem.W.kitOne K (.ref aN) (.type "ValueError") = some true
section
variable {X : Cx} {CX : CXT} {k : Nat} {f C : Addr} {fd : FuncData} {ps : List Str} {sp : Sp} {dvs : List V} {ds : List Value} {E : St → XK} {x : Str} {p pos : Pos} {e : Expr} {es : List Expr} {t : TA}
def tMakeS (C : Addr) (sp : Sp) (dvs : List V) (E : St → XK) (t : TA) : TE := fun σ H Q => t σ H fun vs H1 => ∀ x dx, H1 x = none → H1 dx = none → dx ≠ x → sp (.ref x :: (vs ++ dvs)) (upd (upd H1 dx (.own x)) x (.ins C dx [])) (fun v H2 => v = .non ∧ Q (.ref x) H2) (E σ)
theorem run_makeS {pins : List (Addr × Obj)} {σ : St} {H : Hp} {s : Shared} {Q : VK} {us : List Value} {vs : List V} (M : Mk X.K C f) (F : FnOk X.prog X.w X.K X.mg X.base CX k f fd ps sp) (hr : Room (k + 1) X.A) (hb : Binds X.K fd ps ds) (hd : Vals dvs ds)
    (hx : ∀ σ, PassesS CX X σ (E σ)) (I : Inv X pins σ H s) (r : Vals vs us)
    (h : ∀ x dx, H x = none → H dx = none → dx ≠ x → sp (.ref x :: (vs ++ dvs)) (upd (upd H dx (.own x)) x (.ins C dx [])) (fun v H2 => v = .non ∧ Q (.ref x) H2) (E σ)) :
    wpAny (model X.prog X.w) X.A (call (.ref C) us) (EP X pins σ Q) X.xe s := by
  have hq := h (s.heap.objs.size + 1) s.heap.objs.size (I.hok.fresh (Nat.le_succ _)) (I.hok.fresh (Nat.le_refl _)) (Nat.ne_of_lt (Nat.lt_succ_self _))
  have J := Inv.made (C := C) I
  have r2 : Vals (V.ref (s.heap.objs.size + 1) :: (vs ++ dvs)) (Value.ref (s.heap.objs.size + 1) :: (us ++ ds)) := .cons rfl (r.append hd)
  have hl : (Value.ref (s.heap.objs.size + 1) :: us ++ ds).length = ps.length := by
    have q := r2.length
    rw [F.len _ _ _ _ hq] at q
    exact q.symm
  refine wpAny_call (make_map (f := f) I.kIn M.makes M.init (beq_iff_eq.mp M.fn) (codeAny_mono (F.run _ X.stack _ _ ⟨Value.ref (s.heap.objs.size + 1) :: us, []⟩ (Value.ref (s.heap.objs.size + 1) :: (us ++ ds)) _ _ (E σ) (hr.make C us []) (J.env0.make C us []) (hb _ (Value.ref (s.heap.objs.size + 1) :: us) J.kIn hl) r2 hq) fun r s' z => ?_))
  cases r with
  | error e => exact hx σ pins _ _ e s' J z
  | ok fl =>
    cases fl with
    | ret u =>
      obtain ⟨v, H', I3, rv, ev, q3⟩ := J.after z
      subst ev
      exact ⟨rv, ⟨V.ref (s.heap.objs.size + 1), H', I3, rfl, q3⟩⟩
    | next => exact False.elim z
    | brk => exact False.elim z
    | cont => exact False.elim z
theorem pe_makeS (M : Mk X.K C f) (F : FnOk X.prog X.w X.K X.mg X.base CX k f fd ps sp) (hr : Room (k + 1) X.A) (hg : Gl X x) (hm : X.mg x = some (.ref C)) (hb : Binds X.K fd ps ds) (hd : Vals dvs ds) (hx : ∀ σ, PassesS CX X σ (E σ))
    (ha : PA X (e :: es) t) (hdb : (x == ("__debug__" : Str)) = false := by decide) (he : starEach (e :: es) X.env = (false, eval e X.env) :: starEach es X.env := by rfl) (hpl : (backTo pos (starEach es X.env)).any (·.1) = false := by rfl) :
    PE X (.Call (.Name x p) (e :: es) [] pos) (tMakeS C sp dvs E t) := by
  intro pins s σ H Q I h
  refine wpAny_Call_Name_kw (ld_glob I hg hm ?_ hdb)
  refine PySem.W.callWith_K (h₀ := X.base) I.ok.mod.kin M.kp (thn (ha pos pins s σ H _ I h) fun us s1 ⟨vs, H1, I1, r, q⟩ => ⟨I1.kIn, ?_⟩) he hpl
  exact run_makeS M F hr hb hd hx I1 r q
end
theorem strs_dw : ∀ ts : List Str, Dat.deps (ts.map Dat.str) = 0 ∧ Dat.wids (ts.map Dat.str) = 0
  | [] => by rw [List.map_nil]; unfold Dat.deps Dat.wids; exact ⟨rfl, rfl⟩
  | t :: ts => by
    obtain ⟨h1, h2⟩ := strs_dw ts
    rw [List.map_cons]
    unfold Dat.deps Dat.wids
    rw [h1, h2]
    unfold Dat.dep Dat.wid
    exact ⟨rfl, rfl⟩
theorem strs_lst_dw (ts : List Str) (h : ts.length ≤ 1000) : (Dat.lst (ts.map Dat.str)).dep < 5 ∧ (Dat.lst (ts.map Dat.str)).wid ≤ 1000 := by
  obtain ⟨h1, h2⟩ := strs_dw ts
  unfold Dat.dep Dat.wid
  rw [h1, h2, List.length_map]
  omega
theorem gs_dep (g : GS) : g.dat.dep ≤ 2 := by
  cases g with
  | tg w ts =>
    have := strs_dw ts
    simp [GS.dat, Dat.dep, Dat.deps, this.1]
  | pr w a b => unfold GS.dat Dat.dep Dat.deps Dat.deps Dat.deps Dat.dep Dat.deps; decide
theorem gds_dep (gs : List (Str × GS)) : (Dat.lst (gs.map gD)).dep ≤ 4 := by
  have q : Dat.deps (gs.map gD) ≤ 3 := by
    induction gs with
    | nil => rw [List.map_nil]; unfold Dat.deps; decide
    | cons k gs ih =>
      rw [List.map_cons]
      unfold Dat.deps
      refine Nat.max_le.mpr ⟨?_, ih⟩
      obtain ⟨y, s⟩ := k
      have e : (gD (y, s)).dep = 1 + max 0 (max s.dat.dep 0) := by unfold gD; simp [Dat.dep, Dat.deps]
      have := gs_dep s
      rw [e]; omega
  unfold Dat.dep
  omega
end L2
namespace K4
open PySem L2
section
variable {P : Program} {w : World} {K : PySem.W.Frag} {mg : Str → Option Value} {base : Heap} {f gi gn gs' C aW c1 c2 c3 c4 c5 c6 c7 c8 c9 c10 c11 c12 aN : Addr} {fd idd nd' sd : FuncData}
def spRefused : Sp := fun vs H Q _ => ∃ (kl : Addr) (xs : List V) (gs : List (Str × GS)), vs = [.ref kl] ∧ H kl = some (.lst xs) ∧ HasL H xs (gs.map gD) ∧ gs.length ≤ 20 ∧ (∀ k ∈ gs, Tx k.1 ∧ k.2.tx) ∧
  (GoodAll gs → ∀ H', Same H H' → Q (.str "yes") H') ∧ (¬ GoodAll gs → ∀ H', Same H H' → Q (.str "no") H')
theorem scRef : FnScope ["kinds", "handed", "marks", "told", "e", "others"] ["kinds"] (defScope sRefused) := ⟨rfl, rfl, rfl, by decide +kernel, rfl, by decide +kernel, by decide +kernel⟩
theorem f_nm (A : KA6) : (flds A).lookup ("names" : Str) = none := rfl
theorem ok_refused {n m : Nat} (hn : 5 ≤ n) (hm : m + 1 ≤ n) (B : Blt mg) (T : KCl K C) (XX : XC K mg aW c1 c2 c3 c4 c5 c6 c7 c8 c9 c10 c11 c12 aN) (F : Fun K "_law_refused" "_law_refused" sRefused f fd) (Mk' : Mk K C gi) (mC : mg "Kinds" = some (.ref C))
    (GI : FnOk P w K mg base (CX1 P w) m gi idd ["self", "told"] (spInit C aN)) (bI : Binds K idd ["self", "told"] [])
    (GN : FnOk P w K mg base CX0 n gn nd' ["self"] (spNames C)) (bN : Binds K nd' ["self"] []) (mN : Meth K C "names" gn)
    (GS : FnOk P w K mg base CX0 n gs' sd ["found", "due"] (spSame 5)) (bS : Binds K sd ["found", "due"] []) (kS : PySem.W.keepIn K (.ref gs') = true) (mS : mg "_law_same" = some (.ref gs')) :
    FnOk P w K mg base CX0 (n + 1) f fd ["kinds"] spRefused := by
  refine F.ok scRef (fun vs H Q E h => ?_) (fun cdv A outer s H vs Q E hr h => ?_)
  · obtain ⟨kl, xs, gs, rfl, _⟩ := h
    rfl
  obtain ⟨kl, xs, gs, rfl, hk, hx, l20, tx, qt, qf⟩ := h
  have hr4 : Room (4 + 1) _ := hr.mono hn
  have hr2 : Room (1 + 1) _ := hr.mono (show 1 + 1 ≤ n by omega)
  have hrm : Room (m + 1) _ := hr.mono hm
  refine ⟨_, pss_cons (ps_set (i := 1) scRef.nd rfl (Or.inl rfl) (pe_callTy call_list_of rfl B.list boot_list' (pa_cons (pv 0) pa_nil)))
    (pss_cons (ps_set (i := 2) scRef.nd rfl (Or.inl rfl) (pe_lst pa_nil))
    (pss_cons (ps_set (i := 3) scRef.nd rfl (Or.inl rfl) pe_non)
    (pss_cons (ps_try (i := 4) rfl rfl scRef.nd rfl rfl rfl XX.mW XX.hand (tb := fun EX => tAsg (tMakeS C (spInit C aN) [] EX (tCons (tVar 1) tNil)) (gName 3))
        (fun EX pn W hp => pss_one (ps_set (i := 3) scRef.nd rfl (Or.inl rfl) (pe_makeS Mk' GI hrm rfl mC bI .nil hp (pa_cons (pv 1) pa_nil))))
        (fun A' => pss_cons (ps_set (i := 5) scRef.nd rfl (Or.inl rfl) (pe_callB (r := rIsiX K) call_isiX rfl B.isi boot_isi' (pa_cons (pv 4) (pa_cons (pe_tup (pa_cons (pe_cls rfl XX.m1) (pa_cons (pe_cls rfl XX.m2) (pa_cons (pe_cls rfl XX.m3) (pa_cons (pe_cls rfl XX.m4) (pa_cons (pe_cls rfl XX.m5) (pa_cons (pe_cls rfl XX.m6) (pa_cons (pe_cls rfl XX.m7) (pa_cons (pe_cls rfl XX.m8) (pa_cons (pe_cls rfl XX.m9) pa_nil)))))))))) pa_nil))))
          (pss_cons (ps_set (i := 5) scRef.nd rfl (Or.inl rfl) (pe_or (pv 5) (pe_one (pe_callB (r := rIsiX K) call_isiX rfl B.isi boot_isi' (pa_cons (pv 4) (pa_cons (pe_tup (pa_cons (pe_cls rfl XX.m10) (pa_cons (pe_cls rfl XX.m11) (pa_cons (pe_cls rfl XX.m12) pa_nil)))) pa_nil))))))
          (pss_one (ps_set (i := 2) scRef.nd rfl (Or.inl rfl) (pe_lst (pa_cons (pe_callB (r := rIsiX K) call_isiX rfl B.isi boot_isi' (pa_cons (pv 4) (pa_cons (pe_cls rfl XX.mN) pa_nil))) (pa_cons (pe_callB (r := rIsiX K) call_isiX rfl B.isi boot_isi' (pa_cons (pv 4) (pa_cons (pe_bltn (v := .ty "ValueError") rfl XX.mV PyProof.Rows.Boot.«ValueError» rfl) pa_nil))) (pa_cons (pv 5) pa_nil)))))))))
    (pss_cons (ps_if (pt_cmpR (op_neD hr4) (pv 1) (pv 0) (nomark _)) (pss_one (ps_ret pe_str)) pss_nil)
    (pss_cons (ps_if (pt_cmpR op_isN (pv 3) pe_non (nomark _)) (pss_one (ps_ret (pe_ix ix_list (pe_lst (pa_cons pe_str (pa_cons pe_str pa_nil))) (pe_callTy call_int1 rfl B.int boot_int' (pa_cons (pe_cmpR (op_eqD hr2) (pv 2) (pe_lst (pa_cons pe_bl (pa_cons pe_bl (pa_cons pe_bl pa_nil)))) (nomark _)) pa_nil)) (fun _ _ => rfl)))) pss_nil)
    (pss_one (ps_ret (pe_ix ix_list (pe_lst (pa_cons pe_str (pa_cons pe_str pa_nil))) (pe_callTy call_int1 rfl B.int boot_int' (pa_cons (pe_call GS hr rfl mS kS bS .nil pass0 (pa_cons (pe_meth0 (pv 3) T.cl mN GN hr bN .nil pass0) (pa_cons (pe_cmpr ["kind"] [] (pi_list (pv 0)) (gk_name (i := 0) (by decide)) (fun cl C fp s H => pg_name (i := 0) nd_kind rfl (Or.inl rfl) (Or.inr rfl)) (fun cl C fp s H => pe_ix (r := rIxT K) ix_tup (pv 0) pe_int (fun _ _ => rfl))) pa_nil))) pa_nil)) (fun _ _ => rfl))))))))), ?_⟩
  dsimp only [cxOf, Cx.nox, Cx.wish]
  refine ⟨_, rfl, kl, xs, rfl, .inl (SqL.of hk), fun hd fhd => ?_⟩
  have s1 := same_upd fhd (.lst xs)
  have g1 : upd H hd (.lst xs) hd = some (.lst xs) := upd_same
  generalize upd H hd (.lst xs) = H1 at s1 g1 ⊢
  refine ⟨by show 0 ≤ sizeLine; decide, fun ml fml => ?_⟩
  have s2 := s1.trans (same_upd fml (.lst []))
  have g2 := same_upd fml (.lst []) _ _ g1
  have g3 : upd H1 ml (.lst []) ml = some (.lst []) := upd_same
  generalize upd H1 ml (.lst []) = H2 at s2 g2 g3 ⊢
  have hx2 := hx.mono s2
  have hk2 := s2 _ _ hk
  refine ⟨_, rfl, fun x dx fx fdx ndx => ?_⟩
  have tx' : upd (upd H2 dx (.own x)) x (.ins C dx []) x = some (.ins C dx []) := upd_same
  have s7 : Same H2 (upd (upd H2 dx (.own x)) x (.ins C dx [])) := fun b o e => by rw [upd_ne (ne_of_none e fx), upd_ne (ne_of_none e fdx)]; exact e
  generalize upd (upd H2 dx (.own x)) x (.ins C dx []) = H3 at tx' s7 ⊢
  have nex : ∀ {H' : Hp}, (∀ b o, b ≠ x → H3 b = some o → H' b = some o) → Same H2 H' := fun f b o e => f b o (ne_of_none e fx) (s7 b o e)
  -- what stands behind the try
  have eqn : ∀ {H' : Hp}, Same H2 H' → Has H' (.ref hd) (.lst (gs.map gD)) ∧ Has H' (.ref kl) (.lst (gs.map gD)) := fun sx => ⟨lst_has (sx _ _ g2) (hx2.mono sx), lst_has (sx _ _ hk2) (hx2.mono sx)⟩
  refine ⟨x, dx, hd, xs, gs, rfl, tx', s7 _ _ g2, hx2.mono s7, l20, tx, fun good H8 f8 ⟨ks, d, ki, ek⟩ => ⟨rfl, ?_⟩, fun bad H8 f8 => ?_⟩
  · have s8 := nex f8
    obtain ⟨q1, q2⟩ := eqn s8
    refine ⟨_, rfl, _, rfl, _, _, q1, q2, gds_dep gs, _, rfl, ?_⟩
    rw [Dat.pq_self]
    refine iteM (by simp) ?_
    refine ⟨_, rfl, rfl, _, rfl, ?_⟩
    refine iteM (by simp) ?_
    refine ⟨by show 2 ≤ sizeLine; decide, fun ol fol => ?_⟩
    have s9 := same_upd fol (.lst [.str "odd", .str "yes"])
    have g9 : upd H8 ol (.lst [.str "odd", .str "yes"]) ol = some (.lst [.str "odd", .str "yes"]) := upd_same
    generalize upd H8 ol (.lst [.str "odd", .str "yes"]) = H9 at s9 g9 ⊢
    have ki9 := ki.mono s9
    obtain ⟨A', S, eA, kd, kr⟩ := id ki9
    subst eA
    refine ⟨_, rfl, A'.t, _, _, rfl, kd.ins, f_nm _, A'.t, ks, d, rfl, ki9, fun nl HA sA fnl hnl => ?_⟩
    have s0A := (s8.trans s9).trans sA
    refine ⟨_, rfl, kl, rfl, ⟨_, SqL.of (s0A _ _ hk2)⟩, names_comp (s0A _ _ hk2) (hx2.mono s0A) l20 fun nl2 HB sB fnl2 hnl2 => ?_⟩
    have en : (ks.map fun k => V.str k.1) = (gs.map (·.1)).map V.str := by rw [← ek, List.map_map]; rfl
    have en2 : (gs.map fun k => V.str k.1) = (gs.map (·.1)).map V.str := by rw [List.map_map]; rfl
    rw [en] at hnl
    rw [en2] at hnl2
    obtain ⟨dw1, dw2⟩ := strs_lst_dw (gs.map (·.1)) (by rw [List.length_map]; omega)
    refine ⟨_, _, .lst ((gs.map (·.1)).map Dat.str), .lst ((gs.map (·.1)).map Dat.str), rfl, lst_has (sB _ _ hnl) (strs_has _), lst_has hnl2 (strs_has _), dw1, dw2, fun HC sC => ?_⟩
    rw [Dat.beq_self]
    refine .inr ⟨true, rfl, ol, _, _, _, rfl, rfl, SqL.of (sC _ _ (sB _ _ (sA _ _ g9))), rfl, ?_⟩
    exact qt good _ (s2.trans (s0A.trans (sB.trans sC)))
  · have s8 := nex f8
    refine ⟨aN, rfl, XX.sub, (fun d z => nomatch z), fun ea hea => ?_⟩
    have sE := same_upd hea (excO ea aN none)
    have cE : Caught (upd H8 ea (excO ea aN none)) ea aN none := ⟨upd_same, fun d z => nomatch z⟩
    generalize upd H8 ea (excO ea aN none) = HE at sE cE ⊢
    refine ⟨_, rfl, by show 9 ≤ sizeLine; decide, fun t1 ht1 => ?_⟩
    have sT := same_upd ht1 (.tup [.ref c1, .ref c2, .ref c3, .ref c4, .ref c5, .ref c6, .ref c7, .ref c8, .ref c9])
    refine ⟨ea, aN, none, .ref t1, false, rfl, ⟨sT _ _ cE.at_, fun d z => nomatch z⟩, XX.exc, .inl ⟨t1, [c1, c2, c3, c4, c5, c6, c7, c8, c9], rfl, upd_same, XX.k1⟩, ?_⟩
    refine ⟨_, rfl, _, rfl, iteM (by simp) ?_⟩
    refine ⟨_, rfl, by show 3 ≤ sizeLine; decide, fun t2 ht2 => ?_⟩
    have sT2 := same_upd ht2 (.tup [.ref c10, .ref c11, .ref c12])
    refine ⟨ea, aN, none, .ref t2, false, rfl, ⟨sT2 _ _ (sT _ _ cE.at_), fun d z => nomatch z⟩, XX.exc, .inl ⟨t2, [c10, c11, c12], rfl, upd_same, XX.k2⟩, ?_⟩
    have sU := sT.trans sT2
    generalize upd (upd HE t1 (.tup [.ref c1, .ref c2, .ref c3, .ref c4, .ref c5, .ref c6, .ref c7, .ref c8, .ref c9])) t2 (.tup [.ref c10, .ref c11, .ref c12]) = HU at sU ⊢
    have cU : Caught HU ea aN none := ⟨sU _ _ cE.at_, fun d z => nomatch z⟩
    refine ⟨_, rfl, ea, aN, none, .ref aN, true, rfl, cU, XX.exc, .inr (.inl ⟨aN, rfl, XX.k3⟩), ?_⟩
    refine ⟨_, rfl, ea, aN, none, .ty "ValueError", true, rfl, cU, XX.exc, .inr (.inr ⟨"ValueError", rfl, XX.k4⟩), ?_⟩
    refine ⟨_, rfl, by show 3 ≤ sizeLine; decide, fun l3 hl3 => ?_⟩
    have s3 := same_upd hl3 (.lst [.bl true, .bl true, .bl false])
    have s4 := ((s8.trans sE).trans sU).trans s3
    have hl3' : upd HU l3 (.lst [.bl true, .bl true, .bl false]) l3 = some (.lst [.bl true, .bl true, .bl false]) := upd_same
    generalize upd HU l3 (.lst [.bl true, .bl true, .bl false]) = HV at s4 hl3' ⊢
    obtain ⟨q1, q2⟩ := eqn s4
    refine ⟨_, rfl, _, rfl, _, _, q1, q2, gds_dep gs, _, rfl, ?_⟩
    rw [Dat.pq_self]
    refine iteM (by simp) ?_
    refine ⟨_, rfl, rfl, _, rfl, ?_⟩
    refine iteP rfl ?_
    refine ⟨by show 2 ≤ sizeLine; decide, fun ol fol => ?_⟩
    have s9 := same_upd fol (.lst [.str "odd", .str "no"])
    have g9 : upd HV ol (.lst [.str "odd", .str "no"]) ol = some (.lst [.str "odd", .str "no"]) := upd_same
    generalize upd HV ol (.lst [.str "odd", .str "no"]) = HW at s9 g9 ⊢
    refine ⟨_, rfl, by show 3 ≤ sizeLine; decide, fun l4 hl4 => ?_⟩
    have s5 := same_upd hl4 (.lst [.bl true, .bl true, .bl false])
    have hb : ∀ H, HasL H [.bl true, .bl true, .bl false] [.bl true, .bl true, .bl false] := fun H => HasL.cons (by unfold Has; rfl) (HasL.cons (by unfold Has; rfl) (HasL.one (by unfold Has; rfl)))
    refine ⟨.lst [.bl true, .bl true, .bl false], .lst [.bl true, .bl true, .bl false], lst_has (s5 _ _ (s9 _ _ hl3')) (hb _), lst_has upd_same (hb _), by decide +kernel, ?_⟩
    rw [Dat.pq_self]
    refine .inr ⟨true, rfl, ol, _, _, _, rfl, rfl, SqL.of (s5 _ _ g9), rfl, ?_⟩
    exact qf bad _ (s2.trans ((s4.trans s9).trans s5))
end
end K4
namespace L2
open PySem PyProof.Rows
def CDivW (_ j : Int) : Prop := 0 < j ∧ j.natAbs.log2 < 9000
theorem op_fdivW {X : Cx} : OpR X (binaryOp .FloorDiv) (rI CDivW fun i j => .int (i.fdiv j)) := opI fun _ _ _ _ _ _ _ hc q => floordiv_int (by have := hc.1; omega) q (.inl (PyProof.noPylong_of_log2 hc.2))
theorem boot_abs' : bootBuiltins "abs" = some (.builtin "abs") := by decide +kernel
def Shp.gs : Shp → GS
  | .tags ts => .tg "tags" ts
  | .pair a b => .pr "pair" a b
def gsOf (ks : List (Str × Shp)) : List (Str × GS) := ks.map fun k => (k.1, k.2.gs)
theorem gsOf_map (ks : List (Str × Shp)) : (gsOf ks).map gD = ks.map kindD := by
  unfold gsOf
  rw [List.map_map]
  refine (List.map_congr_left fun k _ => ?_)
  obtain ⟨y, s⟩ := k
  cases s <;> rfl
theorem wd_asc {o : Nat} {x : Str} (ho : o = 97 ∨ o = 65) (h : ∀ c ∈ x.cps.toList, o ≤ c ∧ c < o + 26) : Asc x := fun c hc => by
  have := h c hc
  omega
theorem gb_of {ks : List (Str × Shp)} {c d : Str → Nat} (kk : KK 30 c d ks) (l0 : 0 < ks.length) (l6 : ks.length ≤ 6) (kg : KG ks) : GB (gsOf ks) := by
  have ln : (gsOf ks).length = ks.length := List.length_map _
  refine ⟨by omega, by omega, fun k hk => ?_, fun k hk => ?_⟩
  · obtain ⟨k', hk', rfl⟩ := List.mem_map.mp hk
    have my : k'.1 ∈ ks.map (·.1) := List.mem_map.mpr ⟨_, hk', rfl⟩
    exact ⟨wd_asc (.inl rfl) (kg.nm.abc _ my), (kg.nm.len _ my).1, (kg.nm.len _ my).2⟩
  · obtain ⟨⟨y, s⟩, hk', rfl⟩ := List.mem_map.mp hk
    cases s with
    | pair a b => exact .inr ⟨a, b, rfl⟩
    | tags ts =>
      have wt := kg.tags hk'
      obtain ⟨i, hi⟩ := List.mem_iff_getElem?.mp hk'
      obtain ⟨h1, h2, _⟩ := kk i y _ hi
      exact .inl ⟨ts, rfl, h1, h2, fun x hx => ⟨by have := (wt.len x hx).2; omega, wd_asc (.inr rfl) (wt.abc x hx)⟩⟩
theorem GB.all {gs : List (Str × GS)} (b : GB gs) : ∀ k ∈ gs, Tx k.1 ∧ k.2.tx := fun k hk => ⟨⟨by have := (b.nm k hk).2.2; omega, (b.nm k hk).1⟩, (b.st k hk).tx⟩
end L2
namespace K4
open PySem L2
section
variable {P : Program} {w : World} {K : PySem.W.Frag} {mg : Str → Option Value} {base : Heap} {f : Addr} {fd : FuncData}
def Df (P : Program) (w : World) (K : PySem.W.Frag) (mg : Str → Option Value) (base : Heap) (n : Nat) (x : Str) (ps : List Str) (sp : Sp) : Prop := ∃ g gd, mg x = some (.ref g) ∧ PySem.W.keepIn K (.ref g) = true ∧ Binds K gd ps [] ∧ FnOk P w K mg base CX0 n g gd ps sp
def spLaw (K : PySem.W.Frag) : Sp := fun vs H Q _ => ∃ (a : Addr) (ns : List Int), vs = [.ref a] ∧ SqL K H a (ns.map V.int) ∧ ns.length ≤ 63 ∧ ∀ H', Q (.bl true) H'
theorem scLaw : FnScope ["script", "cell", "kinds", "some", "one"] ["script"] (defScope sLaw) := ⟨rfl, rfl, rfl, by decide +kernel, rfl, by decide +kernel, by decide +kernel⟩
theorem ok_law {n : Nat} (B : Blt mg) (ma : mg "abs" = none) (F : Fun K "law" "law" sLaw f fd)
    (DC : Df P w K mg base n "_law_cell" ["script", "k"] (spCell K)) (DS : Df P w K mg base n "_law_stream" ["cell"] spStream) (DK : Df P w K mg base n "_law_kinds" ["stream", "most", "top"] spKinds) (DM : Df P w K mg base n "_law_mixed" ["cell", "k"] spMixed)
    (DP : Df P w K mg base n "_law_spoilt" ["kinds", "number"] spSpoilt) (DR : Df P w K mg base n "_law_refused" ["kinds"] spRefused) (DG : Df P w K mg base n "_law_good" ["kinds"] spGood) :
    FnOk P w K mg base CX0 (n + 1) f fd ["script"] (spLaw K) := by
  obtain ⟨gc, cd', mCe, kC, bC, GC⟩ := DC
  obtain ⟨gs, sd', mS, kS, bS, GST⟩ := DS
  obtain ⟨gk, kd', mK, kK, bK, GK⟩ := DK
  obtain ⟨gm, md', mM, kM, bM, GM⟩ := DM
  obtain ⟨gp, pd', mP, kP, bP, GP⟩ := DP
  obtain ⟨gr, rd', mR, kR, bR, GR⟩ := DR
  obtain ⟨gg, gd', mG, kG, bG, GG⟩ := DG
  refine F.ok scLaw (fun vs H Q E h => ?_) (fun cdv A outer s H vs Q E hr h => ?_)
  · obtain ⟨a, ns, rfl, _⟩ := h
    rfl
  obtain ⟨a, ns, rfl, hS, h63, q⟩ := h
  refine ⟨_, pss_cons (ps_for PassesOwn.never rfl (pi_list (pe_op op_cat (pe_lst (pa_cons (pe_call GC hr rfl mCe kC bC .nil pass0 (pa_cons (pv 0) (pa_cons pe_int pa_nil))) pa_nil)) (pe_slice sl_list (pv 0) (po_some pe_int) (po_some pe_int)))) (pg_name (i := 1) scLaw.nd rfl (Or.inl rfl))
      (pss_cons (ps_set (i := 2) scLaw.nd rfl (Or.inl rfl) (pe_ix ix_tup (pe_call GK hr rfl mK kK bK .nil pass0 (pa_cons (pe_call GST hr rfl mS kS bS .nil pass0 (pa_cons (pv 1) pa_nil)) (pa_cons pe_int (pa_cons pe_int pa_nil)))) pe_int (fun _ _ => rfl)))
      (pss_cons (ps_set (i := 3) scLaw.nd rfl (Or.inl rfl) (pe_call GP hr rfl mP kP bP .nil pass0 (pa_cons (pv 2) (pa_cons (pe_op op_add (pe_call GM hr rfl mM kM bM .nil pass0 (pa_cons (pv 1) (pa_cons pe_int pa_nil))) (pe_op op_fdivW (pe_callB call_abs rfl ma boot_abs' (pa_cons (pv 1) pa_nil)) (pe_op op_pow pe_int pe_int))) pa_nil))))
      (pss_one (ps_for PassesOwn.never rfl (pi_list (pe_lst (pa_cons (pv 3) (pa_cons (pv 2) pa_nil)))) (pg_name (i := 4) scLaw.nd rfl (Or.inl rfl))
        (pss_one (ps_if (pt_cmpR op_ne (pe_call GR hr rfl mR kR bR .nil pass0 (pa_cons (pv 4) pa_nil)) (pe_ix ix_list (pe_lst (pa_cons pe_str (pa_cons pe_str pa_nil))) (pe_callTy call_int1 rfl B.int boot_int' (pa_cons (pe_call GG hr rfl mG kG bG .nil pass0 (pa_cons (pv 4) pa_nil)) pa_nil)) (fun _ _ => rfl)) (nomark _)) (pss_one (ps_ret pe_bl)) pss_nil)))))))
    (pss_one (ps_ret (pe_cmpR op_eq (pe_call GR hr rfl mR kR bR .nil pass0 (pa_cons (pe_lst pa_nil) pa_nil)) pe_str (nomark _)))), ?_⟩
  dsimp only [cxOf, Cx.nox, Cx.wish]
  -- one list of kinds: what is told is what is looked up
  have one : ∀ (kl : Addr) (xs : List V) (gl : List (Str × GS)) (H' : Hp) (σ : St) (D : Ends), H' kl = some (.lst xs) → HasL H' xs (gl.map gD) → gl.length ≤ 20 → (∀ k ∈ gl, Tx k.1 ∧ k.2.tx) → σ[4]? = some (some (.ref kl)) → (∀ H'', Same H' H'' → D.nx σ H'') →
      tIfS (tTest (tOp rNe (tCall spRefused [] E0 (tCons (tVar 4) tNil)) (tOp (rIxL K) (tLst (tCons (tC (V.str (Str.ofString "no"))) (tCons (tC (V.str (Str.ofString "yes"))) tNil)) ) (tCB (fun xs H Q => (∃ i, xs = [V.int i] ∧ Q (V.int i) H) ∨ ∃ k, xs = [V.bl k] ∧ Q (V.int (if k = true then 1 else 0)) H) (tCons (tCall spGood [] E0 (tCons (tVar 4) tNil)) tNil))))) (tRet (tC (V.bl false))) tNext D σ H' := by
    intro kl xs gl H' σ D h1 h2 h3 h4 h5 hD
    refine ⟨_, h5, kl, xs, gl, rfl, h1, h2, h3, h4, fun good H1 s1 => ?_, fun bad H1 s1 => ?_⟩
    · refine ⟨by show 2 ≤ sizeLine; decide, fun p hp => ?_⟩
      have s2 := s1.trans (same_upd hp (.lst [V.str (Str.ofString "no"), V.str (Str.ofString "yes")]))
      have g2 : upd H1 p (.lst [V.str (Str.ofString "no"), V.str (Str.ofString "yes")]) p = some (.lst [V.str (Str.ofString "no"), V.str (Str.ofString "yes")]) := upd_same
      generalize upd H1 p (.lst [V.str (Str.ofString "no"), V.str (Str.ofString "yes")]) = H2 at s2 g2 ⊢
      refine ⟨_, h5, kl, xs, gl, rfl, s2 _ _ h1, h2.mono s2, h3, h4, fun _ H3 s3 => .inr ⟨true, rfl, ?_⟩, fun bad => absurd good bad⟩
      refine ⟨p, _, _, _, rfl, rfl, SqL.of (s3 _ _ g2), rfl, rfl, _, rfl, ?_⟩
      refine iteM (by simp) ?_
      exact hD _ (s2.trans s3)
    · refine ⟨by show 2 ≤ sizeLine; decide, fun p hp => ?_⟩
      have s2 := s1.trans (same_upd hp (.lst [V.str (Str.ofString "no"), V.str (Str.ofString "yes")]))
      have g2 : upd H1 p (.lst [V.str (Str.ofString "no"), V.str (Str.ofString "yes")]) p = some (.lst [V.str (Str.ofString "no"), V.str (Str.ofString "yes")]) := upd_same
      generalize upd H1 p (.lst [V.str (Str.ofString "no"), V.str (Str.ofString "yes")]) = H2 at s2 g2 ⊢
      refine ⟨_, h5, kl, xs, gl, rfl, s2 _ _ h1, h2.mono s2, h3, h4, fun good => absurd good bad, fun _ H3 s3 => .inr ⟨false, rfl, ?_⟩⟩
      refine ⟨p, _, _, _, rfl, rfl, SqL.of (s3 _ _ g2), rfl, rfl, _, rfl, ?_⟩
      refine iteM (by simp) ?_
      exact hD _ (s2.trans s3)
  refine ⟨_, rfl, a, ns, 0, rfl, hS, by decide, fun c => ⟨by show 1 ≤ sizeLine; decide, fun l1 hl1 => ?_⟩⟩
  have s1 := same_upd hl1 (.lst [V.int c])
  have g1 : upd H l1 (.lst [V.int c]) l1 = some (.lst [V.int c]) := upd_same
  generalize upd H l1 (.lst [V.int c]) = H1 at s1 g1 ⊢
  refine ⟨_, rfl, 1, rfl, 16, rfl, a, _, rfl, s1.seq hS, fun l2 hl2 => ?_⟩
  have s2 := same_upd hl2 (.lst (cutV (ns.map V.int) (some 1) (some 16)))
  have g2 : upd H1 l2 (.lst (cutV (ns.map V.int) (some 1) (some 16))) l2 = some (.lst (cutV (ns.map V.int) (some 1) (some 16))) := upd_same
  generalize upd H1 l2 (.lst (cutV (ns.map V.int) (some 1) (some 16))) = H2 at s2 g2 ⊢
  have lc := cutV_length (ns.map V.int) (some 1) (some 16)
  rw [List.length_map] at lc
  refine ⟨l1, l2, _, _, rfl, rfl, s2 _ _ g1, g2, Nat.le_of_lt (small1000 (by simp only [List.length_singleton]; omega)), fun l3 hl3 => ?_⟩
  have g3 : upd H2 l3 (.lst ([V.int c] ++ cutV (ns.map V.int) (some 1) (some 16))) l3 = some (.lst ([V.int c] ++ cutV (ns.map V.int) (some 1) (some 16))) := upd_same
  generalize upd H2 l3 (.lst ([V.int c] ++ cutV (ns.map V.int) (some 1) (some 16))) = H3 at g3 ⊢
  refine ⟨l3, rfl, ⟨_, SqL.of g3⟩, ?_⟩
  refine for_list (xs := [V.int c] ++ cutV (ns.map V.int) (some 1) (some 16)) (fun j σ H' => Same H3 H' ∧ ∃ (y1 y2 y3 y4 : Option V), σ = [some (.ref a), y1, y2, y3, y4]) ⟨Same.refl _, _, _, _, _, rfl⟩ ?_ ?_ ?_
  · rintro j σ H' _ ⟨sj, _⟩
    exact SqL.of (sj _ _ g3)
  · rintro j x σ H' hj ⟨sj, y1, y2, y3, y4, rfl⟩
    obtain ⟨m', rfl⟩ : ∃ m, x = V.int m := by
      rcases List.mem_append.mp (List.mem_of_getElem? hj) with h | h
      · exact ⟨c, by simpa using h⟩
      · unfold cutV at h
        obtain ⟨m, _, e⟩ := List.mem_map.mp (List.mem_of_mem_drop (List.mem_of_mem_take h))
        exact ⟨m, e.symm⟩
    refine ⟨_, rfl, m', rfl, fun p H4 hp b4 t4 => ?_⟩
    refine ⟨p, 6, 30, rfl, t4, by decide, by decide, by decide, fun r kl cn ks c' d xs H5 b5 t5 fr nr hr5 fkl nkl hkl hl5 kk nd l0 l6 kg => ?_⟩
    have sA : Same H' H5 := (b4.sb.trans b5).same hp
    refine ⟨r, _, 0, _, rfl, rfl, SqT.of hr5, rfl, ?_⟩
    rw [← gsOf_map] at hl5
    have gb := gb_of kk l0 l6 kg
    generalize gsOf ks = gl at hl5 gb
    refine ⟨_, rfl, _, rfl, m', 900, rfl, fun mr _ _ => ?_⟩
    refine ⟨_, rfl, _, rfl, _, _, rfl, rfl, ⟨by decide, by decide, by decide⟩, _, _, rfl, rfl, ⟨by decide +kernel, by decide +kernel⟩, _, _, rfl, rfl, ?_⟩
    refine ⟨kl, xs, gl, _, rfl, hkl, hl5, gb, fun l H6 fd6 => ?_⟩
    obtain ⟨s6, zs, gs6, h6a, h6b, h6c, h6d⟩ := fd6
    refine ⟨_, rfl, _, rfl, by show 2 ≤ sizeLine; decide, fun pl hpl => ?_⟩
    have s7 := same_upd hpl (.lst [V.ref l, V.ref kl])
    have g7 : upd H6 pl (.lst [V.ref l, V.ref kl]) pl = some (.lst [V.ref l, V.ref kl]) := upd_same
    generalize upd H6 pl (.lst [V.ref l, V.ref kl]) = H7 at s7 g7 ⊢
    refine ⟨pl, rfl, ⟨_, SqL.of g7⟩, ?_⟩
    refine for_list (xs := [V.ref l, V.ref kl]) (fun i σ H' => Same H7 H' ∧ ∃ y4, σ = [some (.ref a), some (.int m'), some (.ref kl), some (.ref l), y4]) ⟨Same.refl _, _, rfl⟩ (fun i σ H' _ z => SqL.of (z.1 _ _ g7)) ?_ ?_
    · rintro i v σ H8 hv ⟨s8, y4, rfl⟩
      have n6 := gb.n6
      have mv := List.mem_of_getElem? hv
      simp only [List.mem_cons, List.not_mem_nil, or_false] at mv
      rcases mv with rfl | rfl
      · exact one l zs gs6 H8 _ _ (s8 _ _ (s7 _ _ h6a)) ((h6b.mono s7).mono s8) (by omega) h6d rfl fun H9 s9 => ⟨s8.trans s9, _, rfl⟩
      · exact one kl xs gl H8 _ _ (s8 _ _ (s7 _ _ (s6 _ _ hkl))) (((hl5.mono s6).mono s7).mono s8) (by omega) gb.all rfl fun H9 s9 => ⟨s8.trans s9, _, rfl⟩
    · rintro σ H8 ⟨s8, y4, rfl⟩
      exact ⟨sj.trans (sA.trans (s6.trans (s7.trans s8))), _, _, _, _, rfl⟩
  · rintro σ H' ⟨sj, y1, y2, y3, y4, rfl⟩
    refine ⟨by show 0 ≤ sizeLine; decide, fun p hp => ?_⟩
    refine ⟨p, [], [], rfl, upd_same, HasL.nil, by decide, (fun k hk => by cases hk), (fun good => absurd good.1 (by decide)), fun _ H9 _ => ?_⟩
    refine ⟨rfl, ?_⟩
    exact q H9
end
theorem cls_some {K : PySem.W.Frag} {C : Addr} {v : Value} {b : Bool} (h : PySem.W.mroIn K C v = some b) : (PySem.W.clsIn K C).isSome = true := by
  unfold PySem.W.mroIn at h
  obtain ⟨cd, a, _⟩ := Option.bind_eq_some_iff.mp h
  rw [a]; rfl
theorem all_at {l : PySem.W.OpenLaw} {w : World} {K : PySem.W.Frag} {h : Heap} {mg : Str → Option Value} {fa C f1 f2 f3 f4 f5 f6 f7 f8 f9 f10 f11 f12 f13 f14 f15 f16 f17 f18 f19 f20 f21 f22 f23 f24 f25 aW c1 c2 c3 c4 c5 c6 c7 c8 c9 c10 c11 c12 aN : Addr} (X : K.In h) (G : h.Ns mainGlobals mg) (hfa : mg "law" = some (.ref fa))
    {od1 an1 od2 an2 od3 an3 od4 an4 od5 an5 od6 an6 od7 an7 od8 an8 od9 an9 od10 an10 od11 an11 od12 an12 od13 an13 od14 an14 od15 an15 od16 an16 od17 an17 od18 an18 od19 an19 od20 an20 od21 an21 od22 an22 od23 an23 od24 an24 od25 an25 : Option Addr} {sl1 sl2 sl3 sl4 sl5 sl6 sl7 sl8 sl9 sl10 sl11 sl12 sl13 sl14 sl15 sl16 sl17 sl18 sl19 sl20 sl21 sl22 sl23 sl24 sl25 : Array (Option Value)}
    {oc1 kV1 dc1 pm1 cd1 ct1 oc2 kV2 dc2 pm2 cd2 ct2 oc3 kV3 dc3 pm3 cd3 ct3 oc4 kV4 dc4 pm4 cd4 ct4 oc5 kV5 dc5 pm5 cd5 ct5 oc6 kV6 dc6 pm6 cd6 ct6 oc7 kV7 dc7 pm7 cd7 ct7 oc8 kV8 dc8 pm8 cd8 ct8 oc9 kV9 dc9 pm9 cd9 ct9 oc10 kV10 dc10 pm10 cd10 ct10 oc11 kV11 dc11 pm11 cd11 ct11 oc12 kV12 dc12 pm12 cd12 ct12 oc13 kV13 dc13 pm13 cd13 ct13 oc14 kV14 dc14 pm14 cd14 ct14 oc15 kV15 dc15 pm15 cd15 ct15 oc16 kV16 dc16 pm16 cd16 ct16 oc17 kV17 dc17 pm17 cd17 ct17 oc18 kV18 dc18 pm18 cd18 ct18 oc19 kV19 dc19 pm19 cd19 ct19 oc20 kV20 dc20 pm20 cd20 ct20 oc21 kV21 dc21 pm21 cd21 ct21 oc22 kV22 dc22 pm22 cd22 ct22 oc23 kV23 dc23 pm23 cd23 ct23 oc24 kV24 dc24 pm24 cd24 ct24 oc25 kV25 dc25 pm25 cd25 ct25 : Value}
    {u1v u2v u3v u4v u5v u6v u7v : Value}
    (aC : PySem.W.nsIn K mainGlobals "Kinds" = some (some (.ref C)))
    (a1 : PySem.W.nsIn K mainGlobals "is_name" = some (some (.ref f1)))
    (l1 : K.lookup f1 = some ⟨oc1, od1, .func (PySem.W.fnOf "is_name" "is_name" (defArgs sIsName) (defBody sIsName) (defScope sIsName) .none kV1 dc1 pm1 an1 cd1 ct1), sl1⟩)
    (d1 : PySem.W.codeIn K cd1 "is_name" = true) (k1 : PySem.W.keepIn K (.ref f1) = true)
    (a2 : PySem.W.nsIn K mainGlobals "is_tag" = some (some (.ref f2)))
    (l2 : K.lookup f2 = some ⟨oc2, od2, .func (PySem.W.fnOf "is_tag" "is_tag" (defArgs sIsTag) (defBody sIsTag) (defScope sIsTag) .none kV2 dc2 pm2 an2 cd2 ct2), sl2⟩)
    (d2 : PySem.W.codeIn K cd2 "is_tag" = true) (k2 : PySem.W.keepIn K (.ref f2) = true)
    (a3 : PySem.W.nsIn K mainGlobals "is_spelt" = some (some (.ref f3)))
    (l3 : K.lookup f3 = some ⟨oc3, od3, .func (PySem.W.fnOf "is_spelt" "is_spelt" (defArgs sSpelt) (defBody sSpelt) (defScope sSpelt) .none kV3 dc3 pm3 an3 cd3 ct3), sl3⟩)
    (d3 : PySem.W.codeIn K cd3 "is_spelt" = true) (k3 : PySem.W.keepIn K (.ref f3) = true)
    (a4 : PySem.W.nsIn K mainGlobals "_law_cell" = some (some (.ref f4)))
    (l4 : K.lookup f4 = some ⟨oc4, od4, .func (PySem.W.fnOf "_law_cell" "_law_cell" (defArgs sCell) (defBody sCell) (defScope sCell) .none kV4 dc4 pm4 an4 cd4 ct4), sl4⟩)
    (d4 : PySem.W.codeIn K cd4 "_law_cell" = true) (k4 : PySem.W.keepIn K (.ref f4) = true)
    (a5 : PySem.W.nsIn K mainGlobals "_law_mixed" = some (some (.ref f5)))
    (l5 : K.lookup f5 = some ⟨oc5, od5, .func (PySem.W.fnOf "_law_mixed" "_law_mixed" (defArgs sMixed) (defBody sMixed) (defScope sMixed) .none kV5 dc5 pm5 an5 cd5 ct5), sl5⟩)
    (d5 : PySem.W.codeIn K cd5 "_law_mixed" = true) (k5 : PySem.W.keepIn K (.ref f5) = true)
    (a6 : PySem.W.nsIn K mainGlobals "_law_stream" = some (some (.ref f6)))
    (l6 : K.lookup f6 = some ⟨oc6, od6, .func (PySem.W.fnOf "_law_stream" "_law_stream" (defArgs sStream) (defBody sStream) (defScope sStream) .none kV6 dc6 pm6 an6 cd6 ct6), sl6⟩)
    (d6 : PySem.W.codeIn K cd6 "_law_stream" = true) (k6 : PySem.W.keepIn K (.ref f6) = true)
    (a7 : PySem.W.nsIn K mainGlobals "_law_take" = some (some (.ref f7)))
    (l7 : K.lookup f7 = some ⟨oc7, od7, .func (PySem.W.fnOf "_law_take" "_law_take" (defArgs sTake) (defBody sTake) (defScope sTake) .none kV7 dc7 pm7 an7 cd7 ct7), sl7⟩)
    (d7 : PySem.W.codeIn K cd7 "_law_take" = true) (k7 : PySem.W.keepIn K (.ref f7) = true)
    (a8 : PySem.W.nsIn K mainGlobals "_law_words" = some (some (.ref f8)))
    (l8 : K.lookup f8 = some ⟨oc8, od8, .func (PySem.W.fnOf "_law_words" "_law_words" (defArgs sWords) (defBody sWords) (defScope sWords) .none kV8 dc8 pm8 an8 cd8 ct8), sl8⟩)
    (d8 : PySem.W.codeIn K cd8 "_law_words" = true) (k8 : PySem.W.keepIn K (.ref f8) = true)
    (a9 : PySem.W.nsIn K mainGlobals "_law_small" = some (some (.ref f9)))
    (l9 : K.lookup f9 = some ⟨oc9, od9, .func (PySem.W.fnOf "_law_small" "_law_small" (defArgs sSmall) (defBody sSmall) (defScope sSmall) .none kV9 dc9 pm9 an9 cd9 ct9), sl9⟩)
    (d9 : PySem.W.codeIn K cd9 "_law_small" = true) (k9 : PySem.W.keepIn K (.ref f9) = true)
    (a10 : PySem.W.nsIn K mainGlobals "_law_pair" = some (some (.ref f10)))
    (l10 : K.lookup f10 = some ⟨oc10, od10, .func (PySem.W.fnOf "_law_pair" "_law_pair" (defArgs sPair) (defBody sPair) (defScope sPair) .none kV10 dc10 pm10 an10 cd10 ct10), sl10⟩)
    (d10 : PySem.W.codeIn K cd10 "_law_pair" = true) (k10 : PySem.W.keepIn K (.ref f10) = true)
    (a11 : PySem.W.nsIn K mainGlobals "_law_kinds" = some (some (.ref f11)))
    (l11 : K.lookup f11 = some ⟨oc11, od11, .func (PySem.W.fnOf "_law_kinds" "_law_kinds" (defArgs sKinds) (defBody sKinds) (defScope sKinds) .none kV11 dc11 pm11 an11 cd11 ct11), sl11⟩)
    (d11 : PySem.W.codeIn K cd11 "_law_kinds" = true) (k11 : PySem.W.keepIn K (.ref f11) = true)
    (a12 : PySem.W.nsIn K mainGlobals "_law_same" = some (some (.ref f12)))
    (l12 : K.lookup f12 = some ⟨oc12, od12, .func (PySem.W.fnOf "_law_same" "_law_same" (defArgs sSame) (defBody sSame) (defScope sSame) .none kV12 dc12 pm12 an12 cd12 ct12), sl12⟩)
    (d12 : PySem.W.codeIn K cd12 "_law_same" = true) (k12 : PySem.W.keepIn K (.ref f12) = true)
    (a13 : PySem.W.nsIn K mainGlobals "_law_word" = some (some (.ref f13)))
    (l13 : K.lookup f13 = some ⟨oc13, od13, .func (PySem.W.fnOf "_law_word" "_law_word" (defArgs sWord) (defBody sWord) (defScope sWord) .none kV13 dc13 pm13 an13 cd13 ct13), sl13⟩)
    (d13 : PySem.W.codeIn K cd13 "_law_word" = true) (k13 : PySem.W.keepIn K (.ref f13) = true)
    (a14 : PySem.W.nsIn K mainGlobals "_law_shape_right" = some (some (.ref f14)))
    (l14 : K.lookup f14 = some ⟨oc14, od14, .func (PySem.W.fnOf "_law_shape_right" "_law_shape_right" (defArgs sShapeR) (defBody sShapeR) (defScope sShapeR) .none kV14 dc14 pm14 an14 cd14 ct14), sl14⟩)
    (d14 : PySem.W.codeIn K cd14 "_law_shape_right" = true) (k14 : PySem.W.keepIn K (.ref f14) = true)
    (a15 : PySem.W.nsIn K mainGlobals "_law_good" = some (some (.ref f15)))
    (l15 : K.lookup f15 = some ⟨oc15, od15, .func (PySem.W.fnOf "_law_good" "_law_good" (defArgs sGood) (defBody sGood) (defScope sGood) .none kV15 dc15 pm15 an15 cd15 ct15), sl15⟩)
    (d15 : PySem.W.codeIn K cd15 "_law_good" = true) (k15 : PySem.W.keepIn K (.ref f15) = true)
    (a16 : PySem.W.nsIn K mainGlobals "_law_bad_word" = some (some (.ref f16)))
    (l16 : K.lookup f16 = some ⟨oc16, od16, .func (PySem.W.fnOf "_law_bad_word" "_law_bad_word" (defArgs sBad) (defBody sBad) (defScope sBad) .none kV16 dc16 pm16 an16 cd16 ct16), sl16⟩)
    (d16 : PySem.W.codeIn K cd16 "_law_bad_word" = true) (k16 : PySem.W.keepIn K (.ref f16) = true)
    (a17 : PySem.W.nsIn K mainGlobals "_law_other_shape" = some (some (.ref f17)))
    (l17 : K.lookup f17 = some ⟨oc17, od17, .func (PySem.W.fnOf "_law_other_shape" "_law_other_shape" (defArgs sOther) (defBody sOther) (defScope sOther) .none kV17 dc17 pm17 an17 cd17 ct17), sl17⟩)
    (d17 : PySem.W.codeIn K cd17 "_law_other_shape" = true) (k17 : PySem.W.keepIn K (.ref f17) = true)
    (a18 : PySem.W.nsIn K mainGlobals "_law_spoilt" = some (some (.ref f18)))
    (l18 : K.lookup f18 = some ⟨oc18, od18, .func (PySem.W.fnOf "_law_spoilt" "_law_spoilt" (defArgs sSpoilt) (defBody sSpoilt) (defScope sSpoilt) .none kV18 dc18 pm18 an18 cd18 ct18), sl18⟩)
    (d18 : PySem.W.codeIn K cd18 "_law_spoilt" = true) (k18 : PySem.W.keepIn K (.ref f18) = true)
    (a19 : PySem.W.nsIn K mainGlobals "_law_refused" = some (some (.ref f19)))
    (l19 : K.lookup f19 = some ⟨oc19, od19, .func (PySem.W.fnOf "_law_refused" "_law_refused" (defArgs sRefused) (defBody sRefused) (defScope sRefused) .none kV19 dc19 pm19 an19 cd19 ct19), sl19⟩)
    (d19 : PySem.W.codeIn K cd19 "_law_refused" = true) (k19 : PySem.W.keepIn K (.ref f19) = true)
    (a20 : PySem.W.nsIn K mainGlobals "law" = some (some (.ref f20)))
    (l20 : K.lookup f20 = some ⟨oc20, od20, .func (PySem.W.fnOf "law" "law" (defArgs sLaw) (defBody sLaw) (defScope sLaw) .none kV20 dc20 pm20 an20 cd20 ct20), sl20⟩)
    (d20 : PySem.W.codeIn K cd20 "law" = true) (k20 : PySem.W.keepIn K (.ref f20) = true)
    (a21 : PySem.W.findIn K (.ref C) "__init__" = some (some (.ref f21))) (i21 : PySem.W.isFn K (.ref f21) = true)
    (l21 : K.lookup f21 = some ⟨oc21, od21, .func (PySem.W.fnOf "__init__" "Kinds.__init__" (defArgs sInit) (defBody sInit) (defScope sInit) .none kV21 dc21 pm21 an21 cd21 ct21), sl21⟩)
    (d21 : PySem.W.codeIn K cd21 "Kinds.__init__" = true) (k21 : PySem.W.keepIn K (.ref f21) = true)
    (a22 : PySem.W.findIn K (.ref C) "take" = some (some (.ref f22))) (i22 : PySem.W.isFn K (.ref f22) = true)
    (l22 : K.lookup f22 = some ⟨oc22, od22, .func (PySem.W.fnOf "take" "Kinds.take" (defArgs sKTake) (defBody sKTake) (defScope sKTake) .none kV22 dc22 pm22 an22 cd22 ct22), sl22⟩)
    (d22 : PySem.W.codeIn K cd22 "Kinds.take" = true) (k22 : PySem.W.keepIn K (.ref f22) = true)
    (a23 : PySem.W.findIn K (.ref C) "take_tags" = some (some (.ref f23))) (i23 : PySem.W.isFn K (.ref f23) = true)
    (l23 : K.lookup f23 = some ⟨oc23, od23, .func (PySem.W.fnOf "take_tags" "Kinds.take_tags" (defArgs sTags) (defBody sTags) (defScope sTags) .none kV23 dc23 pm23 an23 cd23 ct23), sl23⟩)
    (d23 : PySem.W.codeIn K cd23 "Kinds.take_tags" = true) (k23 : PySem.W.keepIn K (.ref f23) = true)
    (a24 : PySem.W.findIn K (.ref C) "take_pair" = some (some (.ref f24))) (i24 : PySem.W.isFn K (.ref f24) = true)
    (l24 : K.lookup f24 = some ⟨oc24, od24, .func (PySem.W.fnOf "take_pair" "Kinds.take_pair" (defArgs sPairs) (defBody sPairs) (defScope sPairs) .none kV24 dc24 pm24 an24 cd24 ct24), sl24⟩)
    (d24 : PySem.W.codeIn K cd24 "Kinds.take_pair" = true) (k24 : PySem.W.keepIn K (.ref f24) = true)
    (a25 : PySem.W.findIn K (.ref C) "names" = some (some (.ref f25))) (i25 : PySem.W.isFn K (.ref f25) = true)
    (l25 : K.lookup f25 = some ⟨oc25, od25, .func (PySem.W.fnOf "names" "Kinds.names" (defArgs sNames) (defBody sNames) (defScope sNames) .none kV25 dc25 pm25 an25 cd25 ct25), sl25⟩)
    (d25 : PySem.W.codeIn K cd25 "Kinds.names" = true) (k25 : PySem.W.keepIn K (.ref f25) = true)
    (z1 : PySem.W.nsIn K mainGlobals "len" = some none)
    (z2 : PySem.W.nsIn K mainGlobals "isinstance" = some none)
    (z3 : PySem.W.nsIn K mainGlobals "bool" = some none)
    (z4 : PySem.W.nsIn K mainGlobals "str" = some none)
    (z5 : PySem.W.nsIn K mainGlobals "int" = some none)
    (z6 : PySem.W.nsIn K mainGlobals "tuple" = some none)
    (z7 : PySem.W.nsIn K mainGlobals "list" = some none)
    (z8 : PySem.W.nsIn K mainGlobals "dict" = some none)
    (z9 : PySem.W.nsIn K mainGlobals "all" = some none)
    (z10 : PySem.W.nsIn K mainGlobals "zip" = some none)
    (z11 : PySem.W.nsIn K mainGlobals "max" = some none)
    (z12 : PySem.W.nsIn K mainGlobals "range" = some none)
    (z13 : PySem.W.nsIn K mainGlobals "sorted" = some none)
    (z14 : PySem.W.nsIn K mainGlobals "enumerate" = some none)
    (z15 : PySem.W.nsIn K mainGlobals "abs" = some none)
    (z16 : PySem.W.nsIn K mainGlobals "ValueError" = some none)
    (g1 : PySem.W.nsIn K mainGlobals "SMALL" = some (some u1v))
    (g2 : PySem.W.nsIn K mainGlobals "GREAT" = some (some u2v))
    (g3 : PySem.W.nsIn K mainGlobals "LONGEST" = some (some u3v))
    (g4 : PySem.W.nsIn K mainGlobals "MOST_KINDS" = some (some u4v))
    (g5 : PySem.W.nsIn K mainGlobals "MOST_TAGS" = some (some u5v))
    (g6 : PySem.W.nsIn K mainGlobals "MOST_WORTHS" = some (some u6v))
    (g7 : PySem.W.nsIn K mainGlobals "MOST_PAIRS_DEEP" = some (some u7v))
    (r1 : RelV (.str (Str.ofString "abcdefghijklmnopqrstuvwxyz")) u1v)
    (r2 : RelV (.str (Str.ofString "ABCDEFGHIJKLMNOPQRSTUVWXYZ")) u2v)
    (r3 : RelV (.int 8) u3v)
    (r4 : RelV (.int 6) u4v)
    (r5 : RelV (.int 4) u5v)
    (r6 : RelV (.int 30) u6v)
    (r7 : RelV (.int 2) u7v)
    (pg : PySem.W.plainGet K C Str.empty = true) (hd : PySem.W.hasDictIn K C = true) (po : PySem.W.plainOver K C = true) (sa : PySem.W.findIn K (.ref C) "__setattr__" = some (some (.builtin "object.__setattr__"))) (mk : PySem.W.makesIn K C = true) (kc : PySem.W.keepIn K (.ref C) = true)
    (n1 : PySem.W.findIn K (.ref C) "shapes" = some none)
    (n2 : PySem.W.findIn K (.ref C) "worths" = some none)
    (n3 : PySem.W.findIn K (.ref C) "heights" = some none)
    (n4 : PySem.W.findIn K (.ref C) "pairs_deep" = some none)
    (n5 : PySem.W.findIn K (.ref C) "tag_kinds" = some none)
    (n6 : PySem.W.findIn K (.ref C) "pair_kinds" = some none)
    (e1 : PySem.W.nsIn K mainGlobals "WantError" = some (some (.ref aW)))
    (e2 : PySem.W.nsIn K mainGlobals "Falling" = some (some (.ref c1)))
    (e3 : PySem.W.nsIn K mainGlobals "NoAsking" = some (some (.ref c2)))
    (e4 : PySem.W.nsIn K mainGlobals "NoBook" = some (some (.ref c3)))
    (e5 : PySem.W.nsIn K mainGlobals "NoCell" = some (some (.ref c4)))
    (e6 : PySem.W.nsIn K mainGlobals "NoMore" = some (some (.ref c5)))
    (e7 : PySem.W.nsIn K mainGlobals "NoMost" = some (some (.ref c6)))
    (e8 : PySem.W.nsIn K mainGlobals "NoNote" = some (some (.ref c7)))
    (e9 : PySem.W.nsIn K mainGlobals "NoPart" = some (some (.ref c8)))
    (e10 : PySem.W.nsIn K mainGlobals "NoRows" = some (some (.ref c9)))
    (e11 : PySem.W.nsIn K mainGlobals "NoSheet" = some (some (.ref c10)))
    (e12 : PySem.W.nsIn K mainGlobals "NoWorth" = some (some (.ref c11)))
    (e13 : PySem.W.nsIn K mainGlobals "Torn" = some (some (.ref c12)))
    (e14 : PySem.W.nsIn K mainGlobals "NoKinds" = some (some (.ref aN)))
    (h2 : PySem.W.typeIn K (.ref aW) = some (.type "type"))
    (h3 : PySem.W.mroIn K aW (.type "BaseException") = some true)
    (x2 : PySem.W.findIn K (.ref aN) "__getattribute__" = some (some (.builtin "BaseException.__getattribute__")))
    (x3 : PySem.W.findIn K (.ref aN) "__getattr__" = some none)
    (x4 : PySem.W.mroIn K aN (.type "BaseException") = some true)
    (x5 : PySem.W.mroIn K aN (.type "object") = some true)
    (x6 : PySem.W.findIn K (.ref aN) "__class__" = some (some (.builtin "object.__class__")))
    (x7 : PySem.W.specialIn K (.builtin "object.__class__") "__get__" = some (some (.builtin "getset_descriptor.__get__")))
    (x8 : PySem.W.takesIn K (.builtin "object.__class__") = some true)
    (x9 : PySem.W.excIn K aN [.type "ValueError", .type "Exception", .type "BaseException", .type "object"] "ValueError.__new__" = true)
    (u1 : PySem.W.subIn K (.ref aN) (.ref aW) = some true)
    (u2 : PySem.W.kitAny K (.ref aN) [.ref c1, .ref c2, .ref c3, .ref c4, .ref c5, .ref c6, .ref c7, .ref c8, .ref c9] = some false)
    (u3 : PySem.W.kitAny K (.ref aN) [.ref c10, .ref c11, .ref c12] = some false)
    (u4 : PySem.W.kitOne K (.ref aN) (.ref aN) = some true)
    (u5 : PySem.W.kitOne K (.ref aN) (.type "ValueError") = some true)
    : ∃ fd : FuncData, (∀ (s : Shared) (v : Value), BindsTo s fd ⟨[v], []⟩ [("script", v)]) ∧ ∀ base : Heap, K.In base → base.Ns mainGlobals mg → FnOk l.prog w K mg base CX0 11 fa fd ["script"] (spLaw K) := by
  have e := hfa.symm.trans (PySem.W.mg_of X G a20)
  cases e
  have F1 := fun_mk (st := sIsName) l1 d1 k1
  have b1 := F1.binds (ps := ["text"]) fun _ _ _ _ _ _ us hl => match us, hl with | [_], _ => rfl
  have m1 := PySem.W.mg_of X G a1
  have F2 := fun_mk (st := sIsTag) l2 d2 k2
  have b2 := F2.binds (ps := ["text"]) fun _ _ _ _ _ _ us hl => match us, hl with | [_], _ => rfl
  have m2 := PySem.W.mg_of X G a2
  have F3 := fun_mk (st := sSpelt) l3 d3 k3
  have b3 := F3.binds (ps := ["text", "letters"]) fun _ _ _ _ _ _ us hl => match us, hl with | [_, _], _ => rfl
  have m3 := PySem.W.mg_of X G a3
  have F4 := fun_mk (st := sCell) l4 d4 k4
  have b4 := F4.binds (ps := ["script", "k"]) fun _ _ _ _ _ _ us hl => match us, hl with | [_, _], _ => rfl
  have m4 := PySem.W.mg_of X G a4
  have F5 := fun_mk (st := sMixed) l5 d5 k5
  have b5 := F5.binds (ps := ["cell", "k"]) fun _ _ _ _ _ _ us hl => match us, hl with | [_, _], _ => rfl
  have m5 := PySem.W.mg_of X G a5
  have F6 := fun_mk (st := sStream) l6 d6 k6
  have b6 := F6.binds (ps := ["cell"]) fun _ _ _ _ _ _ us hl => match us, hl with | [_], _ => rfl
  have m6 := PySem.W.mg_of X G a6
  have F7 := fun_mk (st := sTake) l7 d7 k7
  have b7 := F7.binds (ps := ["stream", "many"]) fun _ _ _ _ _ _ us hl => match us, hl with | [_, _], _ => rfl
  have m7 := PySem.W.mg_of X G a7
  have F8 := fun_mk (st := sWords) l8 d8 k8
  have b8 := F8.binds (ps := ["stream", "many", "letters", "ways"]) fun _ _ _ _ _ _ us hl => match us, hl with | [_, _, _, _], _ => rfl
  have m8 := PySem.W.mg_of X G a8
  have F9 := fun_mk (st := sSmall) l9 d9 k9
  have b9 := F9.binds (ps := ["stream", "many"]) fun _ _ _ _ _ _ us hl => match us, hl with | [_, _], _ => rfl
  have m9 := PySem.W.mg_of X G a9
  have F10 := fun_mk (st := sPair) l10 d10 k10
  have b10 := F10.binds (ps := ["stream", "names", "counts", "depths", "taken", "top"]) fun _ _ _ _ _ _ us hl => match us, hl with | [_, _, _, _, _, _], _ => rfl
  have m10 := PySem.W.mg_of X G a10
  have F11 := fun_mk (st := sKinds) l11 d11 k11
  have b11 := F11.binds (ps := ["stream", "most", "top"]) fun _ _ _ _ _ _ us hl => match us, hl with | [_, _, _], _ => rfl
  have m11 := PySem.W.mg_of X G a11
  have F12 := fun_mk (st := sSame) l12 d12 k12
  have b12 := F12.binds (ps := ["found", "due"]) fun _ _ _ _ _ _ us hl => match us, hl with | [_, _], _ => rfl
  have m12 := PySem.W.mg_of X G a12
  have F13 := fun_mk (st := sWord) l13 d13 k13
  have b13 := F13.binds (ps := ["text", "letters"]) fun _ _ _ _ _ _ us hl => match us, hl with | [_, _], _ => rfl
  have m13 := PySem.W.mg_of X G a13
  have F14 := fun_mk (st := sShapeR) l14 d14 k14
  have b14 := F14.binds (ps := ["shapes", "depths", "counts", "tags", "shape"]) fun _ _ _ _ _ _ us hl => match us, hl with | [_, _, _, _, _], _ => rfl
  have m14 := PySem.W.mg_of X G a14
  have F15 := fun_mk (st := sGood) l15 d15 k15
  have b15 := F15.binds (ps := ["kinds"]) fun _ _ _ _ _ _ us hl => match us, hl with | [_], _ => rfl
  have m15 := PySem.W.mg_of X G a15
  have F16 := fun_mk (st := sBad) l16 d16 k16
  have b16 := F16.binds (ps := ["word", "way"]) fun _ _ _ _ _ _ us hl => match us, hl with | [_, _], _ => rfl
  have m16 := PySem.W.mg_of X G a16
  have F17 := fun_mk (st := sOther) l17 d17 k17
  have b17 := F17.binds (ps := ["kinds", "at", "number"]) fun _ _ _ _ _ _ us hl => match us, hl with | [_, _, _], _ => rfl
  have m17 := PySem.W.mg_of X G a17
  have F18 := fun_mk (st := sSpoilt) l18 d18 k18
  have b18 := F18.binds (ps := ["kinds", "number"]) fun _ _ _ _ _ _ us hl => match us, hl with | [_, _], _ => rfl
  have m18 := PySem.W.mg_of X G a18
  have F19 := fun_mk (st := sRefused) l19 d19 k19
  have b19 := F19.binds (ps := ["kinds"]) fun _ _ _ _ _ _ us hl => match us, hl with | [_], _ => rfl
  have m19 := PySem.W.mg_of X G a19
  have F20 := fun_mk (st := sLaw) l20 d20 k20
  have F21 := fun_mk (st := sInit) l21 d21 k21
  have b21 := F21.binds (ps := ["self", "told"]) fun _ _ _ _ _ _ us hl => match us, hl with | [_, _], _ => rfl
  have F22 := fun_mk (st := sKTake) l22 d22 k22
  have b22 := F22.binds (ps := ["self", "name", "shape"]) fun _ _ _ _ _ _ us hl => match us, hl with | [_, _, _], _ => rfl
  have F23 := fun_mk (st := sTags) l23 d23 k23
  have b23 := F23.binds (ps := ["self", "name", "tags"]) fun _ _ _ _ _ _ us hl => match us, hl with | [_, _, _], _ => rfl
  have F24 := fun_mk (st := sPairs) l24 d24 k24
  have b24 := F24.binds (ps := ["self", "name", "one", "other"]) fun _ _ _ _ _ _ us hl => match us, hl with | [_, _, _, _], _ => rfl
  have F25 := fun_mk (st := sNames) l25 d25 k25
  have b25 := F25.binds (ps := ["self"]) fun _ _ _ _ _ _ us hl => match us, hl with | [_], _ => rfl
  have mC := PySem.W.mg_of X G aC
  have B : Blt mg := ⟨PySem.W.mg_none_of X G z1, PySem.W.mg_none_of X G z2, PySem.W.mg_none_of X G z3, PySem.W.mg_none_of X G z4, PySem.W.mg_none_of X G z5, PySem.W.mg_none_of X G z6, PySem.W.mg_none_of X G z7, PySem.W.mg_none_of X G z8, PySem.W.mg_none_of X G z9, PySem.W.mg_none_of X G z10, PySem.W.mg_none_of X G z11, PySem.W.mg_none_of X G z12, PySem.W.mg_none_of X G z13⟩
  have q1 := PySem.W.mg_of X G g1
  have q2 := PySem.W.mg_of X G g2
  have q3 := PySem.W.mg_of X G g3
  have q4 := PySem.W.mg_of X G g4
  have q5 := PySem.W.mg_of X G g5
  have q6 := PySem.W.mg_of X G g6
  have q7 := PySem.W.mg_of X G g7
  have T : KCl K C := ⟨⟨pg, hd, po, sa⟩, n1, n2, n3, n4, n5, n6⟩
  have XX : XC K mg aW c1 c2 c3 c4 c5 c6 c7 c8 c9 c10 c11 c12 aN := ⟨PySem.W.mg_of X G e1, PySem.W.mg_of X G e2, PySem.W.mg_of X G e3, PySem.W.mg_of X G e4, PySem.W.mg_of X G e5, PySem.W.mg_of X G e6, PySem.W.mg_of X G e7, PySem.W.mg_of X G e8, PySem.W.mg_of X G e9, PySem.W.mg_of X G e10, PySem.W.mg_of X G e11, PySem.W.mg_of X G e12, PySem.W.mg_of X G e13, PySem.W.mg_of X G e14, PySem.W.mg_none_of X G z16, ⟨cls_some h3, h2, h3⟩, ⟨cls_some x4, x2, x3, x4, x5, x6, x7, x8⟩, x9, u1, u2, u3, u4, u5⟩
  refine ⟨PySem.W.fnOf "law" "law" (defArgs sLaw) (defBody sLaw) (defScope sLaw) .none kV20 dc20 pm20 an20 cd20 ct20, fun s v => .of_eq rfl, fun base _ _ => ?_⟩
  have tk : ∀ n, FnOk l.prog w K mg base CX0 (n + 2) f7 _ ["stream", "many"] spTake := fun n => ok_take F7 (ok_mixed (n := n) F5) b5 k5 m5
  have wo : ∀ n, FnOk l.prog w K mg base CX0 (n + 3) f8 _ ["stream", "many", "letters", "ways"] spWords := fun n => ok_words B F8 (tk n) b7 k7 m7
  have sm : ∀ n, FnOk l.prog w K mg base CX0 (n + 4) f9 _ ["stream", "many"] spSmall := fun n => ok_small F9 (wo n) b8 k8 m8
  have pr : FnOk l.prog w K mg base CX0 9 f10 _ ["stream", "names", "counts", "depths", "taken", "top"] (spPair K) := ok_pair (n := 2) B F10 (tk 6) b7 k7 m7
  have kn : FnOk l.prog w K mg base CX0 10 f11 _ ["stream", "most", "top"] spKinds := ok_kinds (n := 9) B F11 (tk 7) b7 k7 m7 (sm 5) b9 k9 m9 (wo 6) b8 k8 m8 pr b10 k10 m10
  have sa' : FnOk l.prog w K mg base CX0 5 f12 _ ["found", "due"] (spSame 5) := same_ok B F12 b12 m12 5
  have sp : FnOk l.prog w K mg base CX0 1 f3 _ ["text", "letters"] spSpelt := ok_spelt (n := 0) B F3 q3 r3
  have na : FnOk l.prog w K mg base CX0 2 f1 _ ["text"] (spWord 97) := ok_isName (n := 1) F1 sp b3 k3 m3 q1 r1
  have ta : FnOk l.prog w K mg base CX0 2 f2 _ ["text"] (spWord 65) := ok_isTag (n := 1) F2 sp b3 k3 m3 q2 r2
  have tt : FnOk l.prog w K mg base (CX1 l.prog w) 3 f23 _ ["self", "name", "tags"] (spTags C aN) := ok_tags (n := 2) B T F23 q5 r5 XX.mN XX.isx ta b2 k2 m2
  have tp : FnOk l.prog w K mg base (CX1 l.prog w) 3 f24 _ ["self", "name", "one", "other"] (spPairs C aN) := ok_pairs (n := 2) B T XX.mN XX.isx F24 q7 r7 q6 r6
  have kt : FnOk l.prog w K mg base (CX1 l.prog w) 4 f22 _ ["self", "name", "shape"] (spKTake C aN) := ok_ktake (n := 3) B T F22 XX.mN XX.isx (na.mono (by decide)) b1 k1 m1 tt b23 ⟨a23, i23, k23⟩ tp b24 ⟨a24, i24, k24⟩
  have ini : FnOk l.prog w K mg base (CX1 l.prog w) 5 f21 _ ["self", "told"] (spInit C aN) := ok_init (n := 4) B T XX.mN XX.isx F21 q4 r4 kt b22 ⟨a22, i22, k22⟩
  have lw : ∀ n, FnOk l.prog w K mg base CX0 (n + 1) f13 _ ["text", "letters"] spSpelt := fun n => ok_lword (n := n) B F13
  have sr : FnOk l.prog w K mg base CX0 7 f14 _ ["shapes", "depths", "counts", "tags", "shape"] spShR := ok_shapeR (n := 0) B (PySem.W.mg_none_of X G z14) F14 (lw 5) b13 k13 m13
  have go : FnOk l.prog w K mg base CX0 8 f15 _ ["kinds"] spGood := ok_good (n := 7) B F15 (lw 6) b13 k13 m13 sr b14 k14 m14
  have ba : ∀ n, FnOk l.prog w K mg base CX0 (n + 1) f16 _ ["word", "way"] spBad := fun n => ok_bad (n := n) B F16
  have ot : FnOk l.prog w K mg base CX0 2 f17 _ ["kinds", "at", "number"] spOther := ok_other (n := 1) B F17 (ba 0) b16 k16 m16
  have so : FnOk l.prog w K mg base CX0 3 f18 _ ["kinds", "number"] spSpoilt := ok_spoilt (n := 2) B F18 (ba 1) b16 k16 m16 ot b17 k17 m17
  have re : FnOk l.prog w K mg base CX0 7 f19 _ ["kinds"] spRefused := ok_refused (n := 6) (m := 5) (by decide) (by decide) B T XX F19 ⟨mk, a21, i21, kc⟩ mC ini b21 (ok_names (n := 5) B T F25) b25 ⟨a25, i25, k25⟩ (sa'.mono (by decide)) b12 k12 m12
  exact ok_law (n := 10) B (PySem.W.mg_none_of X G z15) F20 ⟨f4, _, m4, k4, b4, ok_cell (n := 9) B F4⟩ ⟨f6, _, m6, k6, b6, ok_stream (n := 9) F6⟩ ⟨f11, _, m11, k11, b11, kn⟩ ⟨f5, _, m5, k5, b5, ok_mixed (n := 9) F5⟩ ⟨f18, _, m18, k18, b18, so.mono (by decide)⟩ ⟨f19, _, m19, k19, b19, re.mono (by decide)⟩ ⟨f15, _, m15, k15, b15, go.mono (by decide)⟩
theorem goes {l : PySem.W.OpenLaw} {q : Program} {loose : List Str} {XP : (Str → Option Value) → Heap → Prop} {YP : World → Heap → Prop} {d : DefRec} {K : Params → PySem.W.Frag} (hn : l.most = some 63) (hdf : d.params.defaults = [])
    (hY : ∀ (w : World) (h : Heap), YP w h → (K w.params).In h)
    (F : ∀ (w : World) (mg : Str → Option Value) (fa : Addr) (h : Heap), (K w.params).In h → h.Ns mainGlobals mg → mg d.name = some (.ref fa) →
      ∃ fd : FuncData, (∀ (s : Shared) (u : Value), BindsTo s fd ⟨[u], []⟩ [("script", u)]) ∧ ∀ base : Heap, (K w.params).In base → base.Ns mainGlobals mg → FnOk l.prog w (K w.params) mg base CX0 11 fa fd ["script"] (spLaw (K w.params))) :
    PySem.W.WalkO q loose XP YP l.row.toRowW d [] (fun f vs => PySem.call f vs) :=
  L2.walk_of (n := 63) (k := 11) (x := "script") (CX := fun _ => CX0) (sp := fun w => spLaw (K w.params)) hn (by decide) hdf ⟨rfl, by decide, by decide⟩ hY F (fun _ _ a ns hl _ hS => ⟨a, ns, rfl, hS, hl, fun _ => rfl⟩) fun _ _ _ _ _ z => z
end K4
def PySem.W.Fast.tw17656651918298786918 : Unit := ()
def PySem.W.Fast.tw8564977329425082091 : Unit := ()
def PySem.W.Fast.tw13117157396190063149 : Unit := ()
def PySem.W.Fast.tw16633325998240938829 : Unit := ()
def PySem.W.Fast.tw11828444119176587366 : Unit := ()
def PySem.W.Fast.tw18441717691139264747 : Unit := ()
def PySem.W.Fast.tw5417949337324768236 : Unit := ()
def PySem.W.Fast.tw17934229305167776003 : Unit := ()
def PySem.W.Fast.tw9327458239808804303 : Unit := ()
def PySem.W.Fast.tw614074438474648632 : Unit := ()
def PySem.W.Fast.tw4069974706633706977 : Unit := ()
def PySem.W.Fast.tw9570289663479391406 : Unit := ()
def PySem.W.Fast.tw8292943628809395548 : Unit := ()
def PySem.W.Fast.tw9849631754070274720 : Unit := ()
def PySem.W.Fast.tw4453464611874774585 : Unit := ()
def PySem.W.Fast.tw5362510040132127110 : Unit := ()
def PySem.W.Fast.tw7104431594761077527 : Unit := ()
def PySem.W.Fast.tw10877184973438365029 : Unit := ()
def PySem.W.Fast.tw8487951386401043890 : Unit := ()
open PySem PySem.W PyProof.Rows
set_option maxRecDepth 100000 in
set_option maxHeartbeats 0 in
theorem PySem.Challenge.cw_wantway_k02_no_kinds_holds : PySem.Challenge.rw_wantway_k02_no_kinds.Holds := by
  w_on; o_law; k_head; (case hw => w_witness2)
  k_fill
  refine K4.goes (l := PySem.Challenge.rw_wantway_k02_no_kinds) rfl rfl (fun w h Y => PySem.W.kIn_of Y) ?F
  case F =>
    intro w mg fa h KX G hmg
    refine' K4.all_at KX G hmg ?aC ?a1 ?l1 ?d1 ?k1 ?a2 ?l2 ?d2 ?k2 ?a3 ?l3 ?d3 ?k3 ?a4 ?l4 ?d4 ?k4 ?a5 ?l5 ?d5 ?k5 ?a6 ?l6 ?d6 ?k6 ?a7 ?l7 ?d7 ?k7 ?a8 ?l8 ?d8 ?k8 ?a9 ?l9 ?d9 ?k9 ?a10 ?l10 ?d10 ?k10 ?a11 ?l11 ?d11 ?k11 ?a12 ?l12 ?d12 ?k12 ?a13 ?l13 ?d13 ?k13 ?a14 ?l14 ?d14 ?k14 ?a15 ?l15 ?d15 ?k15 ?a16 ?l16 ?d16 ?k16 ?a17 ?l17 ?d17 ?k17 ?a18 ?l18 ?d18 ?k18 ?a19 ?l19 ?d19 ?k19 ?a20 ?l20 ?d20 ?k20 ?a21 ?i21 ?l21 ?d21 ?k21 ?a22 ?i22 ?l22 ?d22 ?k22 ?a23 ?i23 ?l23 ?d23 ?k23 ?a24 ?i24 ?l24 ?d24 ?k24 ?a25 ?i25 ?l25 ?d25 ?k25 ?z1 ?z2 ?z3 ?z4 ?z5 ?z6 ?z7 ?z8 ?z9 ?z10 ?z11 ?z12 ?z13 ?z14 ?z15 ?z16 ?g1 ?g2 ?g3 ?g4 ?g5 ?g6 ?g7 ?r1 ?r2 ?r3 ?r4 ?r5 ?r6 ?r7 ?pg ?hd ?po ?sa ?mk ?kc ?n1 ?n2 ?n3 ?n4 ?n5 ?n6 ?e1 ?e2 ?e3 ?e4 ?e5 ?e6 ?e7 ?e8 ?e9 ?e10 ?e11 ?e12 ?e13 ?e14 ?h2 ?h3 ?x2 ?x3 ?x4 ?x5 ?x6 ?x7 ?x8 ?x9 ?u1 ?u2 ?u3 ?u4 ?u5
    (case aC => k_is)
    (case a1 => k_is)
    (case l1 => k_is)
    (case d1 => k_is)
    (case k1 => k_is)
    (case a2 => k_is)
    (case l2 => k_is)
    (case d2 => k_is)
    (case k2 => k_is)
    (case a3 => k_is)
    (case l3 => k_is)
    (case d3 => k_is)
    (case k3 => k_is)
    (case a4 => k_is)
    (case l4 => k_is)
    (case d4 => k_is)
    (case k4 => k_is)
    (case a5 => k_is)
    (case l5 => k_is)
    (case d5 => k_is)
    (case k5 => k_is)
    (case a6 => k_is)
    (case l6 => k_is)
    (case d6 => k_is)
    (case k6 => k_is)
    (case a7 => k_is)
    (case l7 => k_is)
    (case d7 => k_is)
    (case k7 => k_is)
    (case a8 => k_is)
    (case l8 => k_is)
    (case d8 => k_is)
    (case k8 => k_is)
    (case a9 => k_is)
    (case l9 => k_is)
    (case d9 => k_is)
    (case k9 => k_is)
    (case a10 => k_is)
    (case l10 => k_is)
    (case d10 => k_is)
    (case k10 => k_is)
    (case a11 => k_is)
    (case l11 => k_is)
    (case d11 => k_is)
    (case k11 => k_is)
    (case a12 => k_is)
    (case l12 => k_is)
    (case d12 => k_is)
    (case k12 => k_is)
    (case a13 => k_is)
    (case l13 => k_is)
    (case d13 => k_is)
    (case k13 => k_is)
    (case a14 => k_is)
    (case l14 => k_is)
    (case d14 => k_is)
    (case k14 => k_is)
    (case a15 => k_is)
    (case l15 => k_is)
    (case d15 => k_is)
    (case k15 => k_is)
    (case a16 => k_is)
    (case l16 => k_is)
    (case d16 => k_is)
    (case k16 => k_is)
    (case a17 => k_is)
    (case l17 => k_is)
    (case d17 => k_is)
    (case k17 => k_is)
    (case a18 => k_is)
    (case l18 => k_is)
    (case d18 => k_is)
    (case k18 => k_is)
    (case a19 => k_is)
    (case l19 => k_is)
    (case d19 => k_is)
    (case k19 => k_is)
    (case a20 => k_is)
    (case l20 => k_is)
    (case d20 => k_is)
    (case k20 => k_is)
    (case a21 => k_is)
    (case i21 => k_is)
    (case l21 => k_is)
    (case d21 => k_is)
    (case k21 => k_is)
    (case a22 => k_is)
    (case i22 => k_is)
    (case l22 => k_is)
    (case d22 => k_is)
    (case k22 => k_is)
    (case a23 => k_is)
    (case i23 => k_is)
    (case l23 => k_is)
    (case d23 => k_is)
    (case k23 => k_is)
    (case a24 => k_is)
    (case i24 => k_is)
    (case l24 => k_is)
    (case d24 => k_is)
    (case k24 => k_is)
    (case a25 => k_is)
    (case i25 => k_is)
    (case l25 => k_is)
    (case d25 => k_is)
    (case k25 => k_is)
    (case z1 => k_is)
    (case z2 => k_is)
    (case z3 => k_is)
    (case z4 => k_is)
    (case z5 => k_is)
    (case z6 => k_is)
    (case z7 => k_is)
    (case z8 => k_is)
    (case z9 => k_is)
    (case z10 => k_is)
    (case z11 => k_is)
    (case z12 => k_is)
    (case z13 => k_is)
    (case z14 => k_is)
    (case z15 => k_is)
    (case z16 => k_is)
    (case g1 => k_is)
    (case g2 => k_is)
    (case g3 => k_is)
    (case g4 => k_is)
    (case g5 => k_is)
    (case g6 => k_is)
    (case g7 => k_is)
    (case r1 => exact ⟨_, rfl⟩)
    (case r2 => exact ⟨_, rfl⟩)
    (case r3 => exact ⟨_, rfl⟩)
    (case r4 => exact ⟨_, rfl⟩)
    (case r5 => exact ⟨_, rfl⟩)
    (case r6 => exact ⟨_, rfl⟩)
    (case r7 => exact ⟨_, rfl⟩)
    (case pg => k_is)
    (case hd => k_is)
    (case po => k_is)
    (case sa => k_is)
    (case mk => k_is)
    (case kc => k_is)
    (case n1 => k_is)
    (case n2 => k_is)
    (case n3 => k_is)
    (case n4 => k_is)
    (case n5 => k_is)
    (case n6 => k_is)
    (case e1 => k_is)
    (case e2 => k_is)
    (case e3 => k_is)
    (case e4 => k_is)
    (case e5 => k_is)
    (case e6 => k_is)
    (case e7 => k_is)
    (case e8 => k_is)
    (case e9 => k_is)
    (case e10 => k_is)
    (case e11 => k_is)
    (case e12 => k_is)
    (case e13 => k_is)
    (case e14 => k_is)
    (case h2 => k_is)
    (case h3 => k_is)
    (case x2 => k_is)
    (case x3 => k_is)
    (case x4 => k_is)
    (case x5 => k_is)
    (case x6 => k_is)
    (case x7 => k_is)
    (case x8 => k_is)
    (case x9 => k_exc)
    (case u1 => k_is)
    (case u2 => kit_is)
    (case u3 => kit_is)
    (case u4 => kit_is)
    (case u5 => kit_is)
